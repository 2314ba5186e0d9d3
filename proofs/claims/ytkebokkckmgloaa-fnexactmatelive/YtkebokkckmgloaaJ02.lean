import Derived.Test.YtkebokkckmgloaaJ01
/- The program's MateLive, case by case. -/
namespace Go.Proofs.Ytkebokkckmgloaa
open Go.RowKit
set_option linter.unusedVariables false

set_option maxHeartbeats 2000000 in
theorem implLive_U1f (c h c2 h2 : ByteArray) (v p s d g a b i u v2 p2 s2 d2 g2 clock : Int) (w : World) (ha : aliveB a = true) (h6 : (a == 6) = false) :
    Calls Try.prog 26 #[.agg #[.string c, .int .i64 v, .string h, .int .i64 p, .int .i64 s, .int .i64 d, .int .i64 g, .int .i64 a, .int .i64 b, .int .i64 i, .int .i64 u], .agg #[.string c2, .int .i64 v2, .string h2, .int .i64 p2, .int .i64 s2, .int .i64 d2, .int .i64 g2], .bool false, .int .i64 clock] w fun e w' => e = .returned (.tuple #[.agg #[.string c, .int .i64 v, .string h, .int .i64 p, .int .i64 s, .int .i64 d, .int .i64 g, .int .i64 6, .int .i64 g, .int .i64 i, .int .i64 u], .bool true]) ∧ Below w.heap.size w w' := by
  have hn1 := neq_func
  have hn0 := neq_nil
  go_enter Try.func26, Try.ntmps26
  go_wp2_with (first | (go_at_call 80; refine (runOf_any c h v p s d g a b i u _).mono ?_; rintro e w' ⟨rfl, rfl⟩) | (go_at_call 76; refine (alive_any a _).mono ?_; rintro e w' ⟨rfl, rfl⟩) | (go_at_call 176; refine (steps_any _).mono ?_; rintro e w' ⟨rfl, rfl⟩) | go_in)
  refine wp_loop_rounds 2 ?_
  rw [rounds_succ]
  go_wp2_with (first | (go_at_call 82; refine (told_any c h v p s d g 6 g i u _).mono ?_; rintro e w' ⟨rfl, rfl⟩) | go_in)
  rw [rounds_succ]
  go_wp2_with (first | (go_at_call 82; refine (told_any c h v p s d g 6 g i u _).mono ?_; rintro e w' ⟨rfl, rfl⟩) | go_in)
  exact bodyPost_ret (v := .tuple #[.agg #[.string c, .int .i64 v, .string h, .int .i64 p, .int .i64 s, .int .i64 d, .int .i64 g, .int .i64 6, .int .i64 g, .int .i64 i, .int .i64 u], .bool true]) (by simp [results, Try.results26, go_sem]) rfl ⟨rfl, by repeat (first | exact Below.refl _ _ | refine bl_alloc ?_ _ | refine bl_drew ?_)⟩

set_option maxHeartbeats 2000000 in
theorem implLive_S6af (c h c2 h2 : ByteArray) (v p s d g b i u v2 p2 s2 d2 g2 clock : Int) (w : World) (hb : 1 < b) (hbb : b ≤ 9223372036854775807) :
    Calls Try.prog 26 #[.agg #[.string c, .int .i64 v, .string h, .int .i64 p, .int .i64 s, .int .i64 d, .int .i64 g, .int .i64 6, .int .i64 b, .int .i64 i, .int .i64 u], .agg #[.string c2, .int .i64 v2, .string h2, .int .i64 p2, .int .i64 s2, .int .i64 d2, .int .i64 g2], .bool false, .int .i64 clock] w fun e w' => e = .returned (.tuple #[.agg #[.string c, .int .i64 v, .string h, .int .i64 p, .int .i64 s, .int .i64 d, .int .i64 g, .int .i64 6, .int .i64 (b - 1), .int .i64 i, .int .i64 u], .bool true]) ∧ Below w.heap.size w w' := by
  have hn1 := neq_func
  have hn0 := neq_nil
  go_enter Try.func26, Try.ntmps26
  go_wp2_with (first | (go_at_call 80; refine (runOf_any c h v p s d g 6 b i u _).mono ?_; rintro e w' ⟨rfl, rfl⟩) | (go_at_call 76; refine (alive_any 6 _).mono ?_; rintro e w' ⟨rfl, rfl⟩) | (go_at_call 176; refine (steps_any _).mono ?_; rintro e w' ⟨rfl, rfl⟩) | go_in)
  refine wp_loop_rounds 2 ?_
  rw [rounds_succ]
  go_wp2_with (first | (go_at_call 82; refine (told_any c h v p s d g 6 (b - 1) i u _).mono ?_; rintro e w' ⟨rfl, rfl⟩) | go_in)
  rw [rounds_succ]
  go_wp2_with (first | (go_at_call 82; refine (told_any c h v p s d g 6 (b - 1) i u _).mono ?_; rintro e w' ⟨rfl, rfl⟩) | go_in)
  exact bodyPost_ret (v := .tuple #[.agg #[.string c, .int .i64 v, .string h, .int .i64 p, .int .i64 s, .int .i64 d, .int .i64 g, .int .i64 6, .int .i64 (b - 1), .int .i64 i, .int .i64 u], .bool true]) (by simp [results, Try.results26, go_sem]) rfl ⟨rfl, by repeat (first | exact Below.refl _ _ | refine bl_alloc ?_ _ | refine bl_drew ?_)⟩

set_option maxHeartbeats 2000000 in
theorem implLive_S6at (c h c2 h2 : ByteArray) (v p s d g b i u v2 p2 s2 d2 g2 clock : Int) (w : World) (hb : 1 < b) (hbb : b ≤ 9223372036854775807) (heq : ∀ w, Sem.run Try.prog (binOp .eql 36 (.agg #[.string c2, .int .i64 v2, .string h2, .int .i64 p2, .int .i64 s2, .int .i64 d2, .int .i64 g2]) (.agg #[.string c, .int .i64 v, .string h, .int .i64 p, .int .i64 s, .int .i64 d, .int .i64 g])) w = .ok (.bool true) w) :
    Calls Try.prog 26 #[.agg #[.string c, .int .i64 v, .string h, .int .i64 p, .int .i64 s, .int .i64 d, .int .i64 g, .int .i64 6, .int .i64 b, .int .i64 i, .int .i64 u], .agg #[.string c2, .int .i64 v2, .string h2, .int .i64 p2, .int .i64 s2, .int .i64 d2, .int .i64 g2], .bool true, .int .i64 clock] w fun e w' => e = .returned (.tuple #[.agg #[.string c, .int .i64 v, .string h, .int .i64 p, .int .i64 s, .int .i64 d, .int .i64 g, .int .i64 6, .int .i64 (b - 1), .int .i64 i, .int .i64 u], .bool true]) ∧ Below w.heap.size w w' := by
  have hn1 := neq_func
  have hn0 := neq_nil
  go_enter Try.func26, Try.ntmps26
  go_wp2_with (first | (go_at_call 80; refine (runOf_any c h v p s d g 6 b i u _).mono ?_; rintro e w' ⟨rfl, rfl⟩) | (go_at_call 76; refine (alive_any 6 _).mono ?_; rintro e w' ⟨rfl, rfl⟩) | (go_at_call 176; refine (steps_any _).mono ?_; rintro e w' ⟨rfl, rfl⟩) | go_in)
  refine wp_loop_rounds 2 ?_
  rw [rounds_succ]
  go_wp2_with (first | (go_at_call 82; refine (told_any c h v p s d g 6 (b - 1) i u _).mono ?_; rintro e w' ⟨rfl, rfl⟩) | go_in)
  rw [rounds_succ]
  go_wp2_with (first | (go_at_call 82; refine (told_any c h v p s d g 6 (b - 1) i u _).mono ?_; rintro e w' ⟨rfl, rfl⟩) | go_in)
  exact bodyPost_ret (v := .tuple #[.agg #[.string c, .int .i64 v, .string h, .int .i64 p, .int .i64 s, .int .i64 d, .int .i64 g, .int .i64 6, .int .i64 (b - 1), .int .i64 i, .int .i64 u], .bool true]) (by simp [results, Try.results26, go_sem]) rfl ⟨rfl, by repeat (first | exact Below.refl _ _ | refine bl_alloc ?_ _ | refine bl_drew ?_)⟩

set_option maxHeartbeats 2000000 in
theorem implLive_T1n (c h c2 h2 : ByteArray) (v p s d g b i u v2 p2 s2 d2 g2 clock : Int) (w : World) (hb : b ≤ 1) (hl : leasedB h u clock = false) (heq : ∀ w, Sem.run Try.prog (binOp .eql 36 (.agg #[.string c2, .int .i64 v2, .string h2, .int .i64 p2, .int .i64 s2, .int .i64 d2, .int .i64 g2]) (.agg #[.string c, .int .i64 v, .string h, .int .i64 p, .int .i64 s, .int .i64 d, .int .i64 g])) w = .ok (.bool true) w) :
    Calls Try.prog 26 #[.agg #[.string c, .int .i64 v, .string h, .int .i64 p, .int .i64 s, .int .i64 d, .int .i64 g, .int .i64 1, .int .i64 b, .int .i64 i, .int .i64 u], .agg #[.string c2, .int .i64 v2, .string h2, .int .i64 p2, .int .i64 s2, .int .i64 d2, .int .i64 g2], .bool true, .int .i64 clock] w fun e w' => e = .returned (.tuple #[.agg #[.string c, .int .i64 v, .string h, .int .i64 p, .int .i64 s, .int .i64 d, .int .i64 g, .int .i64 2, .int .i64 0, .int .i64 i, .int .i64 u], .bool true]) ∧ Below w.heap.size w w' := by
  have hn1 := neq_func
  have hn0 := neq_nil
  go_enter Try.func26, Try.ntmps26
  go_wp2_with (first | (go_at_call 80; refine (runOf_any c h v p s d g 1 b i u _).mono ?_; rintro e w' ⟨rfl, rfl⟩) | (go_at_call 76; refine (alive_any 1 _).mono ?_; rintro e w' ⟨rfl, rfl⟩) | (go_at_call 176; refine (steps_any _).mono ?_; rintro e w' ⟨rfl, rfl⟩) | go_in)
  refine wp_loop_rounds 3 ?_
  rw [rounds_succ]
  go_wp2_with (first | (go_at_call 185; refine (begin_no c h v p s d g 1 b i u clock _ _ (by simp) hl).mono ?_; rintro e w' ⟨rfl, rfl⟩) | (go_at_call 82; refine (told_any c h v p s d g 2 0 i u _).mono ?_; rintro e w' ⟨rfl, rfl⟩) | go_in)
  rw [rounds_succ]
  go_wp2_with (first | (go_at_call 185; refine (begin_no c h v p s d g 1 b i u clock _ _ (by simp) hl).mono ?_; rintro e w' ⟨rfl, rfl⟩) | (go_at_call 82; refine (told_any c h v p s d g 2 0 i u _).mono ?_; rintro e w' ⟨rfl, rfl⟩) | go_in)
  rw [rounds_succ]
  go_wp2_with (first | (go_at_call 185; refine (begin_no c h v p s d g 1 b i u clock _ _ (by simp) hl).mono ?_; rintro e w' ⟨rfl, rfl⟩) | (go_at_call 82; refine (told_any c h v p s d g 2 0 i u _).mono ?_; rintro e w' ⟨rfl, rfl⟩) | go_in)
  exact bodyPost_ret (v := .tuple #[.agg #[.string c, .int .i64 v, .string h, .int .i64 p, .int .i64 s, .int .i64 d, .int .i64 g, .int .i64 2, .int .i64 0, .int .i64 i, .int .i64 u], .bool true]) (by simp [results, Try.results26, go_sem]) rfl ⟨rfl, by repeat (first | exact Below.refl _ _ | refine bl_alloc ?_ _ | refine bl_drew ?_)⟩

set_option maxHeartbeats 2000000 in
theorem implLive_T2y (c h c2 h2 : ByteArray) (v p s d g b i u v2 p2 s2 d2 g2 clock : Int) (w : World) (hl : leasedB h u clock = true) (heq : ∀ w, Sem.run Try.prog (binOp .eql 36 (.agg #[.string c2, .int .i64 v2, .string h2, .int .i64 p2, .int .i64 s2, .int .i64 d2, .int .i64 g2]) (.agg #[.string c, .int .i64 v, .string h, .int .i64 p, .int .i64 s, .int .i64 d, .int .i64 g])) w = .ok (.bool true) w) :
    Calls Try.prog 26 #[.agg #[.string c, .int .i64 v, .string h, .int .i64 p, .int .i64 s, .int .i64 d, .int .i64 g, .int .i64 2, .int .i64 b, .int .i64 i, .int .i64 u], .agg #[.string c2, .int .i64 v2, .string h2, .int .i64 p2, .int .i64 s2, .int .i64 d2, .int .i64 g2], .bool true, .int .i64 clock] w fun e w' => e = .returned (.tuple #[.agg #[.string c, .int .i64 v, .string h, .int .i64 p, .int .i64 s, .int .i64 d, .int .i64 g, .int .i64 3, .int .i64 s, .int .i64 i, .int .i64 u], .bool true]) ∧ Below w.heap.size w w' := by
  have hn1 := neq_func
  have hn0 := neq_nil
  go_enter Try.func26, Try.ntmps26
  go_wp2_with (first | (go_at_call 80; refine (runOf_any c h v p s d g 2 b i u _).mono ?_; rintro e w' ⟨rfl, rfl⟩) | (go_at_call 76; refine (alive_any 2 _).mono ?_; rintro e w' ⟨rfl, rfl⟩) | (go_at_call 176; refine (steps_any _).mono ?_; rintro e w' ⟨rfl, rfl⟩) | go_in)
  refine wp_loop_rounds 2 ?_
  rw [rounds_succ]
  go_wp2_with (first | (go_at_call 185; refine (begin_yes c h v p s d g 2 b i u clock _ _ (by simp) hl).mono ?_; rintro e w' ⟨rfl, rfl⟩) | (go_at_call 82; refine (told_any c h v p s d g 3 s i u _).mono ?_; rintro e w' ⟨rfl, rfl⟩) | go_in)
  rw [rounds_succ]
  go_wp2_with (first | (go_at_call 185; refine (begin_yes c h v p s d g 2 b i u clock _ _ (by simp) hl).mono ?_; rintro e w' ⟨rfl, rfl⟩) | (go_at_call 82; refine (told_any c h v p s d g 3 s i u _).mono ?_; rintro e w' ⟨rfl, rfl⟩) | go_in)
  exact bodyPost_ret (v := .tuple #[.agg #[.string c, .int .i64 v, .string h, .int .i64 p, .int .i64 s, .int .i64 d, .int .i64 g, .int .i64 3, .int .i64 s, .int .i64 i, .int .i64 u], .bool true]) (by simp [results, Try.results26, go_sem]) rfl ⟨rfl, by repeat (first | exact Below.refl _ _ | refine bl_alloc ?_ _ | refine bl_drew ?_)⟩

set_option maxHeartbeats 2000000 in
theorem implLive_T4a (c h c2 h2 : ByteArray) (v p s d g b i u v2 p2 s2 d2 g2 clock : Int) (w : World) (hb : 1 < b) (hbb : b ≤ 9223372036854775807) (hb1 : (b == 1) = false) (heq : ∀ w, Sem.run Try.prog (binOp .eql 36 (.agg #[.string c2, .int .i64 v2, .string h2, .int .i64 p2, .int .i64 s2, .int .i64 d2, .int .i64 g2]) (.agg #[.string c, .int .i64 v, .string h, .int .i64 p, .int .i64 s, .int .i64 d, .int .i64 g])) w = .ok (.bool true) w) :
    Calls Try.prog 26 #[.agg #[.string c, .int .i64 v, .string h, .int .i64 p, .int .i64 s, .int .i64 d, .int .i64 g, .int .i64 4, .int .i64 b, .int .i64 i, .int .i64 u], .agg #[.string c2, .int .i64 v2, .string h2, .int .i64 p2, .int .i64 s2, .int .i64 d2, .int .i64 g2], .bool true, .int .i64 clock] w fun e w' => e = .returned (.tuple #[.agg #[.string c, .int .i64 v, .string h, .int .i64 p, .int .i64 s, .int .i64 d, .int .i64 g, .int .i64 4, .int .i64 (b - 1), .int .i64 i, .int .i64 u], .bool true]) ∧ Below w.heap.size w w' := by
  have hn1 := neq_func
  have hn0 := neq_nil
  go_enter Try.func26, Try.ntmps26
  go_wp2_with (first | (go_at_call 80; refine (runOf_any c h v p s d g 4 b i u _).mono ?_; rintro e w' ⟨rfl, rfl⟩) | (go_at_call 76; refine (alive_any 4 _).mono ?_; rintro e w' ⟨rfl, rfl⟩) | (go_at_call 176; refine (steps_any _).mono ?_; rintro e w' ⟨rfl, rfl⟩) | go_in)
  refine wp_loop_rounds 2 ?_
  rw [rounds_succ]
  go_wp2_with (first | (go_at_call 82; refine (told_any c h v p s d g 4 (b - 1) i u _).mono ?_; rintro e w' ⟨rfl, rfl⟩) | go_in)
  rw [rounds_succ]
  go_wp2_with (first | (go_at_call 82; refine (told_any c h v p s d g 4 (b - 1) i u _).mono ?_; rintro e w' ⟨rfl, rfl⟩) | go_in)
  exact bodyPost_ret (v := .tuple #[.agg #[.string c, .int .i64 v, .string h, .int .i64 p, .int .i64 s, .int .i64 d, .int .i64 g, .int .i64 4, .int .i64 (b - 1), .int .i64 i, .int .i64 u], .bool true]) (by simp [results, Try.results26, go_sem]) rfl ⟨rfl, by repeat (first | exact Below.refl _ _ | refine bl_alloc ?_ _ | refine bl_drew ?_)⟩

set_option maxHeartbeats 2000000 in
theorem implLive_OLa (c h c2 h2 : ByteArray) (v p s d g a b i u v2 p2 s2 d2 g2 clock : Int) (w : World) (ha : a < 1) (hb : 1 < b) (hbb : b ≤ 9223372036854775807) (heq : ∀ w, Sem.run Try.prog (binOp .eql 36 (.agg #[.string c2, .int .i64 v2, .string h2, .int .i64 p2, .int .i64 s2, .int .i64 d2, .int .i64 g2]) (.agg #[.string c, .int .i64 v, .string h, .int .i64 p, .int .i64 s, .int .i64 d, .int .i64 g])) w = .ok (.bool true) w) :
    Calls Try.prog 26 #[.agg #[.string c, .int .i64 v, .string h, .int .i64 p, .int .i64 s, .int .i64 d, .int .i64 g, .int .i64 a, .int .i64 b, .int .i64 i, .int .i64 u], .agg #[.string c2, .int .i64 v2, .string h2, .int .i64 p2, .int .i64 s2, .int .i64 d2, .int .i64 g2], .bool true, .int .i64 clock] w fun e w' => e = .returned (.tuple #[.agg #[.string c, .int .i64 v, .string h, .int .i64 p, .int .i64 s, .int .i64 d, .int .i64 g, .int .i64 a, .int .i64 (b - 1), .int .i64 i, .int .i64 u], .bool true]) ∧ Below w.heap.size w w' := by
  have hn1 := neq_func
  have hn0 := neq_nil
  go_enter Try.func26, Try.ntmps26
  go_wp2_with (first | (go_at_call 80; refine (runOf_any c h v p s d g a b i u _).mono ?_; rintro e w' ⟨rfl, rfl⟩) | (go_at_call 76; refine (alive_any a _).mono ?_; rintro e w' ⟨rfl, rfl⟩) | (go_at_call 176; refine (steps_any _).mono ?_; rintro e w' ⟨rfl, rfl⟩) | go_in)
  refine wp_loop_rounds 2 ?_
  rw [rounds_succ]
  go_wp2_with (first | (go_at_call 82; refine (told_any c h v p s d g a (b - 1) i u _).mono ?_; rintro e w' ⟨rfl, rfl⟩) | go_in)
  rw [rounds_succ]
  go_wp2_with (first | (go_at_call 82; refine (told_any c h v p s d g a (b - 1) i u _).mono ?_; rintro e w' ⟨rfl, rfl⟩) | go_in)
  exact bodyPost_ret (v := .tuple #[.agg #[.string c, .int .i64 v, .string h, .int .i64 p, .int .i64 s, .int .i64 d, .int .i64 g, .int .i64 a, .int .i64 (b - 1), .int .i64 i, .int .i64 u], .bool true]) (by simp [results, Try.results26, go_sem]) rfl ⟨rfl, by repeat (first | exact Below.refl _ _ | refine bl_alloc ?_ _ | refine bl_drew ?_)⟩
end Go.Proofs.Ytkebokkckmgloaa
/- The program's MateLive, case by case. -/
namespace Go.Proofs.Ytkebokkckmgloaa
open Go.RowKit
set_option linter.unusedVariables false

set_option maxHeartbeats 2000000 in
theorem implLive_U0f (c h c2 h2 : ByteArray) (v p s d g a b i u v2 p2 s2 d2 g2 clock : Int) (w : World) (ha : aliveB a = false) (h6 : (a == 6) = false) :
    Calls Try.prog 26 #[.agg #[.string c, .int .i64 v, .string h, .int .i64 p, .int .i64 s, .int .i64 d, .int .i64 g, .int .i64 a, .int .i64 b, .int .i64 i, .int .i64 u], .agg #[.string c2, .int .i64 v2, .string h2, .int .i64 p2, .int .i64 s2, .int .i64 d2, .int .i64 g2], .bool false, .int .i64 clock] w fun e w' => e = .returned (.tuple #[.agg #[.string ⟨#[]⟩, .int .i64 0, .string ⟨#[]⟩, .int .i64 0, .int .i64 0, .int .i64 0, .int .i64 0, .int .i64 0, .int .i64 0, .int .i64 0, .int .i64 0], .bool false]) ∧ Below w.heap.size w w' := by
  have hn1 := neq_func
  have hn0 := neq_nil
  go_enter Try.func26, Try.ntmps26
  go_wp2_with (first | (go_at_call 80; refine (runOf_any c h v p s d g a b i u _).mono ?_; rintro e w' ⟨rfl, rfl⟩) | (go_at_call 76; refine (alive_any a _).mono ?_; rintro e w' ⟨rfl, rfl⟩) | (go_at_call 176; refine (steps_any _).mono ?_; rintro e w' ⟨rfl, rfl⟩) | go_in)
  refine wp_loop_rounds 2 ?_
  rw [rounds_succ]
  go_wp2_with (first | go_in)
  rw [rounds_succ]
  go_wp2_with (first | go_in)
  exact bodyPost_ret (v := .tuple #[.agg #[.string ⟨#[]⟩, .int .i64 0, .string ⟨#[]⟩, .int .i64 0, .int .i64 0, .int .i64 0, .int .i64 0, .int .i64 0, .int .i64 0, .int .i64 0, .int .i64 0], .bool false]) (by simp [results, Try.results26, go_sem]) rfl ⟨rfl, by repeat (first | exact Below.refl _ _ | refine bl_alloc ?_ _ | refine bl_drew ?_)⟩

set_option maxHeartbeats 2000000 in
theorem implLive_S6bf (c h c2 h2 : ByteArray) (v p s d g b i u v2 p2 s2 d2 g2 clock : Int) (w : World) (hb : b ≤ 1) :
    Calls Try.prog 26 #[.agg #[.string c, .int .i64 v, .string h, .int .i64 p, .int .i64 s, .int .i64 d, .int .i64 g, .int .i64 6, .int .i64 b, .int .i64 i, .int .i64 u], .agg #[.string c2, .int .i64 v2, .string h2, .int .i64 p2, .int .i64 s2, .int .i64 d2, .int .i64 g2], .bool false, .int .i64 clock] w fun e w' => e = .returned (.tuple #[.agg #[.string ⟨#[]⟩, .int .i64 0, .string ⟨#[]⟩, .int .i64 0, .int .i64 0, .int .i64 0, .int .i64 0, .int .i64 0, .int .i64 0, .int .i64 0, .int .i64 0], .bool false]) ∧ Below w.heap.size w w' := by
  have hn1 := neq_func
  have hn0 := neq_nil
  go_enter Try.func26, Try.ntmps26
  go_wp2_with (first | (go_at_call 80; refine (runOf_any c h v p s d g 6 b i u _).mono ?_; rintro e w' ⟨rfl, rfl⟩) | (go_at_call 76; refine (alive_any 6 _).mono ?_; rintro e w' ⟨rfl, rfl⟩) | (go_at_call 176; refine (steps_any _).mono ?_; rintro e w' ⟨rfl, rfl⟩) | go_in)
  refine wp_loop_rounds 3 ?_
  rw [rounds_succ]
  go_wp2_with (first | go_in)
  rw [rounds_succ]
  go_wp2_with (first | go_in)
  rw [rounds_succ]
  go_wp2_with (first | go_in)
  exact bodyPost_ret (v := .tuple #[.agg #[.string ⟨#[]⟩, .int .i64 0, .string ⟨#[]⟩, .int .i64 0, .int .i64 0, .int .i64 0, .int .i64 0, .int .i64 0, .int .i64 0, .int .i64 0, .int .i64 0], .bool false]) (by simp [results, Try.results26, go_sem]) rfl ⟨rfl, by repeat (first | exact Below.refl _ _ | refine bl_alloc ?_ _ | refine bl_drew ?_)⟩

set_option maxHeartbeats 2000000 in
theorem implLive_S6bt (c h c2 h2 : ByteArray) (v p s d g b i u v2 p2 s2 d2 g2 clock : Int) (w : World) (hb : b ≤ 1) (heq : ∀ w, Sem.run Try.prog (binOp .eql 36 (.agg #[.string c2, .int .i64 v2, .string h2, .int .i64 p2, .int .i64 s2, .int .i64 d2, .int .i64 g2]) (.agg #[.string c, .int .i64 v, .string h, .int .i64 p, .int .i64 s, .int .i64 d, .int .i64 g])) w = .ok (.bool true) w) :
    Calls Try.prog 26 #[.agg #[.string c, .int .i64 v, .string h, .int .i64 p, .int .i64 s, .int .i64 d, .int .i64 g, .int .i64 6, .int .i64 b, .int .i64 i, .int .i64 u], .agg #[.string c2, .int .i64 v2, .string h2, .int .i64 p2, .int .i64 s2, .int .i64 d2, .int .i64 g2], .bool true, .int .i64 clock] w fun e w' => e = .returned (.tuple #[.agg #[.string ⟨#[]⟩, .int .i64 0, .string ⟨#[]⟩, .int .i64 0, .int .i64 0, .int .i64 0, .int .i64 0, .int .i64 0, .int .i64 0, .int .i64 0, .int .i64 0], .bool false]) ∧ Below w.heap.size w w' := by
  have hn1 := neq_func
  have hn0 := neq_nil
  go_enter Try.func26, Try.ntmps26
  go_wp2_with (first | (go_at_call 80; refine (runOf_any c h v p s d g 6 b i u _).mono ?_; rintro e w' ⟨rfl, rfl⟩) | (go_at_call 76; refine (alive_any 6 _).mono ?_; rintro e w' ⟨rfl, rfl⟩) | (go_at_call 176; refine (steps_any _).mono ?_; rintro e w' ⟨rfl, rfl⟩) | go_in)
  refine wp_loop_rounds 3 ?_
  rw [rounds_succ]
  go_wp2_with (first | go_in)
  rw [rounds_succ]
  go_wp2_with (first | go_in)
  rw [rounds_succ]
  go_wp2_with (first | go_in)
  exact bodyPost_ret (v := .tuple #[.agg #[.string ⟨#[]⟩, .int .i64 0, .string ⟨#[]⟩, .int .i64 0, .int .i64 0, .int .i64 0, .int .i64 0, .int .i64 0, .int .i64 0, .int .i64 0, .int .i64 0], .bool false]) (by simp [results, Try.results26, go_sem]) rfl ⟨rfl, by repeat (first | exact Below.refl _ _ | refine bl_alloc ?_ _ | refine bl_drew ?_)⟩

set_option maxHeartbeats 2000000 in
theorem implLive_T5a (c h c2 h2 : ByteArray) (v p s d g b i u v2 p2 s2 d2 g2 clock : Int) (w : World) (hb : 1 < b) (hbb : b ≤ 9223372036854775807) (heq : ∀ w, Sem.run Try.prog (binOp .eql 36 (.agg #[.string c2, .int .i64 v2, .string h2, .int .i64 p2, .int .i64 s2, .int .i64 d2, .int .i64 g2]) (.agg #[.string c, .int .i64 v, .string h, .int .i64 p, .int .i64 s, .int .i64 d, .int .i64 g])) w = .ok (.bool true) w) :
    Calls Try.prog 26 #[.agg #[.string c, .int .i64 v, .string h, .int .i64 p, .int .i64 s, .int .i64 d, .int .i64 g, .int .i64 5, .int .i64 b, .int .i64 i, .int .i64 u], .agg #[.string c2, .int .i64 v2, .string h2, .int .i64 p2, .int .i64 s2, .int .i64 d2, .int .i64 g2], .bool true, .int .i64 clock] w fun e w' => e = .returned (.tuple #[.agg #[.string c, .int .i64 v, .string h, .int .i64 p, .int .i64 s, .int .i64 d, .int .i64 g, .int .i64 5, .int .i64 (b - 1), .int .i64 i, .int .i64 u], .bool true]) ∧ Below w.heap.size w w' := by
  have hn1 := neq_func
  have hn0 := neq_nil
  go_enter Try.func26, Try.ntmps26
  go_wp2_with (first | (go_at_call 80; refine (runOf_any c h v p s d g 5 b i u _).mono ?_; rintro e w' ⟨rfl, rfl⟩) | (go_at_call 76; refine (alive_any 5 _).mono ?_; rintro e w' ⟨rfl, rfl⟩) | (go_at_call 176; refine (steps_any _).mono ?_; rintro e w' ⟨rfl, rfl⟩) | go_in)
  refine wp_loop_rounds 2 ?_
  rw [rounds_succ]
  go_wp2_with (first | (go_at_call 82; refine (told_any c h v p s d g 5 (b - 1) i u _).mono ?_; rintro e w' ⟨rfl, rfl⟩) | go_in)
  rw [rounds_succ]
  go_wp2_with (first | (go_at_call 82; refine (told_any c h v p s d g 5 (b - 1) i u _).mono ?_; rintro e w' ⟨rfl, rfl⟩) | go_in)
  exact bodyPost_ret (v := .tuple #[.agg #[.string c, .int .i64 v, .string h, .int .i64 p, .int .i64 s, .int .i64 d, .int .i64 g, .int .i64 5, .int .i64 (b - 1), .int .i64 i, .int .i64 u], .bool true]) (by simp [results, Try.results26, go_sem]) rfl ⟨rfl, by repeat (first | exact Below.refl _ _ | refine bl_alloc ?_ _ | refine bl_drew ?_)⟩

set_option maxHeartbeats 2000000 in
theorem implLive_T2n (c h c2 h2 : ByteArray) (v p s d g b i u v2 p2 s2 d2 g2 clock : Int) (w : World) (hl : leasedB h u clock = false) (heq : ∀ w, Sem.run Try.prog (binOp .eql 36 (.agg #[.string c2, .int .i64 v2, .string h2, .int .i64 p2, .int .i64 s2, .int .i64 d2, .int .i64 g2]) (.agg #[.string c, .int .i64 v, .string h, .int .i64 p, .int .i64 s, .int .i64 d, .int .i64 g])) w = .ok (.bool true) w) :
    Calls Try.prog 26 #[.agg #[.string c, .int .i64 v, .string h, .int .i64 p, .int .i64 s, .int .i64 d, .int .i64 g, .int .i64 2, .int .i64 b, .int .i64 i, .int .i64 u], .agg #[.string c2, .int .i64 v2, .string h2, .int .i64 p2, .int .i64 s2, .int .i64 d2, .int .i64 g2], .bool true, .int .i64 clock] w fun e w' => e = .returned (.tuple #[.agg #[.string c, .int .i64 v, .string h, .int .i64 p, .int .i64 s, .int .i64 d, .int .i64 g, .int .i64 2, .int .i64 0, .int .i64 i, .int .i64 u], .bool true]) ∧ Below w.heap.size w w' := by
  have hn1 := neq_func
  have hn0 := neq_nil
  go_enter Try.func26, Try.ntmps26
  go_wp2_with (first | (go_at_call 80; refine (runOf_any c h v p s d g 2 b i u _).mono ?_; rintro e w' ⟨rfl, rfl⟩) | (go_at_call 76; refine (alive_any 2 _).mono ?_; rintro e w' ⟨rfl, rfl⟩) | (go_at_call 176; refine (steps_any _).mono ?_; rintro e w' ⟨rfl, rfl⟩) | go_in)
  refine wp_loop_rounds 2 ?_
  rw [rounds_succ]
  go_wp2_with (first | (go_at_call 185; refine (begin_no c h v p s d g 2 b i u clock _ _ (by simp) hl).mono ?_; rintro e w' ⟨rfl, rfl⟩) | (go_at_call 82; refine (told_any c h v p s d g 2 0 i u _).mono ?_; rintro e w' ⟨rfl, rfl⟩) | go_in)
  rw [rounds_succ]
  go_wp2_with (first | (go_at_call 185; refine (begin_no c h v p s d g 2 b i u clock _ _ (by simp) hl).mono ?_; rintro e w' ⟨rfl, rfl⟩) | (go_at_call 82; refine (told_any c h v p s d g 2 0 i u _).mono ?_; rintro e w' ⟨rfl, rfl⟩) | go_in)
  exact bodyPost_ret (v := .tuple #[.agg #[.string c, .int .i64 v, .string h, .int .i64 p, .int .i64 s, .int .i64 d, .int .i64 g, .int .i64 2, .int .i64 0, .int .i64 i, .int .i64 u], .bool true]) (by simp [results, Try.results26, go_sem]) rfl ⟨rfl, by repeat (first | exact Below.refl _ _ | refine bl_alloc ?_ _ | refine bl_drew ?_)⟩

set_option maxHeartbeats 2000000 in
theorem implLive_T4z (c h c2 h2 : ByteArray) (v p s d g b i u v2 p2 s2 d2 g2 clock : Int) (w : World) (hb : b ≤ 0) (hb1 : (b == 1) = false) (heq : ∀ w, Sem.run Try.prog (binOp .eql 36 (.agg #[.string c2, .int .i64 v2, .string h2, .int .i64 p2, .int .i64 s2, .int .i64 d2, .int .i64 g2]) (.agg #[.string c, .int .i64 v, .string h, .int .i64 p, .int .i64 s, .int .i64 d, .int .i64 g])) w = .ok (.bool true) w) :
    Calls Try.prog 26 #[.agg #[.string c, .int .i64 v, .string h, .int .i64 p, .int .i64 s, .int .i64 d, .int .i64 g, .int .i64 4, .int .i64 b, .int .i64 i, .int .i64 u], .agg #[.string c2, .int .i64 v2, .string h2, .int .i64 p2, .int .i64 s2, .int .i64 d2, .int .i64 g2], .bool true, .int .i64 clock] w fun e w' => e = .returned (.tuple #[.agg #[.string c, .int .i64 v, .string h, .int .i64 p, .int .i64 s, .int .i64 d, .int .i64 g, .int .i64 4, .int .i64 b, .int .i64 i, .int .i64 u], .bool true]) ∧ Below w.heap.size w w' := by
  have hn1 := neq_func
  have hn0 := neq_nil
  go_enter Try.func26, Try.ntmps26
  go_wp2_with (first | (go_at_call 80; refine (runOf_any c h v p s d g 4 b i u _).mono ?_; rintro e w' ⟨rfl, rfl⟩) | (go_at_call 76; refine (alive_any 4 _).mono ?_; rintro e w' ⟨rfl, rfl⟩) | (go_at_call 176; refine (steps_any _).mono ?_; rintro e w' ⟨rfl, rfl⟩) | go_in)
  refine wp_loop_rounds 2 ?_
  rw [rounds_succ]
  go_wp2_with (first | (go_at_call 82; refine (told_any c h v p s d g 4 b i u _).mono ?_; rintro e w' ⟨rfl, rfl⟩) | go_in)
  rw [rounds_succ]
  go_wp2_with (first | (go_at_call 82; refine (told_any c h v p s d g 4 b i u _).mono ?_; rintro e w' ⟨rfl, rfl⟩) | go_in)
  exact bodyPost_ret (v := .tuple #[.agg #[.string c, .int .i64 v, .string h, .int .i64 p, .int .i64 s, .int .i64 d, .int .i64 g, .int .i64 4, .int .i64 b, .int .i64 i, .int .i64 u], .bool true]) (by simp [results, Try.results26, go_sem]) rfl ⟨rfl, by repeat (first | exact Below.refl _ _ | refine bl_alloc ?_ _ | refine bl_drew ?_)⟩

set_option maxHeartbeats 2000000 in
theorem implLive_OLb (c h c2 h2 : ByteArray) (v p s d g a b i u v2 p2 s2 d2 g2 clock : Int) (w : World) (ha : a < 1) (hb : b ≤ 1) (heq : ∀ w, Sem.run Try.prog (binOp .eql 36 (.agg #[.string c2, .int .i64 v2, .string h2, .int .i64 p2, .int .i64 s2, .int .i64 d2, .int .i64 g2]) (.agg #[.string c, .int .i64 v, .string h, .int .i64 p, .int .i64 s, .int .i64 d, .int .i64 g])) w = .ok (.bool true) w) :
    Calls Try.prog 26 #[.agg #[.string c, .int .i64 v, .string h, .int .i64 p, .int .i64 s, .int .i64 d, .int .i64 g, .int .i64 a, .int .i64 b, .int .i64 i, .int .i64 u], .agg #[.string c2, .int .i64 v2, .string h2, .int .i64 p2, .int .i64 s2, .int .i64 d2, .int .i64 g2], .bool true, .int .i64 clock] w fun e w' => e = .returned (.tuple #[.agg #[.string c, .int .i64 v, .string h, .int .i64 p, .int .i64 s, .int .i64 d, .int .i64 g, .int .i64 a, .int .i64 b, .int .i64 i, .int .i64 u], .bool true]) ∧ Below w.heap.size w w' := by
  have hn1 := neq_func
  have hn0 := neq_nil
  go_enter Try.func26, Try.ntmps26
  go_wp2_with (first | (go_at_call 80; refine (runOf_any c h v p s d g a b i u _).mono ?_; rintro e w' ⟨rfl, rfl⟩) | (go_at_call 76; refine (alive_any a _).mono ?_; rintro e w' ⟨rfl, rfl⟩) | (go_at_call 176; refine (steps_any _).mono ?_; rintro e w' ⟨rfl, rfl⟩) | go_in)
  refine wp_loop_rounds 2 ?_
  rw [rounds_succ]
  go_wp2_with (first | (go_at_call 82; refine (told_any c h v p s d g a b i u _).mono ?_; rintro e w' ⟨rfl, rfl⟩) | go_in)
  rw [rounds_succ]
  go_wp2_with (first | (go_at_call 82; refine (told_any c h v p s d g a b i u _).mono ?_; rintro e w' ⟨rfl, rfl⟩) | go_in)
  exact bodyPost_ret (v := .tuple #[.agg #[.string c, .int .i64 v, .string h, .int .i64 p, .int .i64 s, .int .i64 d, .int .i64 g, .int .i64 a, .int .i64 b, .int .i64 i, .int .i64 u], .bool true]) (by simp [results, Try.results26, go_sem]) rfl ⟨rfl, by repeat (first | exact Below.refl _ _ | refine bl_alloc ?_ _ | refine bl_drew ?_)⟩
end Go.Proofs.Ytkebokkckmgloaa
/- The program's MateLive, case by case. -/
namespace Go.Proofs.Ytkebokkckmgloaa
open Go.RowKit
set_option linter.unusedVariables false

set_option maxHeartbeats 2000000 in
theorem implLive_U1t (c h c2 h2 : ByteArray) (v p s d g a b i u v2 p2 s2 d2 g2 clock : Int) (w : World) (ha : aliveB a = true) (h6 : (a == 6) = false) (heq : ∀ w, Sem.run Try.prog (binOp .eql 36 (.agg #[.string c2, .int .i64 v2, .string h2, .int .i64 p2, .int .i64 s2, .int .i64 d2, .int .i64 g2]) (.agg #[.string c, .int .i64 v, .string h, .int .i64 p, .int .i64 s, .int .i64 d, .int .i64 g])) w = .ok (.bool false) w) :
    Calls Try.prog 26 #[.agg #[.string c, .int .i64 v, .string h, .int .i64 p, .int .i64 s, .int .i64 d, .int .i64 g, .int .i64 a, .int .i64 b, .int .i64 i, .int .i64 u], .agg #[.string c2, .int .i64 v2, .string h2, .int .i64 p2, .int .i64 s2, .int .i64 d2, .int .i64 g2], .bool true, .int .i64 clock] w fun e w' => e = .returned (.tuple #[.agg #[.string c, .int .i64 v, .string h, .int .i64 p, .int .i64 s, .int .i64 d, .int .i64 g, .int .i64 6, .int .i64 g, .int .i64 i, .int .i64 u], .bool true]) ∧ Below w.heap.size w w' := by
  have hn1 := neq_func
  have hn0 := neq_nil
  go_enter Try.func26, Try.ntmps26
  go_wp2_with (first | (go_at_call 80; refine (runOf_any c h v p s d g a b i u _).mono ?_; rintro e w' ⟨rfl, rfl⟩) | (go_at_call 76; refine (alive_any a _).mono ?_; rintro e w' ⟨rfl, rfl⟩) | (go_at_call 176; refine (steps_any _).mono ?_; rintro e w' ⟨rfl, rfl⟩) | go_in)
  refine wp_loop_rounds 2 ?_
  rw [rounds_succ]
  go_wp2_with (first | (go_at_call 82; refine (told_any c h v p s d g 6 g i u _).mono ?_; rintro e w' ⟨rfl, rfl⟩) | go_in)
  rw [rounds_succ]
  go_wp2_with (first | (go_at_call 82; refine (told_any c h v p s d g 6 g i u _).mono ?_; rintro e w' ⟨rfl, rfl⟩) | go_in)
  exact bodyPost_ret (v := .tuple #[.agg #[.string c, .int .i64 v, .string h, .int .i64 p, .int .i64 s, .int .i64 d, .int .i64 g, .int .i64 6, .int .i64 g, .int .i64 i, .int .i64 u], .bool true]) (by simp [results, Try.results26, go_sem]) rfl ⟨rfl, by repeat (first | exact Below.refl _ _ | refine bl_alloc ?_ _ | refine bl_drew ?_)⟩

set_option maxHeartbeats 2000000 in
theorem implLive_S6an (c h c2 h2 : ByteArray) (v p s d g b i u v2 p2 s2 d2 g2 clock : Int) (w : World) (hb : 1 < b) (hbb : b ≤ 9223372036854775807) (heq : ∀ w, Sem.run Try.prog (binOp .eql 36 (.agg #[.string c2, .int .i64 v2, .string h2, .int .i64 p2, .int .i64 s2, .int .i64 d2, .int .i64 g2]) (.agg #[.string c, .int .i64 v, .string h, .int .i64 p, .int .i64 s, .int .i64 d, .int .i64 g])) w = .ok (.bool false) w) :
    Calls Try.prog 26 #[.agg #[.string c, .int .i64 v, .string h, .int .i64 p, .int .i64 s, .int .i64 d, .int .i64 g, .int .i64 6, .int .i64 b, .int .i64 i, .int .i64 u], .agg #[.string c2, .int .i64 v2, .string h2, .int .i64 p2, .int .i64 s2, .int .i64 d2, .int .i64 g2], .bool true, .int .i64 clock] w fun e w' => e = .returned (.tuple #[.agg #[.string c, .int .i64 v, .string h, .int .i64 p, .int .i64 s, .int .i64 d, .int .i64 g, .int .i64 6, .int .i64 (b - 1), .int .i64 i, .int .i64 u], .bool true]) ∧ Below w.heap.size w w' := by
  have hn1 := neq_func
  have hn0 := neq_nil
  go_enter Try.func26, Try.ntmps26
  go_wp2_with (first | (go_at_call 80; refine (runOf_any c h v p s d g 6 b i u _).mono ?_; rintro e w' ⟨rfl, rfl⟩) | (go_at_call 76; refine (alive_any 6 _).mono ?_; rintro e w' ⟨rfl, rfl⟩) | (go_at_call 176; refine (steps_any _).mono ?_; rintro e w' ⟨rfl, rfl⟩) | go_in)
  refine wp_loop_rounds 2 ?_
  rw [rounds_succ]
  go_wp2_with (first | (go_at_call 82; refine (told_any c h v p s d g 6 (b - 1) i u _).mono ?_; rintro e w' ⟨rfl, rfl⟩) | go_in)
  rw [rounds_succ]
  go_wp2_with (first | (go_at_call 82; refine (told_any c h v p s d g 6 (b - 1) i u _).mono ?_; rintro e w' ⟨rfl, rfl⟩) | go_in)
  exact bodyPost_ret (v := .tuple #[.agg #[.string c, .int .i64 v, .string h, .int .i64 p, .int .i64 s, .int .i64 d, .int .i64 g, .int .i64 6, .int .i64 (b - 1), .int .i64 i, .int .i64 u], .bool true]) (by simp [results, Try.results26, go_sem]) rfl ⟨rfl, by repeat (first | exact Below.refl _ _ | refine bl_alloc ?_ _ | refine bl_drew ?_)⟩

set_option maxHeartbeats 2000000 in
theorem implLive_T1a (c h c2 h2 : ByteArray) (v p s d g b i u v2 p2 s2 d2 g2 clock : Int) (w : World) (hb : 1 < b) (hbb : b ≤ 9223372036854775807) (heq : ∀ w, Sem.run Try.prog (binOp .eql 36 (.agg #[.string c2, .int .i64 v2, .string h2, .int .i64 p2, .int .i64 s2, .int .i64 d2, .int .i64 g2]) (.agg #[.string c, .int .i64 v, .string h, .int .i64 p, .int .i64 s, .int .i64 d, .int .i64 g])) w = .ok (.bool true) w) :
    Calls Try.prog 26 #[.agg #[.string c, .int .i64 v, .string h, .int .i64 p, .int .i64 s, .int .i64 d, .int .i64 g, .int .i64 1, .int .i64 b, .int .i64 i, .int .i64 u], .agg #[.string c2, .int .i64 v2, .string h2, .int .i64 p2, .int .i64 s2, .int .i64 d2, .int .i64 g2], .bool true, .int .i64 clock] w fun e w' => e = .returned (.tuple #[.agg #[.string c, .int .i64 v, .string h, .int .i64 p, .int .i64 s, .int .i64 d, .int .i64 g, .int .i64 1, .int .i64 (b - 1), .int .i64 i, .int .i64 u], .bool true]) ∧ Below w.heap.size w w' := by
  have hn1 := neq_func
  have hn0 := neq_nil
  go_enter Try.func26, Try.ntmps26
  go_wp2_with (first | (go_at_call 80; refine (runOf_any c h v p s d g 1 b i u _).mono ?_; rintro e w' ⟨rfl, rfl⟩) | (go_at_call 76; refine (alive_any 1 _).mono ?_; rintro e w' ⟨rfl, rfl⟩) | (go_at_call 176; refine (steps_any _).mono ?_; rintro e w' ⟨rfl, rfl⟩) | go_in)
  refine wp_loop_rounds 2 ?_
  rw [rounds_succ]
  go_wp2_with (first | (go_at_call 82; refine (told_any c h v p s d g 1 (b - 1) i u _).mono ?_; rintro e w' ⟨rfl, rfl⟩) | go_in)
  rw [rounds_succ]
  go_wp2_with (first | (go_at_call 82; refine (told_any c h v p s d g 1 (b - 1) i u _).mono ?_; rintro e w' ⟨rfl, rfl⟩) | go_in)
  exact bodyPost_ret (v := .tuple #[.agg #[.string c, .int .i64 v, .string h, .int .i64 p, .int .i64 s, .int .i64 d, .int .i64 g, .int .i64 1, .int .i64 (b - 1), .int .i64 i, .int .i64 u], .bool true]) (by simp [results, Try.results26, go_sem]) rfl ⟨rfl, by repeat (first | exact Below.refl _ _ | refine bl_alloc ?_ _ | refine bl_drew ?_)⟩

set_option maxHeartbeats 2000000 in
theorem implLive_T5y (c h c2 h2 : ByteArray) (v p s d g b i u v2 p2 s2 d2 g2 clock : Int) (w : World) (hb : b ≤ 1) (hl : leasedB h u clock = true) (heq : ∀ w, Sem.run Try.prog (binOp .eql 36 (.agg #[.string c2, .int .i64 v2, .string h2, .int .i64 p2, .int .i64 s2, .int .i64 d2, .int .i64 g2]) (.agg #[.string c, .int .i64 v, .string h, .int .i64 p, .int .i64 s, .int .i64 d, .int .i64 g])) w = .ok (.bool true) w) :
    Calls Try.prog 26 #[.agg #[.string c, .int .i64 v, .string h, .int .i64 p, .int .i64 s, .int .i64 d, .int .i64 g, .int .i64 5, .int .i64 b, .int .i64 i, .int .i64 u], .agg #[.string c2, .int .i64 v2, .string h2, .int .i64 p2, .int .i64 s2, .int .i64 d2, .int .i64 g2], .bool true, .int .i64 clock] w fun e w' => e = .returned (.tuple #[.agg #[.string c, .int .i64 v, .string h, .int .i64 p, .int .i64 s, .int .i64 d, .int .i64 g, .int .i64 3, .int .i64 s, .int .i64 i, .int .i64 u], .bool true]) ∧ Below w.heap.size w w' := by
  have hn1 := neq_func
  have hn0 := neq_nil
  go_enter Try.func26, Try.ntmps26
  go_wp2_with (first | (go_at_call 80; refine (runOf_any c h v p s d g 5 b i u _).mono ?_; rintro e w' ⟨rfl, rfl⟩) | (go_at_call 76; refine (alive_any 5 _).mono ?_; rintro e w' ⟨rfl, rfl⟩) | (go_at_call 176; refine (steps_any _).mono ?_; rintro e w' ⟨rfl, rfl⟩) | go_in)
  refine wp_loop_rounds 3 ?_
  rw [rounds_succ]
  go_wp2_with (first | (go_at_call 185; refine (begin_yes c h v p s d g 5 b i u clock _ _ (by simp) hl).mono ?_; rintro e w' ⟨rfl, rfl⟩) | (go_at_call 82; refine (told_any c h v p s d g 3 s i u _).mono ?_; rintro e w' ⟨rfl, rfl⟩) | go_in)
  rw [rounds_succ]
  go_wp2_with (first | (go_at_call 185; refine (begin_yes c h v p s d g 5 b i u clock _ _ (by simp) hl).mono ?_; rintro e w' ⟨rfl, rfl⟩) | (go_at_call 82; refine (told_any c h v p s d g 3 s i u _).mono ?_; rintro e w' ⟨rfl, rfl⟩) | go_in)
  rw [rounds_succ]
  go_wp2_with (first | (go_at_call 185; refine (begin_yes c h v p s d g 5 b i u clock _ _ (by simp) hl).mono ?_; rintro e w' ⟨rfl, rfl⟩) | (go_at_call 82; refine (told_any c h v p s d g 3 s i u _).mono ?_; rintro e w' ⟨rfl, rfl⟩) | go_in)
  exact bodyPost_ret (v := .tuple #[.agg #[.string c, .int .i64 v, .string h, .int .i64 p, .int .i64 s, .int .i64 d, .int .i64 g, .int .i64 3, .int .i64 s, .int .i64 i, .int .i64 u], .bool true]) (by simp [results, Try.results26, go_sem]) rfl ⟨rfl, by repeat (first | exact Below.refl _ _ | refine bl_alloc ?_ _ | refine bl_drew ?_)⟩

set_option maxHeartbeats 2000000 in
theorem implLive_T3a (c h c2 h2 : ByteArray) (v p s d g b i u v2 p2 s2 d2 g2 clock : Int) (w : World) (hb : 1 < b) (hbb : b ≤ 9223372036854775807) (heq : ∀ w, Sem.run Try.prog (binOp .eql 36 (.agg #[.string c2, .int .i64 v2, .string h2, .int .i64 p2, .int .i64 s2, .int .i64 d2, .int .i64 g2]) (.agg #[.string c, .int .i64 v, .string h, .int .i64 p, .int .i64 s, .int .i64 d, .int .i64 g])) w = .ok (.bool true) w) :
    Calls Try.prog 26 #[.agg #[.string c, .int .i64 v, .string h, .int .i64 p, .int .i64 s, .int .i64 d, .int .i64 g, .int .i64 3, .int .i64 b, .int .i64 i, .int .i64 u], .agg #[.string c2, .int .i64 v2, .string h2, .int .i64 p2, .int .i64 s2, .int .i64 d2, .int .i64 g2], .bool true, .int .i64 clock] w fun e w' => e = .returned (.tuple #[.agg #[.string c, .int .i64 v, .string h, .int .i64 p, .int .i64 s, .int .i64 d, .int .i64 g, .int .i64 3, .int .i64 (b - 1), .int .i64 i, .int .i64 u], .bool true]) ∧ Below w.heap.size w w' := by
  have hn1 := neq_func
  have hn0 := neq_nil
  go_enter Try.func26, Try.ntmps26
  go_wp2_with (first | (go_at_call 80; refine (runOf_any c h v p s d g 3 b i u _).mono ?_; rintro e w' ⟨rfl, rfl⟩) | (go_at_call 76; refine (alive_any 3 _).mono ?_; rintro e w' ⟨rfl, rfl⟩) | (go_at_call 176; refine (steps_any _).mono ?_; rintro e w' ⟨rfl, rfl⟩) | go_in)
  refine wp_loop_rounds 2 ?_
  rw [rounds_succ]
  go_wp2_with (first | (go_at_call 82; refine (told_any c h v p s d g 3 (b - 1) i u _).mono ?_; rintro e w' ⟨rfl, rfl⟩) | go_in)
  rw [rounds_succ]
  go_wp2_with (first | (go_at_call 82; refine (told_any c h v p s d g 3 (b - 1) i u _).mono ?_; rintro e w' ⟨rfl, rfl⟩) | go_in)
  exact bodyPost_ret (v := .tuple #[.agg #[.string c, .int .i64 v, .string h, .int .i64 p, .int .i64 s, .int .i64 d, .int .i64 g, .int .i64 3, .int .i64 (b - 1), .int .i64 i, .int .i64 u], .bool true]) (by simp [results, Try.results26, go_sem]) rfl ⟨rfl, by repeat (first | exact Below.refl _ _ | refine bl_alloc ?_ _ | refine bl_drew ?_)⟩

set_option maxHeartbeats 2000000 in
theorem implLive_T4d (c h c2 h2 : ByteArray) (v p s d g i u v2 p2 s2 d2 g2 clock : Int) (w : World) (hi : i < 1000) (hii : -9223372036854775808 ≤ i) (heq : ∀ w, Sem.run Try.prog (binOp .eql 36 (.agg #[.string c2, .int .i64 v2, .string h2, .int .i64 p2, .int .i64 s2, .int .i64 d2, .int .i64 g2]) (.agg #[.string c, .int .i64 v, .string h, .int .i64 p, .int .i64 s, .int .i64 d, .int .i64 g])) w = .ok (.bool true) w) :
    Calls Try.prog 26 #[.agg #[.string c, .int .i64 v, .string h, .int .i64 p, .int .i64 s, .int .i64 d, .int .i64 g, .int .i64 4, .int .i64 1, .int .i64 i, .int .i64 u], .agg #[.string c2, .int .i64 v2, .string h2, .int .i64 p2, .int .i64 s2, .int .i64 d2, .int .i64 g2], .bool true, .int .i64 clock] w fun e w' => e = .returned (.tuple #[.agg #[.string c, .int .i64 v, .string h, .int .i64 p, .int .i64 s, .int .i64 d, .int .i64 g, .int .i64 5, .int .i64 (boff (i + 1)), .int .i64 (i + 1), .int .i64 u], .bool true]) ∧ Below w.heap.size w w' := by
  have hn1 := neq_func
  have hn0 := neq_nil
  go_enter Try.func26, Try.ntmps26
  go_wp2_with (first | (go_at_call 80; refine (runOf_any c h v p s d g 4 1 i u _).mono ?_; rintro e w' ⟨rfl, rfl⟩) | (go_at_call 76; refine (alive_any 4 _).mono ?_; rintro e w' ⟨rfl, rfl⟩) | (go_at_call 176; refine (steps_any _).mono ?_; rintro e w' ⟨rfl, rfl⟩) | go_in)
  refine wp_loop_rounds 3 ?_
  rw [rounds_succ]
  go_wp2_with (first | (go_at_call 192; refine (backoff_any (i + 1) _).mono ?_; rintro e w' ⟨rfl, rfl⟩) | (go_at_call 82; refine (told_any c h v p s d g 5 (boff (i + 1)) (i + 1) u _).mono ?_; rintro e w' ⟨rfl, rfl⟩) | go_in)
  rw [rounds_succ]
  go_wp2_with (first | (go_at_call 192; refine (backoff_any (i + 1) _).mono ?_; rintro e w' ⟨rfl, rfl⟩) | (go_at_call 82; refine (told_any c h v p s d g 5 (boff (i + 1)) (i + 1) u _).mono ?_; rintro e w' ⟨rfl, rfl⟩) | go_in)
  rw [rounds_succ]
  go_wp2_with (first | (go_at_call 192; refine (backoff_any (i + 1) _).mono ?_; rintro e w' ⟨rfl, rfl⟩) | (go_at_call 82; refine (told_any c h v p s d g 5 (boff (i + 1)) (i + 1) u _).mono ?_; rintro e w' ⟨rfl, rfl⟩) | go_in)
  exact bodyPost_ret (v := .tuple #[.agg #[.string c, .int .i64 v, .string h, .int .i64 p, .int .i64 s, .int .i64 d, .int .i64 g, .int .i64 5, .int .i64 (boff (i + 1)), .int .i64 (i + 1), .int .i64 u], .bool true]) (by simp [results, Try.results26, go_sem]) rfl ⟨rfl, by repeat (first | exact Below.refl _ _ | refine bl_alloc ?_ _ | refine bl_drew ?_)⟩

set_option maxHeartbeats 2000000 in
theorem implLive_OGa (c h c2 h2 : ByteArray) (v p s d g a b i u v2 p2 s2 d2 g2 clock : Int) (w : World) (ha : 6 < a) (ha1 : 1 ≤ a) (hb : 1 < b) (hbb : b ≤ 9223372036854775807) (heq : ∀ w, Sem.run Try.prog (binOp .eql 36 (.agg #[.string c2, .int .i64 v2, .string h2, .int .i64 p2, .int .i64 s2, .int .i64 d2, .int .i64 g2]) (.agg #[.string c, .int .i64 v, .string h, .int .i64 p, .int .i64 s, .int .i64 d, .int .i64 g])) w = .ok (.bool true) w) :
    Calls Try.prog 26 #[.agg #[.string c, .int .i64 v, .string h, .int .i64 p, .int .i64 s, .int .i64 d, .int .i64 g, .int .i64 a, .int .i64 b, .int .i64 i, .int .i64 u], .agg #[.string c2, .int .i64 v2, .string h2, .int .i64 p2, .int .i64 s2, .int .i64 d2, .int .i64 g2], .bool true, .int .i64 clock] w fun e w' => e = .returned (.tuple #[.agg #[.string c, .int .i64 v, .string h, .int .i64 p, .int .i64 s, .int .i64 d, .int .i64 g, .int .i64 a, .int .i64 (b - 1), .int .i64 i, .int .i64 u], .bool true]) ∧ Below w.heap.size w w' := by
  have hn1 := neq_func
  have hn0 := neq_nil
  go_enter Try.func26, Try.ntmps26
  go_wp2_with (first | (go_at_call 80; refine (runOf_any c h v p s d g a b i u _).mono ?_; rintro e w' ⟨rfl, rfl⟩) | (go_at_call 76; refine (alive_any a _).mono ?_; rintro e w' ⟨rfl, rfl⟩) | (go_at_call 176; refine (steps_any _).mono ?_; rintro e w' ⟨rfl, rfl⟩) | go_in)
  refine wp_loop_rounds 2 ?_
  rw [rounds_succ]
  go_wp2_with (first | (go_at_call 82; refine (told_any c h v p s d g a (b - 1) i u _).mono ?_; rintro e w' ⟨rfl, rfl⟩) | go_in)
  rw [rounds_succ]
  go_wp2_with (first | (go_at_call 82; refine (told_any c h v p s d g a (b - 1) i u _).mono ?_; rintro e w' ⟨rfl, rfl⟩) | go_in)
  exact bodyPost_ret (v := .tuple #[.agg #[.string c, .int .i64 v, .string h, .int .i64 p, .int .i64 s, .int .i64 d, .int .i64 g, .int .i64 a, .int .i64 (b - 1), .int .i64 i, .int .i64 u], .bool true]) (by simp [results, Try.results26, go_sem]) rfl ⟨rfl, by repeat (first | exact Below.refl _ _ | refine bl_alloc ?_ _ | refine bl_drew ?_)⟩
end Go.Proofs.Ytkebokkckmgloaa
/- The program's MateLive, case by case. -/
namespace Go.Proofs.Ytkebokkckmgloaa
open Go.RowKit
set_option linter.unusedVariables false

set_option maxHeartbeats 2000000 in
theorem implLive_U0t (c h c2 h2 : ByteArray) (v p s d g a b i u v2 p2 s2 d2 g2 clock : Int) (w : World) (ha : aliveB a = false) (h6 : (a == 6) = false) (heq : ∀ w, Sem.run Try.prog (binOp .eql 36 (.agg #[.string c2, .int .i64 v2, .string h2, .int .i64 p2, .int .i64 s2, .int .i64 d2, .int .i64 g2]) (.agg #[.string c, .int .i64 v, .string h, .int .i64 p, .int .i64 s, .int .i64 d, .int .i64 g])) w = .ok (.bool false) w) :
    Calls Try.prog 26 #[.agg #[.string c, .int .i64 v, .string h, .int .i64 p, .int .i64 s, .int .i64 d, .int .i64 g, .int .i64 a, .int .i64 b, .int .i64 i, .int .i64 u], .agg #[.string c2, .int .i64 v2, .string h2, .int .i64 p2, .int .i64 s2, .int .i64 d2, .int .i64 g2], .bool true, .int .i64 clock] w fun e w' => e = .returned (.tuple #[.agg #[.string ⟨#[]⟩, .int .i64 0, .string ⟨#[]⟩, .int .i64 0, .int .i64 0, .int .i64 0, .int .i64 0, .int .i64 0, .int .i64 0, .int .i64 0, .int .i64 0], .bool false]) ∧ Below w.heap.size w w' := by
  have hn1 := neq_func
  have hn0 := neq_nil
  go_enter Try.func26, Try.ntmps26
  go_wp2_with (first | (go_at_call 80; refine (runOf_any c h v p s d g a b i u _).mono ?_; rintro e w' ⟨rfl, rfl⟩) | (go_at_call 76; refine (alive_any a _).mono ?_; rintro e w' ⟨rfl, rfl⟩) | (go_at_call 176; refine (steps_any _).mono ?_; rintro e w' ⟨rfl, rfl⟩) | go_in)
  refine wp_loop_rounds 2 ?_
  rw [rounds_succ]
  go_wp2_with (first | go_in)
  rw [rounds_succ]
  go_wp2_with (first | go_in)
  exact bodyPost_ret (v := .tuple #[.agg #[.string ⟨#[]⟩, .int .i64 0, .string ⟨#[]⟩, .int .i64 0, .int .i64 0, .int .i64 0, .int .i64 0, .int .i64 0, .int .i64 0, .int .i64 0, .int .i64 0], .bool false]) (by simp [results, Try.results26, go_sem]) rfl ⟨rfl, by repeat (first | exact Below.refl _ _ | refine bl_alloc ?_ _ | refine bl_drew ?_)⟩

set_option maxHeartbeats 2000000 in
theorem implLive_S6bn (c h c2 h2 : ByteArray) (v p s d g b i u v2 p2 s2 d2 g2 clock : Int) (w : World) (hb : b ≤ 1) (heq : ∀ w, Sem.run Try.prog (binOp .eql 36 (.agg #[.string c2, .int .i64 v2, .string h2, .int .i64 p2, .int .i64 s2, .int .i64 d2, .int .i64 g2]) (.agg #[.string c, .int .i64 v, .string h, .int .i64 p, .int .i64 s, .int .i64 d, .int .i64 g])) w = .ok (.bool false) w) :
    Calls Try.prog 26 #[.agg #[.string c, .int .i64 v, .string h, .int .i64 p, .int .i64 s, .int .i64 d, .int .i64 g, .int .i64 6, .int .i64 b, .int .i64 i, .int .i64 u], .agg #[.string c2, .int .i64 v2, .string h2, .int .i64 p2, .int .i64 s2, .int .i64 d2, .int .i64 g2], .bool true, .int .i64 clock] w fun e w' => e = .returned (.tuple #[.agg #[.string ⟨#[]⟩, .int .i64 0, .string ⟨#[]⟩, .int .i64 0, .int .i64 0, .int .i64 0, .int .i64 0, .int .i64 0, .int .i64 0, .int .i64 0, .int .i64 0], .bool false]) ∧ Below w.heap.size w w' := by
  have hn1 := neq_func
  have hn0 := neq_nil
  go_enter Try.func26, Try.ntmps26
  go_wp2_with (first | (go_at_call 80; refine (runOf_any c h v p s d g 6 b i u _).mono ?_; rintro e w' ⟨rfl, rfl⟩) | (go_at_call 76; refine (alive_any 6 _).mono ?_; rintro e w' ⟨rfl, rfl⟩) | (go_at_call 176; refine (steps_any _).mono ?_; rintro e w' ⟨rfl, rfl⟩) | go_in)
  refine wp_loop_rounds 3 ?_
  rw [rounds_succ]
  go_wp2_with (first | go_in)
  rw [rounds_succ]
  go_wp2_with (first | go_in)
  rw [rounds_succ]
  go_wp2_with (first | go_in)
  exact bodyPost_ret (v := .tuple #[.agg #[.string ⟨#[]⟩, .int .i64 0, .string ⟨#[]⟩, .int .i64 0, .int .i64 0, .int .i64 0, .int .i64 0, .int .i64 0, .int .i64 0, .int .i64 0, .int .i64 0], .bool false]) (by simp [results, Try.results26, go_sem]) rfl ⟨rfl, by repeat (first | exact Below.refl _ _ | refine bl_alloc ?_ _ | refine bl_drew ?_)⟩

set_option maxHeartbeats 2000000 in
theorem implLive_T1y (c h c2 h2 : ByteArray) (v p s d g b i u v2 p2 s2 d2 g2 clock : Int) (w : World) (hb : b ≤ 1) (hl : leasedB h u clock = true) (heq : ∀ w, Sem.run Try.prog (binOp .eql 36 (.agg #[.string c2, .int .i64 v2, .string h2, .int .i64 p2, .int .i64 s2, .int .i64 d2, .int .i64 g2]) (.agg #[.string c, .int .i64 v, .string h, .int .i64 p, .int .i64 s, .int .i64 d, .int .i64 g])) w = .ok (.bool true) w) :
    Calls Try.prog 26 #[.agg #[.string c, .int .i64 v, .string h, .int .i64 p, .int .i64 s, .int .i64 d, .int .i64 g, .int .i64 1, .int .i64 b, .int .i64 i, .int .i64 u], .agg #[.string c2, .int .i64 v2, .string h2, .int .i64 p2, .int .i64 s2, .int .i64 d2, .int .i64 g2], .bool true, .int .i64 clock] w fun e w' => e = .returned (.tuple #[.agg #[.string c, .int .i64 v, .string h, .int .i64 p, .int .i64 s, .int .i64 d, .int .i64 g, .int .i64 3, .int .i64 s, .int .i64 i, .int .i64 u], .bool true]) ∧ Below w.heap.size w w' := by
  have hn1 := neq_func
  have hn0 := neq_nil
  go_enter Try.func26, Try.ntmps26
  go_wp2_with (first | (go_at_call 80; refine (runOf_any c h v p s d g 1 b i u _).mono ?_; rintro e w' ⟨rfl, rfl⟩) | (go_at_call 76; refine (alive_any 1 _).mono ?_; rintro e w' ⟨rfl, rfl⟩) | (go_at_call 176; refine (steps_any _).mono ?_; rintro e w' ⟨rfl, rfl⟩) | go_in)
  refine wp_loop_rounds 3 ?_
  rw [rounds_succ]
  go_wp2_with (first | (go_at_call 185; refine (begin_yes c h v p s d g 1 b i u clock _ _ (by simp) hl).mono ?_; rintro e w' ⟨rfl, rfl⟩) | (go_at_call 82; refine (told_any c h v p s d g 3 s i u _).mono ?_; rintro e w' ⟨rfl, rfl⟩) | go_in)
  rw [rounds_succ]
  go_wp2_with (first | (go_at_call 185; refine (begin_yes c h v p s d g 1 b i u clock _ _ (by simp) hl).mono ?_; rintro e w' ⟨rfl, rfl⟩) | (go_at_call 82; refine (told_any c h v p s d g 3 s i u _).mono ?_; rintro e w' ⟨rfl, rfl⟩) | go_in)
  rw [rounds_succ]
  go_wp2_with (first | (go_at_call 185; refine (begin_yes c h v p s d g 1 b i u clock _ _ (by simp) hl).mono ?_; rintro e w' ⟨rfl, rfl⟩) | (go_at_call 82; refine (told_any c h v p s d g 3 s i u _).mono ?_; rintro e w' ⟨rfl, rfl⟩) | go_in)
  exact bodyPost_ret (v := .tuple #[.agg #[.string c, .int .i64 v, .string h, .int .i64 p, .int .i64 s, .int .i64 d, .int .i64 g, .int .i64 3, .int .i64 s, .int .i64 i, .int .i64 u], .bool true]) (by simp [results, Try.results26, go_sem]) rfl ⟨rfl, by repeat (first | exact Below.refl _ _ | refine bl_alloc ?_ _ | refine bl_drew ?_)⟩

set_option maxHeartbeats 2000000 in
theorem implLive_T5n (c h c2 h2 : ByteArray) (v p s d g b i u v2 p2 s2 d2 g2 clock : Int) (w : World) (hb : b ≤ 1) (hl : leasedB h u clock = false) (heq : ∀ w, Sem.run Try.prog (binOp .eql 36 (.agg #[.string c2, .int .i64 v2, .string h2, .int .i64 p2, .int .i64 s2, .int .i64 d2, .int .i64 g2]) (.agg #[.string c, .int .i64 v, .string h, .int .i64 p, .int .i64 s, .int .i64 d, .int .i64 g])) w = .ok (.bool true) w) :
    Calls Try.prog 26 #[.agg #[.string c, .int .i64 v, .string h, .int .i64 p, .int .i64 s, .int .i64 d, .int .i64 g, .int .i64 5, .int .i64 b, .int .i64 i, .int .i64 u], .agg #[.string c2, .int .i64 v2, .string h2, .int .i64 p2, .int .i64 s2, .int .i64 d2, .int .i64 g2], .bool true, .int .i64 clock] w fun e w' => e = .returned (.tuple #[.agg #[.string c, .int .i64 v, .string h, .int .i64 p, .int .i64 s, .int .i64 d, .int .i64 g, .int .i64 2, .int .i64 0, .int .i64 i, .int .i64 u], .bool true]) ∧ Below w.heap.size w w' := by
  have hn1 := neq_func
  have hn0 := neq_nil
  go_enter Try.func26, Try.ntmps26
  go_wp2_with (first | (go_at_call 80; refine (runOf_any c h v p s d g 5 b i u _).mono ?_; rintro e w' ⟨rfl, rfl⟩) | (go_at_call 76; refine (alive_any 5 _).mono ?_; rintro e w' ⟨rfl, rfl⟩) | (go_at_call 176; refine (steps_any _).mono ?_; rintro e w' ⟨rfl, rfl⟩) | go_in)
  refine wp_loop_rounds 3 ?_
  rw [rounds_succ]
  go_wp2_with (first | (go_at_call 185; refine (begin_no c h v p s d g 5 b i u clock _ _ (by simp) hl).mono ?_; rintro e w' ⟨rfl, rfl⟩) | (go_at_call 82; refine (told_any c h v p s d g 2 0 i u _).mono ?_; rintro e w' ⟨rfl, rfl⟩) | go_in)
  rw [rounds_succ]
  go_wp2_with (first | (go_at_call 185; refine (begin_no c h v p s d g 5 b i u clock _ _ (by simp) hl).mono ?_; rintro e w' ⟨rfl, rfl⟩) | (go_at_call 82; refine (told_any c h v p s d g 2 0 i u _).mono ?_; rintro e w' ⟨rfl, rfl⟩) | go_in)
  rw [rounds_succ]
  go_wp2_with (first | (go_at_call 185; refine (begin_no c h v p s d g 5 b i u clock _ _ (by simp) hl).mono ?_; rintro e w' ⟨rfl, rfl⟩) | (go_at_call 82; refine (told_any c h v p s d g 2 0 i u _).mono ?_; rintro e w' ⟨rfl, rfl⟩) | go_in)
  exact bodyPost_ret (v := .tuple #[.agg #[.string c, .int .i64 v, .string h, .int .i64 p, .int .i64 s, .int .i64 d, .int .i64 g, .int .i64 2, .int .i64 0, .int .i64 i, .int .i64 u], .bool true]) (by simp [results, Try.results26, go_sem]) rfl ⟨rfl, by repeat (first | exact Below.refl _ _ | refine bl_alloc ?_ _ | refine bl_drew ?_)⟩

set_option maxHeartbeats 2000000 in
theorem implLive_T3b (c h c2 h2 : ByteArray) (v p s d g b i u v2 p2 s2 d2 g2 clock : Int) (w : World) (hb : b ≤ 1) (heq : ∀ w, Sem.run Try.prog (binOp .eql 36 (.agg #[.string c2, .int .i64 v2, .string h2, .int .i64 p2, .int .i64 s2, .int .i64 d2, .int .i64 g2]) (.agg #[.string c, .int .i64 v, .string h, .int .i64 p, .int .i64 s, .int .i64 d, .int .i64 g])) w = .ok (.bool true) w) :
    Calls Try.prog 26 #[.agg #[.string c, .int .i64 v, .string h, .int .i64 p, .int .i64 s, .int .i64 d, .int .i64 g, .int .i64 3, .int .i64 b, .int .i64 i, .int .i64 u], .agg #[.string c2, .int .i64 v2, .string h2, .int .i64 p2, .int .i64 s2, .int .i64 d2, .int .i64 g2], .bool true, .int .i64 clock] w fun e w' => e = .returned (.tuple #[.agg #[.string c, .int .i64 v, .string h, .int .i64 p, .int .i64 s, .int .i64 d, .int .i64 g, .int .i64 4, .int .i64 d, .int .i64 i, .int .i64 u], .bool true]) ∧ Below w.heap.size w w' := by
  have hn1 := neq_func
  have hn0 := neq_nil
  go_enter Try.func26, Try.ntmps26
  go_wp2_with (first | (go_at_call 80; refine (runOf_any c h v p s d g 3 b i u _).mono ?_; rintro e w' ⟨rfl, rfl⟩) | (go_at_call 76; refine (alive_any 3 _).mono ?_; rintro e w' ⟨rfl, rfl⟩) | (go_at_call 176; refine (steps_any _).mono ?_; rintro e w' ⟨rfl, rfl⟩) | go_in)
  refine wp_loop_rounds 3 ?_
  rw [rounds_succ]
  go_wp2_with (first | (go_at_call 82; refine (told_any c h v p s d g 4 d i u _).mono ?_; rintro e w' ⟨rfl, rfl⟩) | go_in)
  rw [rounds_succ]
  go_wp2_with (first | (go_at_call 82; refine (told_any c h v p s d g 4 d i u _).mono ?_; rintro e w' ⟨rfl, rfl⟩) | go_in)
  rw [rounds_succ]
  go_wp2_with (first | (go_at_call 82; refine (told_any c h v p s d g 4 d i u _).mono ?_; rintro e w' ⟨rfl, rfl⟩) | go_in)
  exact bodyPost_ret (v := .tuple #[.agg #[.string c, .int .i64 v, .string h, .int .i64 p, .int .i64 s, .int .i64 d, .int .i64 g, .int .i64 4, .int .i64 d, .int .i64 i, .int .i64 u], .bool true]) (by simp [results, Try.results26, go_sem]) rfl ⟨rfl, by repeat (first | exact Below.refl _ _ | refine bl_alloc ?_ _ | refine bl_drew ?_)⟩

set_option maxHeartbeats 2000000 in
theorem implLive_T4e (c h c2 h2 : ByteArray) (v p s d g i u v2 p2 s2 d2 g2 clock : Int) (w : World) (hi : 1000 ≤ i) (heq : ∀ w, Sem.run Try.prog (binOp .eql 36 (.agg #[.string c2, .int .i64 v2, .string h2, .int .i64 p2, .int .i64 s2, .int .i64 d2, .int .i64 g2]) (.agg #[.string c, .int .i64 v, .string h, .int .i64 p, .int .i64 s, .int .i64 d, .int .i64 g])) w = .ok (.bool true) w) :
    Calls Try.prog 26 #[.agg #[.string c, .int .i64 v, .string h, .int .i64 p, .int .i64 s, .int .i64 d, .int .i64 g, .int .i64 4, .int .i64 1, .int .i64 i, .int .i64 u], .agg #[.string c2, .int .i64 v2, .string h2, .int .i64 p2, .int .i64 s2, .int .i64 d2, .int .i64 g2], .bool true, .int .i64 clock] w fun e w' => e = .returned (.tuple #[.agg #[.string c, .int .i64 v, .string h, .int .i64 p, .int .i64 s, .int .i64 d, .int .i64 g, .int .i64 5, .int .i64 (boff i), .int .i64 i, .int .i64 u], .bool true]) ∧ Below w.heap.size w w' := by
  have hn1 := neq_func
  have hn0 := neq_nil
  go_enter Try.func26, Try.ntmps26
  go_wp2_with (first | (go_at_call 80; refine (runOf_any c h v p s d g 4 1 i u _).mono ?_; rintro e w' ⟨rfl, rfl⟩) | (go_at_call 76; refine (alive_any 4 _).mono ?_; rintro e w' ⟨rfl, rfl⟩) | (go_at_call 176; refine (steps_any _).mono ?_; rintro e w' ⟨rfl, rfl⟩) | go_in)
  refine wp_loop_rounds 3 ?_
  rw [rounds_succ]
  go_wp2_with (first | (go_at_call 192; refine (backoff_any i _).mono ?_; rintro e w' ⟨rfl, rfl⟩) | (go_at_call 82; refine (told_any c h v p s d g 5 (boff i) i u _).mono ?_; rintro e w' ⟨rfl, rfl⟩) | go_in)
  rw [rounds_succ]
  go_wp2_with (first | (go_at_call 192; refine (backoff_any i _).mono ?_; rintro e w' ⟨rfl, rfl⟩) | (go_at_call 82; refine (told_any c h v p s d g 5 (boff i) i u _).mono ?_; rintro e w' ⟨rfl, rfl⟩) | go_in)
  rw [rounds_succ]
  go_wp2_with (first | (go_at_call 192; refine (backoff_any i _).mono ?_; rintro e w' ⟨rfl, rfl⟩) | (go_at_call 82; refine (told_any c h v p s d g 5 (boff i) i u _).mono ?_; rintro e w' ⟨rfl, rfl⟩) | go_in)
  exact bodyPost_ret (v := .tuple #[.agg #[.string c, .int .i64 v, .string h, .int .i64 p, .int .i64 s, .int .i64 d, .int .i64 g, .int .i64 5, .int .i64 (boff i), .int .i64 i, .int .i64 u], .bool true]) (by simp [results, Try.results26, go_sem]) rfl ⟨rfl, by repeat (first | exact Below.refl _ _ | refine bl_alloc ?_ _ | refine bl_drew ?_)⟩

set_option maxHeartbeats 2000000 in
theorem implLive_OGb (c h c2 h2 : ByteArray) (v p s d g a b i u v2 p2 s2 d2 g2 clock : Int) (w : World) (ha : 6 < a) (ha1 : 1 ≤ a) (hb : b ≤ 1) (heq : ∀ w, Sem.run Try.prog (binOp .eql 36 (.agg #[.string c2, .int .i64 v2, .string h2, .int .i64 p2, .int .i64 s2, .int .i64 d2, .int .i64 g2]) (.agg #[.string c, .int .i64 v, .string h, .int .i64 p, .int .i64 s, .int .i64 d, .int .i64 g])) w = .ok (.bool true) w) :
    Calls Try.prog 26 #[.agg #[.string c, .int .i64 v, .string h, .int .i64 p, .int .i64 s, .int .i64 d, .int .i64 g, .int .i64 a, .int .i64 b, .int .i64 i, .int .i64 u], .agg #[.string c2, .int .i64 v2, .string h2, .int .i64 p2, .int .i64 s2, .int .i64 d2, .int .i64 g2], .bool true, .int .i64 clock] w fun e w' => e = .returned (.tuple #[.agg #[.string c, .int .i64 v, .string h, .int .i64 p, .int .i64 s, .int .i64 d, .int .i64 g, .int .i64 a, .int .i64 b, .int .i64 i, .int .i64 u], .bool true]) ∧ Below w.heap.size w w' := by
  have hn1 := neq_func
  have hn0 := neq_nil
  go_enter Try.func26, Try.ntmps26
  go_wp2_with (first | (go_at_call 80; refine (runOf_any c h v p s d g a b i u _).mono ?_; rintro e w' ⟨rfl, rfl⟩) | (go_at_call 76; refine (alive_any a _).mono ?_; rintro e w' ⟨rfl, rfl⟩) | (go_at_call 176; refine (steps_any _).mono ?_; rintro e w' ⟨rfl, rfl⟩) | go_in)
  refine wp_loop_rounds 2 ?_
  rw [rounds_succ]
  go_wp2_with (first | (go_at_call 82; refine (told_any c h v p s d g a b i u _).mono ?_; rintro e w' ⟨rfl, rfl⟩) | go_in)
  rw [rounds_succ]
  go_wp2_with (first | (go_at_call 82; refine (told_any c h v p s d g a b i u _).mono ?_; rintro e w' ⟨rfl, rfl⟩) | go_in)
  exact bodyPost_ret (v := .tuple #[.agg #[.string c, .int .i64 v, .string h, .int .i64 p, .int .i64 s, .int .i64 d, .int .i64 g, .int .i64 a, .int .i64 b, .int .i64 i, .int .i64 u], .bool true]) (by simp [results, Try.results26, go_sem]) rfl ⟨rfl, by repeat (first | exact Below.refl _ _ | refine bl_alloc ?_ _ | refine bl_drew ?_)⟩
end Go.Proofs.Ytkebokkckmgloaa
