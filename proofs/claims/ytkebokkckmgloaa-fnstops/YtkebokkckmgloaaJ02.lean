import Derived.Test.YtkebokkckmgloaaJ01
/- The program's MateLive, case by case. -/
namespace Go.Proofs.Ytkebokkckmgloaa
open Go.RowKit
set_option linter.unusedVariables false

set_option maxHeartbeats 2000000 in
theorem implLive_U1t (c h c2 h2 : ByteArray) (v p s d g a b i u v2 p2 s2 d2 g2 clock : Int) (w : World) (ha : aliveB a = true) (h6 : (a == 6) = false) (heq : ∀ w, Sem.run Try.prog (binOp .eql 36 (.agg #[.string c2, .int .i64 v2, .string h2, .int .i64 p2, .int .i64 s2, .int .i64 d2, .int .i64 g2]) (.agg #[.string c, .int .i64 v, .string h, .int .i64 p, .int .i64 s, .int .i64 d, .int .i64 g])) w = .ok (.bool false) w) :
    Calls Try.prog 26 #[.agg #[.string c, .int .i64 v, .string h, .int .i64 p, .int .i64 s, .int .i64 d, .int .i64 g, .int .i64 a, .int .i64 b, .int .i64 i, .int .i64 u], .agg #[.string c2, .int .i64 v2, .string h2, .int .i64 p2, .int .i64 s2, .int .i64 d2, .int .i64 g2], .bool true, .int .i64 clock] w fun e w' => e = .returned (.tuple #[.agg #[.string c, .int .i64 v, .string h, .int .i64 p, .int .i64 s, .int .i64 d, .int .i64 g, .int .i64 6, .int .i64 g, .int .i64 i, .int .i64 u], .bool true]) ∧ Below w.heap.size w w' := by
  have hn1 := neq_func
  have hn0 := neq_nil
  go_enter Try.func26, Try.ntmps26
  go_wp2_with (first | (go_at_call 80; refine (runOf_any c h v p s d g a b i u _).mono ?_; rintro e w' ⟨rfl, rfl⟩) | (go_at_call 76; refine (alive_any a _).mono ?_; rintro e w' ⟨rfl, rfl⟩) | (go_at_call 176; refine (steps_any _).mono ?_; rintro e w' ⟨rfl, rfl⟩) | go_in)
  refine wp_loop_rounds 2 ?_
  rw [rounds_succ]
  go_wp2_with (first | (go_at_call 82; refine (told_any c h v p s d g 6 g i u _).mono ?_; rintro e w' ⟨rfl, rfl⟩) | go_in)
  rw [rounds_succ]
  go_wp2_with (first | (go_at_call 82; refine (told_any c h v p s d g 6 g i u _).mono ?_; rintro e w' ⟨rfl, rfl⟩) | go_in)
  exact bodyPost_ret (v := .tuple #[.agg #[.string c, .int .i64 v, .string h, .int .i64 p, .int .i64 s, .int .i64 d, .int .i64 g, .int .i64 6, .int .i64 g, .int .i64 i, .int .i64 u], .bool true]) (by simp [results, Try.results26, go_sem]) rfl ⟨rfl, by repeat (first | exact Below.refl _ _ | refine bl_alloc ?_ _ | refine bl_drew ?_)⟩

set_option maxHeartbeats 2000000 in
theorem implLive_S6an (c h c2 h2 : ByteArray) (v p s d g b i u v2 p2 s2 d2 g2 clock : Int) (w : World) (hb : 1 < b) (hbb : b ≤ 9223372036854775807) (heq : ∀ w, Sem.run Try.prog (binOp .eql 36 (.agg #[.string c2, .int .i64 v2, .string h2, .int .i64 p2, .int .i64 s2, .int .i64 d2, .int .i64 g2]) (.agg #[.string c, .int .i64 v, .string h, .int .i64 p, .int .i64 s, .int .i64 d, .int .i64 g])) w = .ok (.bool false) w) :
    Calls Try.prog 26 #[.agg #[.string c, .int .i64 v, .string h, .int .i64 p, .int .i64 s, .int .i64 d, .int .i64 g, .int .i64 6, .int .i64 b, .int .i64 i, .int .i64 u], .agg #[.string c2, .int .i64 v2, .string h2, .int .i64 p2, .int .i64 s2, .int .i64 d2, .int .i64 g2], .bool true, .int .i64 clock] w fun e w' => e = .returned (.tuple #[.agg #[.string c, .int .i64 v, .string h, .int .i64 p, .int .i64 s, .int .i64 d, .int .i64 g, .int .i64 6, .int .i64 (b - 1), .int .i64 i, .int .i64 u], .bool true]) ∧ Below w.heap.size w w' := by
  have hn1 := neq_func
  have hn0 := neq_nil
  go_enter Try.func26, Try.ntmps26
  go_wp2_with (first | (go_at_call 80; refine (runOf_any c h v p s d g 6 b i u _).mono ?_; rintro e w' ⟨rfl, rfl⟩) | (go_at_call 76; refine (alive_any 6 _).mono ?_; rintro e w' ⟨rfl, rfl⟩) | (go_at_call 176; refine (steps_any _).mono ?_; rintro e w' ⟨rfl, rfl⟩) | go_in)
  refine wp_loop_rounds 2 ?_
  rw [rounds_succ]
  go_wp2_with (first | (go_at_call 82; refine (told_any c h v p s d g 6 (b - 1) i u _).mono ?_; rintro e w' ⟨rfl, rfl⟩) | go_in)
  rw [rounds_succ]
  go_wp2_with (first | (go_at_call 82; refine (told_any c h v p s d g 6 (b - 1) i u _).mono ?_; rintro e w' ⟨rfl, rfl⟩) | go_in)
  exact bodyPost_ret (v := .tuple #[.agg #[.string c, .int .i64 v, .string h, .int .i64 p, .int .i64 s, .int .i64 d, .int .i64 g, .int .i64 6, .int .i64 (b - 1), .int .i64 i, .int .i64 u], .bool true]) (by simp [results, Try.results26, go_sem]) rfl ⟨rfl, by repeat (first | exact Below.refl _ _ | refine bl_alloc ?_ _ | refine bl_drew ?_)⟩

set_option maxHeartbeats 2000000 in
theorem implLive_T1a (c h c2 h2 : ByteArray) (v p s d g b i u v2 p2 s2 d2 g2 clock : Int) (w : World) (hb : 1 < b) (hbb : b ≤ 9223372036854775807) (heq : ∀ w, Sem.run Try.prog (binOp .eql 36 (.agg #[.string c2, .int .i64 v2, .string h2, .int .i64 p2, .int .i64 s2, .int .i64 d2, .int .i64 g2]) (.agg #[.string c, .int .i64 v, .string h, .int .i64 p, .int .i64 s, .int .i64 d, .int .i64 g])) w = .ok (.bool true) w) :
    Calls Try.prog 26 #[.agg #[.string c, .int .i64 v, .string h, .int .i64 p, .int .i64 s, .int .i64 d, .int .i64 g, .int .i64 1, .int .i64 b, .int .i64 i, .int .i64 u], .agg #[.string c2, .int .i64 v2, .string h2, .int .i64 p2, .int .i64 s2, .int .i64 d2, .int .i64 g2], .bool true, .int .i64 clock] w fun e w' => e = .returned (.tuple #[.agg #[.string c, .int .i64 v, .string h, .int .i64 p, .int .i64 s, .int .i64 d, .int .i64 g, .int .i64 1, .int .i64 (b - 1), .int .i64 i, .int .i64 u], .bool true]) ∧ Below w.heap.size w w' := by
  have hn1 := neq_func
  have hn0 := neq_nil
  go_enter Try.func26, Try.ntmps26
  go_wp2_with (first | (go_at_call 80; refine (runOf_any c h v p s d g 1 b i u _).mono ?_; rintro e w' ⟨rfl, rfl⟩) | (go_at_call 76; refine (alive_any 1 _).mono ?_; rintro e w' ⟨rfl, rfl⟩) | (go_at_call 176; refine (steps_any _).mono ?_; rintro e w' ⟨rfl, rfl⟩) | go_in)
  refine wp_loop_rounds 2 ?_
  rw [rounds_succ]
  go_wp2_with (first | (go_at_call 82; refine (told_any c h v p s d g 1 (b - 1) i u _).mono ?_; rintro e w' ⟨rfl, rfl⟩) | go_in)
  rw [rounds_succ]
  go_wp2_with (first | (go_at_call 82; refine (told_any c h v p s d g 1 (b - 1) i u _).mono ?_; rintro e w' ⟨rfl, rfl⟩) | go_in)
  exact bodyPost_ret (v := .tuple #[.agg #[.string c, .int .i64 v, .string h, .int .i64 p, .int .i64 s, .int .i64 d, .int .i64 g, .int .i64 1, .int .i64 (b - 1), .int .i64 i, .int .i64 u], .bool true]) (by simp [results, Try.results26, go_sem]) rfl ⟨rfl, by repeat (first | exact Below.refl _ _ | refine bl_alloc ?_ _ | refine bl_drew ?_)⟩

set_option maxHeartbeats 2000000 in
theorem implLive_T5y (c h c2 h2 : ByteArray) (v p s d g b i u v2 p2 s2 d2 g2 clock : Int) (w : World) (hb : b ≤ 1) (hl : leasedB h u clock = true) (heq : ∀ w, Sem.run Try.prog (binOp .eql 36 (.agg #[.string c2, .int .i64 v2, .string h2, .int .i64 p2, .int .i64 s2, .int .i64 d2, .int .i64 g2]) (.agg #[.string c, .int .i64 v, .string h, .int .i64 p, .int .i64 s, .int .i64 d, .int .i64 g])) w = .ok (.bool true) w) :
    Calls Try.prog 26 #[.agg #[.string c, .int .i64 v, .string h, .int .i64 p, .int .i64 s, .int .i64 d, .int .i64 g, .int .i64 5, .int .i64 b, .int .i64 i, .int .i64 u], .agg #[.string c2, .int .i64 v2, .string h2, .int .i64 p2, .int .i64 s2, .int .i64 d2, .int .i64 g2], .bool true, .int .i64 clock] w fun e w' => e = .returned (.tuple #[.agg #[.string c, .int .i64 v, .string h, .int .i64 p, .int .i64 s, .int .i64 d, .int .i64 g, .int .i64 3, .int .i64 s, .int .i64 i, .int .i64 u], .bool true]) ∧ Below w.heap.size w w' := by
  have hn1 := neq_func
  have hn0 := neq_nil
  go_enter Try.func26, Try.ntmps26
  go_wp2_with (first | (go_at_call 80; refine (runOf_any c h v p s d g 5 b i u _).mono ?_; rintro e w' ⟨rfl, rfl⟩) | (go_at_call 76; refine (alive_any 5 _).mono ?_; rintro e w' ⟨rfl, rfl⟩) | (go_at_call 176; refine (steps_any _).mono ?_; rintro e w' ⟨rfl, rfl⟩) | go_in)
  refine wp_loop_rounds 3 ?_
  rw [rounds_succ]
  go_wp2_with (first | (go_at_call 185; refine (begin_yes c h v p s d g 5 b i u clock _ _ (by simp) hl).mono ?_; rintro e w' ⟨rfl, rfl⟩) | (go_at_call 82; refine (told_any c h v p s d g 3 s i u _).mono ?_; rintro e w' ⟨rfl, rfl⟩) | go_in)
  rw [rounds_succ]
  go_wp2_with (first | (go_at_call 185; refine (begin_yes c h v p s d g 5 b i u clock _ _ (by simp) hl).mono ?_; rintro e w' ⟨rfl, rfl⟩) | (go_at_call 82; refine (told_any c h v p s d g 3 s i u _).mono ?_; rintro e w' ⟨rfl, rfl⟩) | go_in)
  rw [rounds_succ]
  go_wp2_with (first | (go_at_call 185; refine (begin_yes c h v p s d g 5 b i u clock _ _ (by simp) hl).mono ?_; rintro e w' ⟨rfl, rfl⟩) | (go_at_call 82; refine (told_any c h v p s d g 3 s i u _).mono ?_; rintro e w' ⟨rfl, rfl⟩) | go_in)
  exact bodyPost_ret (v := .tuple #[.agg #[.string c, .int .i64 v, .string h, .int .i64 p, .int .i64 s, .int .i64 d, .int .i64 g, .int .i64 3, .int .i64 s, .int .i64 i, .int .i64 u], .bool true]) (by simp [results, Try.results26, go_sem]) rfl ⟨rfl, by repeat (first | exact Below.refl _ _ | refine bl_alloc ?_ _ | refine bl_drew ?_)⟩

set_option maxHeartbeats 2000000 in
theorem implLive_T3a (c h c2 h2 : ByteArray) (v p s d g b i u v2 p2 s2 d2 g2 clock : Int) (w : World) (hb : 1 < b) (hbb : b ≤ 9223372036854775807) (heq : ∀ w, Sem.run Try.prog (binOp .eql 36 (.agg #[.string c2, .int .i64 v2, .string h2, .int .i64 p2, .int .i64 s2, .int .i64 d2, .int .i64 g2]) (.agg #[.string c, .int .i64 v, .string h, .int .i64 p, .int .i64 s, .int .i64 d, .int .i64 g])) w = .ok (.bool true) w) :
    Calls Try.prog 26 #[.agg #[.string c, .int .i64 v, .string h, .int .i64 p, .int .i64 s, .int .i64 d, .int .i64 g, .int .i64 3, .int .i64 b, .int .i64 i, .int .i64 u], .agg #[.string c2, .int .i64 v2, .string h2, .int .i64 p2, .int .i64 s2, .int .i64 d2, .int .i64 g2], .bool true, .int .i64 clock] w fun e w' => e = .returned (.tuple #[.agg #[.string c, .int .i64 v, .string h, .int .i64 p, .int .i64 s, .int .i64 d, .int .i64 g, .int .i64 3, .int .i64 (b - 1), .int .i64 i, .int .i64 u], .bool true]) ∧ Below w.heap.size w w' := by
  have hn1 := neq_func
  have hn0 := neq_nil
  go_enter Try.func26, Try.ntmps26
  go_wp2_with (first | (go_at_call 80; refine (runOf_any c h v p s d g 3 b i u _).mono ?_; rintro e w' ⟨rfl, rfl⟩) | (go_at_call 76; refine (alive_any 3 _).mono ?_; rintro e w' ⟨rfl, rfl⟩) | (go_at_call 176; refine (steps_any _).mono ?_; rintro e w' ⟨rfl, rfl⟩) | go_in)
  refine wp_loop_rounds 2 ?_
  rw [rounds_succ]
  go_wp2_with (first | (go_at_call 82; refine (told_any c h v p s d g 3 (b - 1) i u _).mono ?_; rintro e w' ⟨rfl, rfl⟩) | go_in)
  rw [rounds_succ]
  go_wp2_with (first | (go_at_call 82; refine (told_any c h v p s d g 3 (b - 1) i u _).mono ?_; rintro e w' ⟨rfl, rfl⟩) | go_in)
  exact bodyPost_ret (v := .tuple #[.agg #[.string c, .int .i64 v, .string h, .int .i64 p, .int .i64 s, .int .i64 d, .int .i64 g, .int .i64 3, .int .i64 (b - 1), .int .i64 i, .int .i64 u], .bool true]) (by simp [results, Try.results26, go_sem]) rfl ⟨rfl, by repeat (first | exact Below.refl _ _ | refine bl_alloc ?_ _ | refine bl_drew ?_)⟩

set_option maxHeartbeats 2000000 in
theorem implLive_T4d (c h c2 h2 : ByteArray) (v p s d g i u v2 p2 s2 d2 g2 clock : Int) (w : World) (hi : i < 1000) (hii : -9223372036854775808 ≤ i) (heq : ∀ w, Sem.run Try.prog (binOp .eql 36 (.agg #[.string c2, .int .i64 v2, .string h2, .int .i64 p2, .int .i64 s2, .int .i64 d2, .int .i64 g2]) (.agg #[.string c, .int .i64 v, .string h, .int .i64 p, .int .i64 s, .int .i64 d, .int .i64 g])) w = .ok (.bool true) w) :
    Calls Try.prog 26 #[.agg #[.string c, .int .i64 v, .string h, .int .i64 p, .int .i64 s, .int .i64 d, .int .i64 g, .int .i64 4, .int .i64 1, .int .i64 i, .int .i64 u], .agg #[.string c2, .int .i64 v2, .string h2, .int .i64 p2, .int .i64 s2, .int .i64 d2, .int .i64 g2], .bool true, .int .i64 clock] w fun e w' => e = .returned (.tuple #[.agg #[.string c, .int .i64 v, .string h, .int .i64 p, .int .i64 s, .int .i64 d, .int .i64 g, .int .i64 5, .int .i64 (boff (i + 1)), .int .i64 (i + 1), .int .i64 u], .bool true]) ∧ Below w.heap.size w w' := by
  have hn1 := neq_func
  have hn0 := neq_nil
  go_enter Try.func26, Try.ntmps26
  go_wp2_with (first | (go_at_call 80; refine (runOf_any c h v p s d g 4 1 i u _).mono ?_; rintro e w' ⟨rfl, rfl⟩) | (go_at_call 76; refine (alive_any 4 _).mono ?_; rintro e w' ⟨rfl, rfl⟩) | (go_at_call 176; refine (steps_any _).mono ?_; rintro e w' ⟨rfl, rfl⟩) | go_in)
  refine wp_loop_rounds 3 ?_
  rw [rounds_succ]
  go_wp2_with (first | (go_at_call 192; refine (backoff_any (i + 1) _).mono ?_; rintro e w' ⟨rfl, rfl⟩) | (go_at_call 82; refine (told_any c h v p s d g 5 (boff (i + 1)) (i + 1) u _).mono ?_; rintro e w' ⟨rfl, rfl⟩) | go_in)
  rw [rounds_succ]
  go_wp2_with (first | (go_at_call 192; refine (backoff_any (i + 1) _).mono ?_; rintro e w' ⟨rfl, rfl⟩) | (go_at_call 82; refine (told_any c h v p s d g 5 (boff (i + 1)) (i + 1) u _).mono ?_; rintro e w' ⟨rfl, rfl⟩) | go_in)
  rw [rounds_succ]
  go_wp2_with (first | (go_at_call 192; refine (backoff_any (i + 1) _).mono ?_; rintro e w' ⟨rfl, rfl⟩) | (go_at_call 82; refine (told_any c h v p s d g 5 (boff (i + 1)) (i + 1) u _).mono ?_; rintro e w' ⟨rfl, rfl⟩) | go_in)
  exact bodyPost_ret (v := .tuple #[.agg #[.string c, .int .i64 v, .string h, .int .i64 p, .int .i64 s, .int .i64 d, .int .i64 g, .int .i64 5, .int .i64 (boff (i + 1)), .int .i64 (i + 1), .int .i64 u], .bool true]) (by simp [results, Try.results26, go_sem]) rfl ⟨rfl, by repeat (first | exact Below.refl _ _ | refine bl_alloc ?_ _ | refine bl_drew ?_)⟩

set_option maxHeartbeats 2000000 in
theorem implLive_OGa (c h c2 h2 : ByteArray) (v p s d g a b i u v2 p2 s2 d2 g2 clock : Int) (w : World) (ha : 6 < a) (ha1 : 1 ≤ a) (hb : 1 < b) (hbb : b ≤ 9223372036854775807) (heq : ∀ w, Sem.run Try.prog (binOp .eql 36 (.agg #[.string c2, .int .i64 v2, .string h2, .int .i64 p2, .int .i64 s2, .int .i64 d2, .int .i64 g2]) (.agg #[.string c, .int .i64 v, .string h, .int .i64 p, .int .i64 s, .int .i64 d, .int .i64 g])) w = .ok (.bool true) w) :
    Calls Try.prog 26 #[.agg #[.string c, .int .i64 v, .string h, .int .i64 p, .int .i64 s, .int .i64 d, .int .i64 g, .int .i64 a, .int .i64 b, .int .i64 i, .int .i64 u], .agg #[.string c2, .int .i64 v2, .string h2, .int .i64 p2, .int .i64 s2, .int .i64 d2, .int .i64 g2], .bool true, .int .i64 clock] w fun e w' => e = .returned (.tuple #[.agg #[.string c, .int .i64 v, .string h, .int .i64 p, .int .i64 s, .int .i64 d, .int .i64 g, .int .i64 a, .int .i64 (b - 1), .int .i64 i, .int .i64 u], .bool true]) ∧ Below w.heap.size w w' := by
  have hn1 := neq_func
  have hn0 := neq_nil
  go_enter Try.func26, Try.ntmps26
  go_wp2_with (first | (go_at_call 80; refine (runOf_any c h v p s d g a b i u _).mono ?_; rintro e w' ⟨rfl, rfl⟩) | (go_at_call 76; refine (alive_any a _).mono ?_; rintro e w' ⟨rfl, rfl⟩) | (go_at_call 176; refine (steps_any _).mono ?_; rintro e w' ⟨rfl, rfl⟩) | go_in)
  refine wp_loop_rounds 2 ?_
  rw [rounds_succ]
  go_wp2_with (first | (go_at_call 82; refine (told_any c h v p s d g a (b - 1) i u _).mono ?_; rintro e w' ⟨rfl, rfl⟩) | go_in)
  rw [rounds_succ]
  go_wp2_with (first | (go_at_call 82; refine (told_any c h v p s d g a (b - 1) i u _).mono ?_; rintro e w' ⟨rfl, rfl⟩) | go_in)
  exact bodyPost_ret (v := .tuple #[.agg #[.string c, .int .i64 v, .string h, .int .i64 p, .int .i64 s, .int .i64 d, .int .i64 g, .int .i64 a, .int .i64 (b - 1), .int .i64 i, .int .i64 u], .bool true]) (by simp [results, Try.results26, go_sem]) rfl ⟨rfl, by repeat (first | exact Below.refl _ _ | refine bl_alloc ?_ _ | refine bl_drew ?_)⟩
end Go.Proofs.Ytkebokkckmgloaa
/- The program's MateLive, case by case. -/
namespace Go.Proofs.Ytkebokkckmgloaa
open Go.RowKit
set_option linter.unusedVariables false

set_option maxHeartbeats 2000000 in
theorem implLive_U0t (c h c2 h2 : ByteArray) (v p s d g a b i u v2 p2 s2 d2 g2 clock : Int) (w : World) (ha : aliveB a = false) (h6 : (a == 6) = false) (heq : ∀ w, Sem.run Try.prog (binOp .eql 36 (.agg #[.string c2, .int .i64 v2, .string h2, .int .i64 p2, .int .i64 s2, .int .i64 d2, .int .i64 g2]) (.agg #[.string c, .int .i64 v, .string h, .int .i64 p, .int .i64 s, .int .i64 d, .int .i64 g])) w = .ok (.bool false) w) :
    Calls Try.prog 26 #[.agg #[.string c, .int .i64 v, .string h, .int .i64 p, .int .i64 s, .int .i64 d, .int .i64 g, .int .i64 a, .int .i64 b, .int .i64 i, .int .i64 u], .agg #[.string c2, .int .i64 v2, .string h2, .int .i64 p2, .int .i64 s2, .int .i64 d2, .int .i64 g2], .bool true, .int .i64 clock] w fun e w' => e = .returned (.tuple #[.agg #[.string ⟨#[]⟩, .int .i64 0, .string ⟨#[]⟩, .int .i64 0, .int .i64 0, .int .i64 0, .int .i64 0, .int .i64 0, .int .i64 0, .int .i64 0, .int .i64 0], .bool false]) ∧ Below w.heap.size w w' := by
  have hn1 := neq_func
  have hn0 := neq_nil
  go_enter Try.func26, Try.ntmps26
  go_wp2_with (first | (go_at_call 80; refine (runOf_any c h v p s d g a b i u _).mono ?_; rintro e w' ⟨rfl, rfl⟩) | (go_at_call 76; refine (alive_any a _).mono ?_; rintro e w' ⟨rfl, rfl⟩) | (go_at_call 176; refine (steps_any _).mono ?_; rintro e w' ⟨rfl, rfl⟩) | go_in)
  refine wp_loop_rounds 2 ?_
  rw [rounds_succ]
  go_wp2_with (first | go_in)
  rw [rounds_succ]
  go_wp2_with (first | go_in)
  exact bodyPost_ret (v := .tuple #[.agg #[.string ⟨#[]⟩, .int .i64 0, .string ⟨#[]⟩, .int .i64 0, .int .i64 0, .int .i64 0, .int .i64 0, .int .i64 0, .int .i64 0, .int .i64 0, .int .i64 0], .bool false]) (by simp [results, Try.results26, go_sem]) rfl ⟨rfl, by repeat (first | exact Below.refl _ _ | refine bl_alloc ?_ _ | refine bl_drew ?_)⟩

set_option maxHeartbeats 2000000 in
theorem implLive_S6bn (c h c2 h2 : ByteArray) (v p s d g b i u v2 p2 s2 d2 g2 clock : Int) (w : World) (hb : b ≤ 1) (heq : ∀ w, Sem.run Try.prog (binOp .eql 36 (.agg #[.string c2, .int .i64 v2, .string h2, .int .i64 p2, .int .i64 s2, .int .i64 d2, .int .i64 g2]) (.agg #[.string c, .int .i64 v, .string h, .int .i64 p, .int .i64 s, .int .i64 d, .int .i64 g])) w = .ok (.bool false) w) :
    Calls Try.prog 26 #[.agg #[.string c, .int .i64 v, .string h, .int .i64 p, .int .i64 s, .int .i64 d, .int .i64 g, .int .i64 6, .int .i64 b, .int .i64 i, .int .i64 u], .agg #[.string c2, .int .i64 v2, .string h2, .int .i64 p2, .int .i64 s2, .int .i64 d2, .int .i64 g2], .bool true, .int .i64 clock] w fun e w' => e = .returned (.tuple #[.agg #[.string ⟨#[]⟩, .int .i64 0, .string ⟨#[]⟩, .int .i64 0, .int .i64 0, .int .i64 0, .int .i64 0, .int .i64 0, .int .i64 0, .int .i64 0, .int .i64 0], .bool false]) ∧ Below w.heap.size w w' := by
  have hn1 := neq_func
  have hn0 := neq_nil
  go_enter Try.func26, Try.ntmps26
  go_wp2_with (first | (go_at_call 80; refine (runOf_any c h v p s d g 6 b i u _).mono ?_; rintro e w' ⟨rfl, rfl⟩) | (go_at_call 76; refine (alive_any 6 _).mono ?_; rintro e w' ⟨rfl, rfl⟩) | (go_at_call 176; refine (steps_any _).mono ?_; rintro e w' ⟨rfl, rfl⟩) | go_in)
  refine wp_loop_rounds 3 ?_
  rw [rounds_succ]
  go_wp2_with (first | go_in)
  rw [rounds_succ]
  go_wp2_with (first | go_in)
  rw [rounds_succ]
  go_wp2_with (first | go_in)
  exact bodyPost_ret (v := .tuple #[.agg #[.string ⟨#[]⟩, .int .i64 0, .string ⟨#[]⟩, .int .i64 0, .int .i64 0, .int .i64 0, .int .i64 0, .int .i64 0, .int .i64 0, .int .i64 0, .int .i64 0], .bool false]) (by simp [results, Try.results26, go_sem]) rfl ⟨rfl, by repeat (first | exact Below.refl _ _ | refine bl_alloc ?_ _ | refine bl_drew ?_)⟩

set_option maxHeartbeats 2000000 in
theorem implLive_T1y (c h c2 h2 : ByteArray) (v p s d g b i u v2 p2 s2 d2 g2 clock : Int) (w : World) (hb : b ≤ 1) (hl : leasedB h u clock = true) (heq : ∀ w, Sem.run Try.prog (binOp .eql 36 (.agg #[.string c2, .int .i64 v2, .string h2, .int .i64 p2, .int .i64 s2, .int .i64 d2, .int .i64 g2]) (.agg #[.string c, .int .i64 v, .string h, .int .i64 p, .int .i64 s, .int .i64 d, .int .i64 g])) w = .ok (.bool true) w) :
    Calls Try.prog 26 #[.agg #[.string c, .int .i64 v, .string h, .int .i64 p, .int .i64 s, .int .i64 d, .int .i64 g, .int .i64 1, .int .i64 b, .int .i64 i, .int .i64 u], .agg #[.string c2, .int .i64 v2, .string h2, .int .i64 p2, .int .i64 s2, .int .i64 d2, .int .i64 g2], .bool true, .int .i64 clock] w fun e w' => e = .returned (.tuple #[.agg #[.string c, .int .i64 v, .string h, .int .i64 p, .int .i64 s, .int .i64 d, .int .i64 g, .int .i64 3, .int .i64 s, .int .i64 i, .int .i64 u], .bool true]) ∧ Below w.heap.size w w' := by
  have hn1 := neq_func
  have hn0 := neq_nil
  go_enter Try.func26, Try.ntmps26
  go_wp2_with (first | (go_at_call 80; refine (runOf_any c h v p s d g 1 b i u _).mono ?_; rintro e w' ⟨rfl, rfl⟩) | (go_at_call 76; refine (alive_any 1 _).mono ?_; rintro e w' ⟨rfl, rfl⟩) | (go_at_call 176; refine (steps_any _).mono ?_; rintro e w' ⟨rfl, rfl⟩) | go_in)
  refine wp_loop_rounds 3 ?_
  rw [rounds_succ]
  go_wp2_with (first | (go_at_call 185; refine (begin_yes c h v p s d g 1 b i u clock _ _ (by simp) hl).mono ?_; rintro e w' ⟨rfl, rfl⟩) | (go_at_call 82; refine (told_any c h v p s d g 3 s i u _).mono ?_; rintro e w' ⟨rfl, rfl⟩) | go_in)
  rw [rounds_succ]
  go_wp2_with (first | (go_at_call 185; refine (begin_yes c h v p s d g 1 b i u clock _ _ (by simp) hl).mono ?_; rintro e w' ⟨rfl, rfl⟩) | (go_at_call 82; refine (told_any c h v p s d g 3 s i u _).mono ?_; rintro e w' ⟨rfl, rfl⟩) | go_in)
  rw [rounds_succ]
  go_wp2_with (first | (go_at_call 185; refine (begin_yes c h v p s d g 1 b i u clock _ _ (by simp) hl).mono ?_; rintro e w' ⟨rfl, rfl⟩) | (go_at_call 82; refine (told_any c h v p s d g 3 s i u _).mono ?_; rintro e w' ⟨rfl, rfl⟩) | go_in)
  exact bodyPost_ret (v := .tuple #[.agg #[.string c, .int .i64 v, .string h, .int .i64 p, .int .i64 s, .int .i64 d, .int .i64 g, .int .i64 3, .int .i64 s, .int .i64 i, .int .i64 u], .bool true]) (by simp [results, Try.results26, go_sem]) rfl ⟨rfl, by repeat (first | exact Below.refl _ _ | refine bl_alloc ?_ _ | refine bl_drew ?_)⟩

set_option maxHeartbeats 2000000 in
theorem implLive_T5n (c h c2 h2 : ByteArray) (v p s d g b i u v2 p2 s2 d2 g2 clock : Int) (w : World) (hb : b ≤ 1) (hl : leasedB h u clock = false) (heq : ∀ w, Sem.run Try.prog (binOp .eql 36 (.agg #[.string c2, .int .i64 v2, .string h2, .int .i64 p2, .int .i64 s2, .int .i64 d2, .int .i64 g2]) (.agg #[.string c, .int .i64 v, .string h, .int .i64 p, .int .i64 s, .int .i64 d, .int .i64 g])) w = .ok (.bool true) w) :
    Calls Try.prog 26 #[.agg #[.string c, .int .i64 v, .string h, .int .i64 p, .int .i64 s, .int .i64 d, .int .i64 g, .int .i64 5, .int .i64 b, .int .i64 i, .int .i64 u], .agg #[.string c2, .int .i64 v2, .string h2, .int .i64 p2, .int .i64 s2, .int .i64 d2, .int .i64 g2], .bool true, .int .i64 clock] w fun e w' => e = .returned (.tuple #[.agg #[.string c, .int .i64 v, .string h, .int .i64 p, .int .i64 s, .int .i64 d, .int .i64 g, .int .i64 2, .int .i64 0, .int .i64 i, .int .i64 u], .bool true]) ∧ Below w.heap.size w w' := by
  have hn1 := neq_func
  have hn0 := neq_nil
  go_enter Try.func26, Try.ntmps26
  go_wp2_with (first | (go_at_call 80; refine (runOf_any c h v p s d g 5 b i u _).mono ?_; rintro e w' ⟨rfl, rfl⟩) | (go_at_call 76; refine (alive_any 5 _).mono ?_; rintro e w' ⟨rfl, rfl⟩) | (go_at_call 176; refine (steps_any _).mono ?_; rintro e w' ⟨rfl, rfl⟩) | go_in)
  refine wp_loop_rounds 3 ?_
  rw [rounds_succ]
  go_wp2_with (first | (go_at_call 185; refine (begin_no c h v p s d g 5 b i u clock _ _ (by simp) hl).mono ?_; rintro e w' ⟨rfl, rfl⟩) | (go_at_call 82; refine (told_any c h v p s d g 2 0 i u _).mono ?_; rintro e w' ⟨rfl, rfl⟩) | go_in)
  rw [rounds_succ]
  go_wp2_with (first | (go_at_call 185; refine (begin_no c h v p s d g 5 b i u clock _ _ (by simp) hl).mono ?_; rintro e w' ⟨rfl, rfl⟩) | (go_at_call 82; refine (told_any c h v p s d g 2 0 i u _).mono ?_; rintro e w' ⟨rfl, rfl⟩) | go_in)
  rw [rounds_succ]
  go_wp2_with (first | (go_at_call 185; refine (begin_no c h v p s d g 5 b i u clock _ _ (by simp) hl).mono ?_; rintro e w' ⟨rfl, rfl⟩) | (go_at_call 82; refine (told_any c h v p s d g 2 0 i u _).mono ?_; rintro e w' ⟨rfl, rfl⟩) | go_in)
  exact bodyPost_ret (v := .tuple #[.agg #[.string c, .int .i64 v, .string h, .int .i64 p, .int .i64 s, .int .i64 d, .int .i64 g, .int .i64 2, .int .i64 0, .int .i64 i, .int .i64 u], .bool true]) (by simp [results, Try.results26, go_sem]) rfl ⟨rfl, by repeat (first | exact Below.refl _ _ | refine bl_alloc ?_ _ | refine bl_drew ?_)⟩

set_option maxHeartbeats 2000000 in
theorem implLive_T3b (c h c2 h2 : ByteArray) (v p s d g b i u v2 p2 s2 d2 g2 clock : Int) (w : World) (hb : b ≤ 1) (heq : ∀ w, Sem.run Try.prog (binOp .eql 36 (.agg #[.string c2, .int .i64 v2, .string h2, .int .i64 p2, .int .i64 s2, .int .i64 d2, .int .i64 g2]) (.agg #[.string c, .int .i64 v, .string h, .int .i64 p, .int .i64 s, .int .i64 d, .int .i64 g])) w = .ok (.bool true) w) :
    Calls Try.prog 26 #[.agg #[.string c, .int .i64 v, .string h, .int .i64 p, .int .i64 s, .int .i64 d, .int .i64 g, .int .i64 3, .int .i64 b, .int .i64 i, .int .i64 u], .agg #[.string c2, .int .i64 v2, .string h2, .int .i64 p2, .int .i64 s2, .int .i64 d2, .int .i64 g2], .bool true, .int .i64 clock] w fun e w' => e = .returned (.tuple #[.agg #[.string c, .int .i64 v, .string h, .int .i64 p, .int .i64 s, .int .i64 d, .int .i64 g, .int .i64 4, .int .i64 d, .int .i64 i, .int .i64 u], .bool true]) ∧ Below w.heap.size w w' := by
  have hn1 := neq_func
  have hn0 := neq_nil
  go_enter Try.func26, Try.ntmps26
  go_wp2_with (first | (go_at_call 80; refine (runOf_any c h v p s d g 3 b i u _).mono ?_; rintro e w' ⟨rfl, rfl⟩) | (go_at_call 76; refine (alive_any 3 _).mono ?_; rintro e w' ⟨rfl, rfl⟩) | (go_at_call 176; refine (steps_any _).mono ?_; rintro e w' ⟨rfl, rfl⟩) | go_in)
  refine wp_loop_rounds 3 ?_
  rw [rounds_succ]
  go_wp2_with (first | (go_at_call 82; refine (told_any c h v p s d g 4 d i u _).mono ?_; rintro e w' ⟨rfl, rfl⟩) | go_in)
  rw [rounds_succ]
  go_wp2_with (first | (go_at_call 82; refine (told_any c h v p s d g 4 d i u _).mono ?_; rintro e w' ⟨rfl, rfl⟩) | go_in)
  rw [rounds_succ]
  go_wp2_with (first | (go_at_call 82; refine (told_any c h v p s d g 4 d i u _).mono ?_; rintro e w' ⟨rfl, rfl⟩) | go_in)
  exact bodyPost_ret (v := .tuple #[.agg #[.string c, .int .i64 v, .string h, .int .i64 p, .int .i64 s, .int .i64 d, .int .i64 g, .int .i64 4, .int .i64 d, .int .i64 i, .int .i64 u], .bool true]) (by simp [results, Try.results26, go_sem]) rfl ⟨rfl, by repeat (first | exact Below.refl _ _ | refine bl_alloc ?_ _ | refine bl_drew ?_)⟩

set_option maxHeartbeats 2000000 in
theorem implLive_T4e (c h c2 h2 : ByteArray) (v p s d g i u v2 p2 s2 d2 g2 clock : Int) (w : World) (hi : 1000 ≤ i) (heq : ∀ w, Sem.run Try.prog (binOp .eql 36 (.agg #[.string c2, .int .i64 v2, .string h2, .int .i64 p2, .int .i64 s2, .int .i64 d2, .int .i64 g2]) (.agg #[.string c, .int .i64 v, .string h, .int .i64 p, .int .i64 s, .int .i64 d, .int .i64 g])) w = .ok (.bool true) w) :
    Calls Try.prog 26 #[.agg #[.string c, .int .i64 v, .string h, .int .i64 p, .int .i64 s, .int .i64 d, .int .i64 g, .int .i64 4, .int .i64 1, .int .i64 i, .int .i64 u], .agg #[.string c2, .int .i64 v2, .string h2, .int .i64 p2, .int .i64 s2, .int .i64 d2, .int .i64 g2], .bool true, .int .i64 clock] w fun e w' => e = .returned (.tuple #[.agg #[.string c, .int .i64 v, .string h, .int .i64 p, .int .i64 s, .int .i64 d, .int .i64 g, .int .i64 5, .int .i64 (boff i), .int .i64 i, .int .i64 u], .bool true]) ∧ Below w.heap.size w w' := by
  have hn1 := neq_func
  have hn0 := neq_nil
  go_enter Try.func26, Try.ntmps26
  go_wp2_with (first | (go_at_call 80; refine (runOf_any c h v p s d g 4 1 i u _).mono ?_; rintro e w' ⟨rfl, rfl⟩) | (go_at_call 76; refine (alive_any 4 _).mono ?_; rintro e w' ⟨rfl, rfl⟩) | (go_at_call 176; refine (steps_any _).mono ?_; rintro e w' ⟨rfl, rfl⟩) | go_in)
  refine wp_loop_rounds 3 ?_
  rw [rounds_succ]
  go_wp2_with (first | (go_at_call 192; refine (backoff_any i _).mono ?_; rintro e w' ⟨rfl, rfl⟩) | (go_at_call 82; refine (told_any c h v p s d g 5 (boff i) i u _).mono ?_; rintro e w' ⟨rfl, rfl⟩) | go_in)
  rw [rounds_succ]
  go_wp2_with (first | (go_at_call 192; refine (backoff_any i _).mono ?_; rintro e w' ⟨rfl, rfl⟩) | (go_at_call 82; refine (told_any c h v p s d g 5 (boff i) i u _).mono ?_; rintro e w' ⟨rfl, rfl⟩) | go_in)
  rw [rounds_succ]
  go_wp2_with (first | (go_at_call 192; refine (backoff_any i _).mono ?_; rintro e w' ⟨rfl, rfl⟩) | (go_at_call 82; refine (told_any c h v p s d g 5 (boff i) i u _).mono ?_; rintro e w' ⟨rfl, rfl⟩) | go_in)
  exact bodyPost_ret (v := .tuple #[.agg #[.string c, .int .i64 v, .string h, .int .i64 p, .int .i64 s, .int .i64 d, .int .i64 g, .int .i64 5, .int .i64 (boff i), .int .i64 i, .int .i64 u], .bool true]) (by simp [results, Try.results26, go_sem]) rfl ⟨rfl, by repeat (first | exact Below.refl _ _ | refine bl_alloc ?_ _ | refine bl_drew ?_)⟩

set_option maxHeartbeats 2000000 in
theorem implLive_OGb (c h c2 h2 : ByteArray) (v p s d g a b i u v2 p2 s2 d2 g2 clock : Int) (w : World) (ha : 6 < a) (ha1 : 1 ≤ a) (hb : b ≤ 1) (heq : ∀ w, Sem.run Try.prog (binOp .eql 36 (.agg #[.string c2, .int .i64 v2, .string h2, .int .i64 p2, .int .i64 s2, .int .i64 d2, .int .i64 g2]) (.agg #[.string c, .int .i64 v, .string h, .int .i64 p, .int .i64 s, .int .i64 d, .int .i64 g])) w = .ok (.bool true) w) :
    Calls Try.prog 26 #[.agg #[.string c, .int .i64 v, .string h, .int .i64 p, .int .i64 s, .int .i64 d, .int .i64 g, .int .i64 a, .int .i64 b, .int .i64 i, .int .i64 u], .agg #[.string c2, .int .i64 v2, .string h2, .int .i64 p2, .int .i64 s2, .int .i64 d2, .int .i64 g2], .bool true, .int .i64 clock] w fun e w' => e = .returned (.tuple #[.agg #[.string c, .int .i64 v, .string h, .int .i64 p, .int .i64 s, .int .i64 d, .int .i64 g, .int .i64 a, .int .i64 b, .int .i64 i, .int .i64 u], .bool true]) ∧ Below w.heap.size w w' := by
  have hn1 := neq_func
  have hn0 := neq_nil
  go_enter Try.func26, Try.ntmps26
  go_wp2_with (first | (go_at_call 80; refine (runOf_any c h v p s d g a b i u _).mono ?_; rintro e w' ⟨rfl, rfl⟩) | (go_at_call 76; refine (alive_any a _).mono ?_; rintro e w' ⟨rfl, rfl⟩) | (go_at_call 176; refine (steps_any _).mono ?_; rintro e w' ⟨rfl, rfl⟩) | go_in)
  refine wp_loop_rounds 2 ?_
  rw [rounds_succ]
  go_wp2_with (first | (go_at_call 82; refine (told_any c h v p s d g a b i u _).mono ?_; rintro e w' ⟨rfl, rfl⟩) | go_in)
  rw [rounds_succ]
  go_wp2_with (first | (go_at_call 82; refine (told_any c h v p s d g a b i u _).mono ?_; rintro e w' ⟨rfl, rfl⟩) | go_in)
  exact bodyPost_ret (v := .tuple #[.agg #[.string c, .int .i64 v, .string h, .int .i64 p, .int .i64 s, .int .i64 d, .int .i64 g, .int .i64 a, .int .i64 b, .int .i64 i, .int .i64 u], .bool true]) (by simp [results, Try.results26, go_sem]) rfl ⟨rfl, by repeat (first | exact Below.refl _ _ | refine bl_alloc ?_ _ | refine bl_drew ?_)⟩
end Go.Proofs.Ytkebokkckmgloaa
/- The specification's tick of a run: its parts. -/
namespace Go.Proofs.Ytkebokkckmgloaa
open Go.RowKit
set_option linter.unusedVariables false

theorem l3Begin_yes (c h : ByteArray) (v p s d g a b i u clock : Int) (w : World) (hl : leasedB h u clock = true) :
    Calls Try.prog 84 #[.agg #[.string c, .int .i64 v, .string h, .int .i64 p, .int .i64 s, .int .i64 d, .int .i64 g, .int .i64 a, .int .i64 b, .int .i64 i, .int .i64 u], .int .i64 clock] w fun e w' => e = .returned (.agg #[.string c, .int .i64 v, .string h, .int .i64 p, .int .i64 s, .int .i64 d, .int .i64 g, .int .i64 3, .int .i64 s, .int .i64 i, .int .i64 u]) ∧ w' = (((w.alloc (.cells #[.string c, .int .i64 v, .string h, .int .i64 p, .int .i64 s, .int .i64 d, .int .i64 g, .int .i64 3, .int .i64 s, .int .i64 i, .int .i64 u] 38)).alloc (.cells #[.string c, .int .i64 v, .string h, .int .i64 p, .int .i64 s, .int .i64 d, .int .i64 g, .int .i64 3, .int .i64 s, .int .i64 i, .int .i64 u] 38)).alloc (.cells #[.string c, .int .i64 v, .string h, .int .i64 p, .int .i64 s, .int .i64 d, .int .i64 g, .int .i64 2, .int .i64 0, .int .i64 i, .int .i64 u] 38)) := by
  go_enter Try.func84, Try.ntmps84
  go_wp2_with (first | (go_at_call 98; refine (leased_any c h v p s d g 2 0 i u clock _).mono ?_; rintro e w' ⟨rfl, rfl⟩))
  exact bodyPost_ret (v := .agg #[.string c, .int .i64 v, .string h, .int .i64 p, .int .i64 s, .int .i64 d, .int .i64 g, .int .i64 3, .int .i64 s, .int .i64 i, .int .i64 u]) (by simp [results, Try.results84, go_sem]) rfl ⟨rfl, rfl⟩

theorem l3Begin_no (c h : ByteArray) (v p s d g a b i u clock : Int) (w : World) (hl : leasedB h u clock = false) :
    Calls Try.prog 84 #[.agg #[.string c, .int .i64 v, .string h, .int .i64 p, .int .i64 s, .int .i64 d, .int .i64 g, .int .i64 a, .int .i64 b, .int .i64 i, .int .i64 u], .int .i64 clock] w fun e w' => e = .returned (.agg #[.string c, .int .i64 v, .string h, .int .i64 p, .int .i64 s, .int .i64 d, .int .i64 g, .int .i64 2, .int .i64 0, .int .i64 i, .int .i64 u]) ∧ w' = (((w.alloc (.cells #[.string c, .int .i64 v, .string h, .int .i64 p, .int .i64 s, .int .i64 d, .int .i64 g, .int .i64 2, .int .i64 0, .int .i64 i, .int .i64 u] 38)).alloc (.cells #[.string c, .int .i64 v, .string h, .int .i64 p, .int .i64 s, .int .i64 d, .int .i64 g, .int .i64 2, .int .i64 0, .int .i64 i, .int .i64 u] 38)).alloc (.cells #[.string c, .int .i64 v, .string h, .int .i64 p, .int .i64 s, .int .i64 d, .int .i64 g, .int .i64 2, .int .i64 0, .int .i64 i, .int .i64 u] 38)) := by
  go_enter Try.func84, Try.ntmps84
  go_wp2_with (first | (go_at_call 98; refine (leased_any c h v p s d g 2 0 i u clock _).mono ?_; rintro e w' ⟨rfl, rfl⟩))
  exact bodyPost_ret (v := .agg #[.string c, .int .i64 v, .string h, .int .i64 p, .int .i64 s, .int .i64 d, .int .i64 g, .int .i64 2, .int .i64 0, .int .i64 i, .int .i64 u]) (by simp [results, Try.results84, go_sem]) rfl ⟨rfl, rfl⟩

theorem l3Dies_0 (c h : ByteArray) (v p s d g a b i u : Int) (w : World) (hi : i < 0) (hii : -9223372036854775808 ≤ i) :
    Calls Try.prog 83 #[.agg #[.string c, .int .i64 v, .string h, .int .i64 p, .int .i64 s, .int .i64 d, .int .i64 g, .int .i64 a, .int .i64 b, .int .i64 i, .int .i64 u]] w fun e w' => e = .returned (.agg #[.string c, .int .i64 v, .string h, .int .i64 p, .int .i64 s, .int .i64 d, .int .i64 g, .int .i64 5, .int .i64 1, .int .i64 (i + 1), .int .i64 u]) ∧ w' = ((w.alloc (.cells #[.string c, .int .i64 v, .string h, .int .i64 p, .int .i64 s, .int .i64 d, .int .i64 g, .int .i64 5, .int .i64 1, .int .i64 (i + 1), .int .i64 u] 38)).alloc (.cells #[.string c, .int .i64 v, .string h, .int .i64 p, .int .i64 s, .int .i64 d, .int .i64 g, .int .i64 5, .int .i64 1, .int .i64 (i + 1), .int .i64 u] 38)) := by
  go_enter Try.func83, Try.ntmps83
  go_wp2
  refine wp_loop_rounds 1 ?_
  rw [rounds_succ]
  go_wp2
  all_goals exact bodyPost_ret (v := .agg #[.string c, .int .i64 v, .string h, .int .i64 p, .int .i64 s, .int .i64 d, .int .i64 g, .int .i64 5, .int .i64 1, .int .i64 (i + 1), .int .i64 u]) (by simp [results, Try.results83, go_sem]) rfl ⟨rfl, rfl⟩

theorem l3Dies_1 (c h : ByteArray) (v p s d g a b u : Int) (w : World) :
    Calls Try.prog 83 #[.agg #[.string c, .int .i64 v, .string h, .int .i64 p, .int .i64 s, .int .i64 d, .int .i64 g, .int .i64 a, .int .i64 b, .int .i64 0, .int .i64 u]] w fun e w' => e = .returned (.agg #[.string c, .int .i64 v, .string h, .int .i64 p, .int .i64 s, .int .i64 d, .int .i64 g, .int .i64 5, .int .i64 2, .int .i64 1, .int .i64 u]) ∧ w' = ((w.alloc (.cells #[.string c, .int .i64 v, .string h, .int .i64 p, .int .i64 s, .int .i64 d, .int .i64 g, .int .i64 5, .int .i64 2, .int .i64 1, .int .i64 u] 38)).alloc (.cells #[.string c, .int .i64 v, .string h, .int .i64 p, .int .i64 s, .int .i64 d, .int .i64 g, .int .i64 5, .int .i64 2, .int .i64 1, .int .i64 u] 38)) := by
  go_enter Try.func83, Try.ntmps83
  go_wp2
  refine wp_loop_rounds 2 ?_
  rw [rounds_succ]
  go_wp2
  rw [rounds_succ]
  go_wp2
  all_goals exact bodyPost_ret (v := .agg #[.string c, .int .i64 v, .string h, .int .i64 p, .int .i64 s, .int .i64 d, .int .i64 g, .int .i64 5, .int .i64 2, .int .i64 1, .int .i64 u]) (by simp [results, Try.results83, go_sem]) rfl ⟨rfl, rfl⟩

theorem l3Dies_2 (c h : ByteArray) (v p s d g a b u : Int) (w : World) :
    Calls Try.prog 83 #[.agg #[.string c, .int .i64 v, .string h, .int .i64 p, .int .i64 s, .int .i64 d, .int .i64 g, .int .i64 a, .int .i64 b, .int .i64 1, .int .i64 u]] w fun e w' => e = .returned (.agg #[.string c, .int .i64 v, .string h, .int .i64 p, .int .i64 s, .int .i64 d, .int .i64 g, .int .i64 5, .int .i64 4, .int .i64 2, .int .i64 u]) ∧ w' = ((w.alloc (.cells #[.string c, .int .i64 v, .string h, .int .i64 p, .int .i64 s, .int .i64 d, .int .i64 g, .int .i64 5, .int .i64 4, .int .i64 2, .int .i64 u] 38)).alloc (.cells #[.string c, .int .i64 v, .string h, .int .i64 p, .int .i64 s, .int .i64 d, .int .i64 g, .int .i64 5, .int .i64 4, .int .i64 2, .int .i64 u] 38)) := by
  go_enter Try.func83, Try.ntmps83
  go_wp2
  refine wp_loop_rounds 3 ?_
  rw [rounds_succ]
  go_wp2
  rw [rounds_succ]
  go_wp2
  rw [rounds_succ]
  go_wp2
  all_goals exact bodyPost_ret (v := .agg #[.string c, .int .i64 v, .string h, .int .i64 p, .int .i64 s, .int .i64 d, .int .i64 g, .int .i64 5, .int .i64 4, .int .i64 2, .int .i64 u]) (by simp [results, Try.results83, go_sem]) rfl ⟨rfl, rfl⟩

theorem l3Dies_3 (c h : ByteArray) (v p s d g a b u : Int) (w : World) :
    Calls Try.prog 83 #[.agg #[.string c, .int .i64 v, .string h, .int .i64 p, .int .i64 s, .int .i64 d, .int .i64 g, .int .i64 a, .int .i64 b, .int .i64 2, .int .i64 u]] w fun e w' => e = .returned (.agg #[.string c, .int .i64 v, .string h, .int .i64 p, .int .i64 s, .int .i64 d, .int .i64 g, .int .i64 5, .int .i64 8, .int .i64 3, .int .i64 u]) ∧ w' = ((w.alloc (.cells #[.string c, .int .i64 v, .string h, .int .i64 p, .int .i64 s, .int .i64 d, .int .i64 g, .int .i64 5, .int .i64 8, .int .i64 3, .int .i64 u] 38)).alloc (.cells #[.string c, .int .i64 v, .string h, .int .i64 p, .int .i64 s, .int .i64 d, .int .i64 g, .int .i64 5, .int .i64 8, .int .i64 3, .int .i64 u] 38)) := by
  go_enter Try.func83, Try.ntmps83
  go_wp2
  refine wp_loop_rounds 4 ?_
  rw [rounds_succ]
  go_wp2
  rw [rounds_succ]
  go_wp2
  rw [rounds_succ]
  go_wp2
  rw [rounds_succ]
  go_wp2
  all_goals exact bodyPost_ret (v := .agg #[.string c, .int .i64 v, .string h, .int .i64 p, .int .i64 s, .int .i64 d, .int .i64 g, .int .i64 5, .int .i64 8, .int .i64 3, .int .i64 u]) (by simp [results, Try.results83, go_sem]) rfl ⟨rfl, rfl⟩

theorem l3Dies_4 (c h : ByteArray) (v p s d g a b i u : Int) (w : World) (hi : 3 ≤ i) (hi2 : i < 1000) :
    Calls Try.prog 83 #[.agg #[.string c, .int .i64 v, .string h, .int .i64 p, .int .i64 s, .int .i64 d, .int .i64 g, .int .i64 a, .int .i64 b, .int .i64 i, .int .i64 u]] w fun e w' => e = .returned (.agg #[.string c, .int .i64 v, .string h, .int .i64 p, .int .i64 s, .int .i64 d, .int .i64 g, .int .i64 5, .int .i64 16, .int .i64 (i + 1), .int .i64 u]) ∧ w' = ((w.alloc (.cells #[.string c, .int .i64 v, .string h, .int .i64 p, .int .i64 s, .int .i64 d, .int .i64 g, .int .i64 5, .int .i64 16, .int .i64 (i + 1), .int .i64 u] 38)).alloc (.cells #[.string c, .int .i64 v, .string h, .int .i64 p, .int .i64 s, .int .i64 d, .int .i64 g, .int .i64 5, .int .i64 16, .int .i64 (i + 1), .int .i64 u] 38)) := by
  go_enter Try.func83, Try.ntmps83
  go_wp2
  refine wp_loop_rounds 5 ?_
  rw [rounds_succ]
  go_wp2
  rw [rounds_succ]
  go_wp2
  rw [rounds_succ]
  go_wp2
  rw [rounds_succ]
  go_wp2
  rw [rounds_succ]
  go_wp2
  all_goals exact bodyPost_ret (v := .agg #[.string c, .int .i64 v, .string h, .int .i64 p, .int .i64 s, .int .i64 d, .int .i64 g, .int .i64 5, .int .i64 16, .int .i64 (i + 1), .int .i64 u]) (by simp [results, Try.results83, go_sem]) rfl ⟨rfl, rfl⟩

theorem l3Dies_5 (c h : ByteArray) (v p s d g a b i u : Int) (w : World) (hi : 1000 ≤ i) :
    Calls Try.prog 83 #[.agg #[.string c, .int .i64 v, .string h, .int .i64 p, .int .i64 s, .int .i64 d, .int .i64 g, .int .i64 a, .int .i64 b, .int .i64 i, .int .i64 u]] w fun e w' => e = .returned (.agg #[.string c, .int .i64 v, .string h, .int .i64 p, .int .i64 s, .int .i64 d, .int .i64 g, .int .i64 5, .int .i64 16, .int .i64 i, .int .i64 u]) ∧ w' = ((w.alloc (.cells #[.string c, .int .i64 v, .string h, .int .i64 p, .int .i64 s, .int .i64 d, .int .i64 g, .int .i64 5, .int .i64 16, .int .i64 i, .int .i64 u] 38)).alloc (.cells #[.string c, .int .i64 v, .string h, .int .i64 p, .int .i64 s, .int .i64 d, .int .i64 g, .int .i64 5, .int .i64 16, .int .i64 i, .int .i64 u] 38)) := by
  go_enter Try.func83, Try.ntmps83
  go_wp2
  refine wp_loop_rounds 5 ?_
  rw [rounds_succ]
  go_wp2
  rw [rounds_succ]
  go_wp2
  rw [rounds_succ]
  go_wp2
  rw [rounds_succ]
  go_wp2
  rw [rounds_succ]
  go_wp2
  all_goals exact bodyPost_ret (v := .agg #[.string c, .int .i64 v, .string h, .int .i64 p, .int .i64 s, .int .i64 d, .int .i64 g, .int .i64 5, .int .i64 16, .int .i64 i, .int .i64 u]) (by simp [results, Try.results83, go_sem]) rfl ⟨rfl, rfl⟩

theorem l3Dies_lt (c h : ByteArray) (v p s d g a b i u : Int) (w : World) (hi : i < 1000) (hii : -9223372036854775808 ≤ i) :
    Calls Try.prog 83 #[.agg #[.string c, .int .i64 v, .string h, .int .i64 p, .int .i64 s, .int .i64 d, .int .i64 g, .int .i64 a, .int .i64 b, .int .i64 i, .int .i64 u]] w fun e w' => e = .returned (.agg #[.string c, .int .i64 v, .string h, .int .i64 p, .int .i64 s, .int .i64 d, .int .i64 g, .int .i64 5, .int .i64 (boff (i + 1)), .int .i64 (i + 1), .int .i64 u]) ∧ w' = ((w.alloc (.cells #[.string c, .int .i64 v, .string h, .int .i64 p, .int .i64 s, .int .i64 d, .int .i64 g, .int .i64 5, .int .i64 (boff (i + 1)), .int .i64 (i + 1), .int .i64 u] 38)).alloc (.cells #[.string c, .int .i64 v, .string h, .int .i64 p, .int .i64 s, .int .i64 d, .int .i64 g, .int .i64 5, .int .i64 (boff (i + 1)), .int .i64 (i + 1), .int .i64 u] 38)) := by
  by_cases h0 : i < 0
  · rw [show boff (i + 1) = 1 from by unfold boff; rw [if_pos (by omega)]]; exact l3Dies_0 c h v p s d g a b i u w h0 hii
  · by_cases h1 : i = 0
    · subst h1; exact l3Dies_1 c h v p s d g a b u w
    · by_cases h2 : i = 1
      · subst h2; exact l3Dies_2 c h v p s d g a b u w
      · by_cases h3 : i = 2
        · subst h3; exact l3Dies_3 c h v p s d g a b u w
        · rw [show boff (i + 1) = 16 from by unfold boff; rw [if_neg (by omega), if_neg (by omega), if_neg (by omega), if_neg (by omega)]]; exact l3Dies_4 c h v p s d g a b i u w (by omega) hi
theorem l3Dies_ge (c h : ByteArray) (v p s d g a b i u : Int) (w : World) (hi : 1000 ≤ i) :
    Calls Try.prog 83 #[.agg #[.string c, .int .i64 v, .string h, .int .i64 p, .int .i64 s, .int .i64 d, .int .i64 g, .int .i64 a, .int .i64 b, .int .i64 i, .int .i64 u]] w fun e w' => e = .returned (.agg #[.string c, .int .i64 v, .string h, .int .i64 p, .int .i64 s, .int .i64 d, .int .i64 g, .int .i64 5, .int .i64 (boff i), .int .i64 i, .int .i64 u]) ∧ w' = ((w.alloc (.cells #[.string c, .int .i64 v, .string h, .int .i64 p, .int .i64 s, .int .i64 d, .int .i64 g, .int .i64 5, .int .i64 (boff i), .int .i64 i, .int .i64 u] 38)).alloc (.cells #[.string c, .int .i64 v, .string h, .int .i64 p, .int .i64 s, .int .i64 d, .int .i64 g, .int .i64 5, .int .i64 (boff i), .int .i64 i, .int .i64 u] 38)) := by
  rw [show boff i = 16 from by unfold boff; rw [if_neg (by omega), if_neg (by omega), if_neg (by omega), if_neg (by omega)]]; exact l3Dies_5 c h v p s d g a b i u w hi
end Go.Proofs.Ytkebokkckmgloaa
