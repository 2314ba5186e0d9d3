import Derived.Test.YtkebokkckmgloaaJ02
import Derived.Test.YtkebokkckmgloaaJ01
/- The specification's MateLive, case by case. -/
namespace Go.Proofs.Ytkebokkckmgloaa
open Go.RowKit
set_option linter.unusedVariables false

set_option maxHeartbeats 2000000 in
theorem specLive_U1f (c h c2 h2 : ByteArray) (v p s d g a b i u v2 p2 s2 d2 g2 clock : Int) (w : World) (ha : aliveB a = true) (h6 : (a != 6) = true) :
    Calls Try.prog 27 #[.agg #[.string c, .int .i64 v, .string h, .int .i64 p, .int .i64 s, .int .i64 d, .int .i64 g, .int .i64 a, .int .i64 b, .int .i64 i, .int .i64 u], .agg #[.string c2, .int .i64 v2, .string h2, .int .i64 p2, .int .i64 s2, .int .i64 d2, .int .i64 g2], .bool false, .int .i64 clock] w fun e w' => e = .returned (.tuple #[.agg #[.string c, .int .i64 v, .string h, .int .i64 p, .int .i64 s, .int .i64 d, .int .i64 g, .int .i64 6, .int .i64 g, .int .i64 i, .int .i64 u], .bool true]) ∧ Below w.heap.size w w' := by
  go_enter Try.func27, Try.ntmps27
  go_wp2_with (first | (go_at_call 22; refine (specAlive_x c h v p s d g a b i u _).mono ?_; rintro e w' ⟨rfl, rfl⟩))
  exact bodyPost_ret (v := .tuple #[.agg #[.string c, .int .i64 v, .string h, .int .i64 p, .int .i64 s, .int .i64 d, .int .i64 g, .int .i64 6, .int .i64 g, .int .i64 i, .int .i64 u], .bool true]) (by simp [results, Try.results27, go_sem]) rfl ⟨rfl, by repeat (first | exact Below.refl _ _ | refine bl_alloc ?_ _ | refine bl_drew ?_)⟩

set_option maxHeartbeats 2000000 in
theorem specLive_U1t (c h c2 h2 : ByteArray) (v p s d g a b i u v2 p2 s2 d2 g2 clock : Int) (w : World) (ha : aliveB a = true) (h6 : (a != 6) = true) (hne : ∀ w, Sem.run Try.prog (binOp .neq 36 (.agg #[.string c2, .int .i64 v2, .string h2, .int .i64 p2, .int .i64 s2, .int .i64 d2, .int .i64 g2]) (.agg #[.string c, .int .i64 v, .string h, .int .i64 p, .int .i64 s, .int .i64 d, .int .i64 g])) w = .ok (.bool true) w) :
    Calls Try.prog 27 #[.agg #[.string c, .int .i64 v, .string h, .int .i64 p, .int .i64 s, .int .i64 d, .int .i64 g, .int .i64 a, .int .i64 b, .int .i64 i, .int .i64 u], .agg #[.string c2, .int .i64 v2, .string h2, .int .i64 p2, .int .i64 s2, .int .i64 d2, .int .i64 g2], .bool true, .int .i64 clock] w fun e w' => e = .returned (.tuple #[.agg #[.string c, .int .i64 v, .string h, .int .i64 p, .int .i64 s, .int .i64 d, .int .i64 g, .int .i64 6, .int .i64 g, .int .i64 i, .int .i64 u], .bool true]) ∧ Below w.heap.size w w' := by
  go_enter Try.func27, Try.ntmps27
  go_wp2_with (first | (go_at_call 22; refine (specAlive_x c h v p s d g a b i u _).mono ?_; rintro e w' ⟨rfl, rfl⟩))
  exact bodyPost_ret (v := .tuple #[.agg #[.string c, .int .i64 v, .string h, .int .i64 p, .int .i64 s, .int .i64 d, .int .i64 g, .int .i64 6, .int .i64 g, .int .i64 i, .int .i64 u], .bool true]) (by simp [results, Try.results27, go_sem]) rfl ⟨rfl, by repeat (first | exact Below.refl _ _ | refine bl_alloc ?_ _ | refine bl_drew ?_)⟩

set_option maxHeartbeats 2000000 in
theorem specLive_S6af (c h c2 h2 : ByteArray) (v p s d g b i u v2 p2 s2 d2 g2 clock : Int) (w : World) (hb : 1 < b) (hbb : b ≤ 9223372036854775807) :
    Calls Try.prog 27 #[.agg #[.string c, .int .i64 v, .string h, .int .i64 p, .int .i64 s, .int .i64 d, .int .i64 g, .int .i64 6, .int .i64 b, .int .i64 i, .int .i64 u], .agg #[.string c2, .int .i64 v2, .string h2, .int .i64 p2, .int .i64 s2, .int .i64 d2, .int .i64 g2], .bool false, .int .i64 clock] w fun e w' => e = .returned (.tuple #[.agg #[.string c, .int .i64 v, .string h, .int .i64 p, .int .i64 s, .int .i64 d, .int .i64 g, .int .i64 6, .int .i64 (b - 1), .int .i64 i, .int .i64 u], .bool true]) ∧ Below w.heap.size w w' := by
  go_enter Try.func27, Try.ntmps27
  go_wp2_with (first | (go_at_call 22; refine (specAlive_x c h v p s d g 6 b i u _).mono ?_; rintro e w' ⟨rfl, rfl⟩))
  exact bodyPost_ret (v := .tuple #[.agg #[.string c, .int .i64 v, .string h, .int .i64 p, .int .i64 s, .int .i64 d, .int .i64 g, .int .i64 6, .int .i64 (b - 1), .int .i64 i, .int .i64 u], .bool true]) (by simp [results, Try.results27, go_sem]) rfl ⟨rfl, by repeat (first | exact Below.refl _ _ | refine bl_alloc ?_ _ | refine bl_drew ?_)⟩

set_option maxHeartbeats 2000000 in
theorem specLive_S6an (c h c2 h2 : ByteArray) (v p s d g b i u v2 p2 s2 d2 g2 clock : Int) (w : World) (hb : 1 < b) (hbb : b ≤ 9223372036854775807) (hne : ∀ w, Sem.run Try.prog (binOp .neq 36 (.agg #[.string c2, .int .i64 v2, .string h2, .int .i64 p2, .int .i64 s2, .int .i64 d2, .int .i64 g2]) (.agg #[.string c, .int .i64 v, .string h, .int .i64 p, .int .i64 s, .int .i64 d, .int .i64 g])) w = .ok (.bool true) w) :
    Calls Try.prog 27 #[.agg #[.string c, .int .i64 v, .string h, .int .i64 p, .int .i64 s, .int .i64 d, .int .i64 g, .int .i64 6, .int .i64 b, .int .i64 i, .int .i64 u], .agg #[.string c2, .int .i64 v2, .string h2, .int .i64 p2, .int .i64 s2, .int .i64 d2, .int .i64 g2], .bool true, .int .i64 clock] w fun e w' => e = .returned (.tuple #[.agg #[.string c, .int .i64 v, .string h, .int .i64 p, .int .i64 s, .int .i64 d, .int .i64 g, .int .i64 6, .int .i64 (b - 1), .int .i64 i, .int .i64 u], .bool true]) ∧ Below w.heap.size w w' := by
  go_enter Try.func27, Try.ntmps27
  go_wp2_with (first | (go_at_call 22; refine (specAlive_x c h v p s d g 6 b i u _).mono ?_; rintro e w' ⟨rfl, rfl⟩))
  exact bodyPost_ret (v := .tuple #[.agg #[.string c, .int .i64 v, .string h, .int .i64 p, .int .i64 s, .int .i64 d, .int .i64 g, .int .i64 6, .int .i64 (b - 1), .int .i64 i, .int .i64 u], .bool true]) (by simp [results, Try.results27, go_sem]) rfl ⟨rfl, by repeat (first | exact Below.refl _ _ | refine bl_alloc ?_ _ | refine bl_drew ?_)⟩

set_option maxHeartbeats 2000000 in
theorem specLive_S6at (c h c2 h2 : ByteArray) (v p s d g b i u v2 p2 s2 d2 g2 clock : Int) (w : World) (hb : 1 < b) (hbb : b ≤ 9223372036854775807) (hne : ∀ w, Sem.run Try.prog (binOp .neq 36 (.agg #[.string c2, .int .i64 v2, .string h2, .int .i64 p2, .int .i64 s2, .int .i64 d2, .int .i64 g2]) (.agg #[.string c, .int .i64 v, .string h, .int .i64 p, .int .i64 s, .int .i64 d, .int .i64 g])) w = .ok (.bool false) w) :
    Calls Try.prog 27 #[.agg #[.string c, .int .i64 v, .string h, .int .i64 p, .int .i64 s, .int .i64 d, .int .i64 g, .int .i64 6, .int .i64 b, .int .i64 i, .int .i64 u], .agg #[.string c2, .int .i64 v2, .string h2, .int .i64 p2, .int .i64 s2, .int .i64 d2, .int .i64 g2], .bool true, .int .i64 clock] w fun e w' => e = .returned (.tuple #[.agg #[.string c, .int .i64 v, .string h, .int .i64 p, .int .i64 s, .int .i64 d, .int .i64 g, .int .i64 6, .int .i64 (b - 1), .int .i64 i, .int .i64 u], .bool true]) ∧ Below w.heap.size w w' := by
  go_enter Try.func27, Try.ntmps27
  go_wp2_with (first | (go_at_call 22; refine (specAlive_x c h v p s d g 6 b i u _).mono ?_; rintro e w' ⟨rfl, rfl⟩))
  exact bodyPost_ret (v := .tuple #[.agg #[.string c, .int .i64 v, .string h, .int .i64 p, .int .i64 s, .int .i64 d, .int .i64 g, .int .i64 6, .int .i64 (b - 1), .int .i64 i, .int .i64 u], .bool true]) (by simp [results, Try.results27, go_sem]) rfl ⟨rfl, by repeat (first | exact Below.refl _ _ | refine bl_alloc ?_ _ | refine bl_drew ?_)⟩

set_option maxHeartbeats 2000000 in
theorem specLive_T1a (c h c2 h2 : ByteArray) (v p s d g b i u v2 p2 s2 d2 g2 clock : Int) (w : World) (hb : 1 < b) (hbb : b ≤ 9223372036854775807) (hne : ∀ w, Sem.run Try.prog (binOp .neq 36 (.agg #[.string c2, .int .i64 v2, .string h2, .int .i64 p2, .int .i64 s2, .int .i64 d2, .int .i64 g2]) (.agg #[.string c, .int .i64 v, .string h, .int .i64 p, .int .i64 s, .int .i64 d, .int .i64 g])) w = .ok (.bool false) w) :
    Calls Try.prog 27 #[.agg #[.string c, .int .i64 v, .string h, .int .i64 p, .int .i64 s, .int .i64 d, .int .i64 g, .int .i64 1, .int .i64 b, .int .i64 i, .int .i64 u], .agg #[.string c2, .int .i64 v2, .string h2, .int .i64 p2, .int .i64 s2, .int .i64 d2, .int .i64 g2], .bool true, .int .i64 clock] w fun e w' => e = .returned (.tuple #[.agg #[.string c, .int .i64 v, .string h, .int .i64 p, .int .i64 s, .int .i64 d, .int .i64 g, .int .i64 1, .int .i64 (b - 1), .int .i64 i, .int .i64 u], .bool true]) ∧ Below w.heap.size w w' := by
  go_enter Try.func27, Try.ntmps27
  go_wp2_with (first | (go_at_call 22; refine (specAlive_x c h v p s d g 1 b i u _).mono ?_; rintro e w' ⟨rfl, rfl⟩))
  exact bodyPost_ret (v := .tuple #[.agg #[.string c, .int .i64 v, .string h, .int .i64 p, .int .i64 s, .int .i64 d, .int .i64 g, .int .i64 1, .int .i64 (b - 1), .int .i64 i, .int .i64 u], .bool true]) (by simp [results, Try.results27, go_sem]) rfl ⟨rfl, by repeat (first | exact Below.refl _ _ | refine bl_alloc ?_ _ | refine bl_drew ?_)⟩

set_option maxHeartbeats 2000000 in
theorem specLive_T1n (c h c2 h2 : ByteArray) (v p s d g b i u v2 p2 s2 d2 g2 clock : Int) (w : World) (hb : b ≤ 1) (hl : leasedB h u clock = false) (hne : ∀ w, Sem.run Try.prog (binOp .neq 36 (.agg #[.string c2, .int .i64 v2, .string h2, .int .i64 p2, .int .i64 s2, .int .i64 d2, .int .i64 g2]) (.agg #[.string c, .int .i64 v, .string h, .int .i64 p, .int .i64 s, .int .i64 d, .int .i64 g])) w = .ok (.bool false) w) :
    Calls Try.prog 27 #[.agg #[.string c, .int .i64 v, .string h, .int .i64 p, .int .i64 s, .int .i64 d, .int .i64 g, .int .i64 1, .int .i64 b, .int .i64 i, .int .i64 u], .agg #[.string c2, .int .i64 v2, .string h2, .int .i64 p2, .int .i64 s2, .int .i64 d2, .int .i64 g2], .bool true, .int .i64 clock] w fun e w' => e = .returned (.tuple #[.agg #[.string c, .int .i64 v, .string h, .int .i64 p, .int .i64 s, .int .i64 d, .int .i64 g, .int .i64 2, .int .i64 0, .int .i64 i, .int .i64 u], .bool true]) ∧ Below w.heap.size w w' := by
  go_enter Try.func27, Try.ntmps27
  go_wp2_with (first | (go_at_call 22; refine (specAlive_x c h v p s d g 1 b i u _).mono ?_; rintro e w' ⟨rfl, rfl⟩) | (go_at_call 84; refine (l3Begin_no c h v p s d g 1 b i u clock _ hl).mono ?_; rintro e w' ⟨rfl, rfl⟩))
  exact bodyPost_ret (v := .tuple #[.agg #[.string c, .int .i64 v, .string h, .int .i64 p, .int .i64 s, .int .i64 d, .int .i64 g, .int .i64 2, .int .i64 0, .int .i64 i, .int .i64 u], .bool true]) (by simp [results, Try.results27, go_sem]) rfl ⟨rfl, by repeat (first | exact Below.refl _ _ | refine bl_alloc ?_ _ | refine bl_drew ?_)⟩

set_option maxHeartbeats 2000000 in
theorem specLive_T5y (c h c2 h2 : ByteArray) (v p s d g b i u v2 p2 s2 d2 g2 clock : Int) (w : World) (hb : b ≤ 1) (hl : leasedB h u clock = true) (hne : ∀ w, Sem.run Try.prog (binOp .neq 36 (.agg #[.string c2, .int .i64 v2, .string h2, .int .i64 p2, .int .i64 s2, .int .i64 d2, .int .i64 g2]) (.agg #[.string c, .int .i64 v, .string h, .int .i64 p, .int .i64 s, .int .i64 d, .int .i64 g])) w = .ok (.bool false) w) :
    Calls Try.prog 27 #[.agg #[.string c, .int .i64 v, .string h, .int .i64 p, .int .i64 s, .int .i64 d, .int .i64 g, .int .i64 5, .int .i64 b, .int .i64 i, .int .i64 u], .agg #[.string c2, .int .i64 v2, .string h2, .int .i64 p2, .int .i64 s2, .int .i64 d2, .int .i64 g2], .bool true, .int .i64 clock] w fun e w' => e = .returned (.tuple #[.agg #[.string c, .int .i64 v, .string h, .int .i64 p, .int .i64 s, .int .i64 d, .int .i64 g, .int .i64 3, .int .i64 s, .int .i64 i, .int .i64 u], .bool true]) ∧ Below w.heap.size w w' := by
  go_enter Try.func27, Try.ntmps27
  go_wp2_with (first | (go_at_call 22; refine (specAlive_x c h v p s d g 5 b i u _).mono ?_; rintro e w' ⟨rfl, rfl⟩) | (go_at_call 84; refine (l3Begin_yes c h v p s d g 5 b i u clock _ hl).mono ?_; rintro e w' ⟨rfl, rfl⟩))
  exact bodyPost_ret (v := .tuple #[.agg #[.string c, .int .i64 v, .string h, .int .i64 p, .int .i64 s, .int .i64 d, .int .i64 g, .int .i64 3, .int .i64 s, .int .i64 i, .int .i64 u], .bool true]) (by simp [results, Try.results27, go_sem]) rfl ⟨rfl, by repeat (first | exact Below.refl _ _ | refine bl_alloc ?_ _ | refine bl_drew ?_)⟩

set_option maxHeartbeats 2000000 in
theorem specLive_T2y (c h c2 h2 : ByteArray) (v p s d g b i u v2 p2 s2 d2 g2 clock : Int) (w : World) (hl : leasedB h u clock = true) (hne : ∀ w, Sem.run Try.prog (binOp .neq 36 (.agg #[.string c2, .int .i64 v2, .string h2, .int .i64 p2, .int .i64 s2, .int .i64 d2, .int .i64 g2]) (.agg #[.string c, .int .i64 v, .string h, .int .i64 p, .int .i64 s, .int .i64 d, .int .i64 g])) w = .ok (.bool false) w) :
    Calls Try.prog 27 #[.agg #[.string c, .int .i64 v, .string h, .int .i64 p, .int .i64 s, .int .i64 d, .int .i64 g, .int .i64 2, .int .i64 b, .int .i64 i, .int .i64 u], .agg #[.string c2, .int .i64 v2, .string h2, .int .i64 p2, .int .i64 s2, .int .i64 d2, .int .i64 g2], .bool true, .int .i64 clock] w fun e w' => e = .returned (.tuple #[.agg #[.string c, .int .i64 v, .string h, .int .i64 p, .int .i64 s, .int .i64 d, .int .i64 g, .int .i64 3, .int .i64 s, .int .i64 i, .int .i64 u], .bool true]) ∧ Below w.heap.size w w' := by
  go_enter Try.func27, Try.ntmps27
  go_wp2_with (first | (go_at_call 22; refine (specAlive_x c h v p s d g 2 b i u _).mono ?_; rintro e w' ⟨rfl, rfl⟩) | (go_at_call 84; refine (l3Begin_yes c h v p s d g 2 b i u clock _ hl).mono ?_; rintro e w' ⟨rfl, rfl⟩))
  exact bodyPost_ret (v := .tuple #[.agg #[.string c, .int .i64 v, .string h, .int .i64 p, .int .i64 s, .int .i64 d, .int .i64 g, .int .i64 3, .int .i64 s, .int .i64 i, .int .i64 u], .bool true]) (by simp [results, Try.results27, go_sem]) rfl ⟨rfl, by repeat (first | exact Below.refl _ _ | refine bl_alloc ?_ _ | refine bl_drew ?_)⟩

set_option maxHeartbeats 2000000 in
theorem specLive_T3a (c h c2 h2 : ByteArray) (v p s d g b i u v2 p2 s2 d2 g2 clock : Int) (w : World) (hb : 1 < b) (hbb : b ≤ 9223372036854775807) (hne : ∀ w, Sem.run Try.prog (binOp .neq 36 (.agg #[.string c2, .int .i64 v2, .string h2, .int .i64 p2, .int .i64 s2, .int .i64 d2, .int .i64 g2]) (.agg #[.string c, .int .i64 v, .string h, .int .i64 p, .int .i64 s, .int .i64 d, .int .i64 g])) w = .ok (.bool false) w) :
    Calls Try.prog 27 #[.agg #[.string c, .int .i64 v, .string h, .int .i64 p, .int .i64 s, .int .i64 d, .int .i64 g, .int .i64 3, .int .i64 b, .int .i64 i, .int .i64 u], .agg #[.string c2, .int .i64 v2, .string h2, .int .i64 p2, .int .i64 s2, .int .i64 d2, .int .i64 g2], .bool true, .int .i64 clock] w fun e w' => e = .returned (.tuple #[.agg #[.string c, .int .i64 v, .string h, .int .i64 p, .int .i64 s, .int .i64 d, .int .i64 g, .int .i64 3, .int .i64 (b - 1), .int .i64 i, .int .i64 u], .bool true]) ∧ Below w.heap.size w w' := by
  go_enter Try.func27, Try.ntmps27
  go_wp2_with (first | (go_at_call 22; refine (specAlive_x c h v p s d g 3 b i u _).mono ?_; rintro e w' ⟨rfl, rfl⟩))
  exact bodyPost_ret (v := .tuple #[.agg #[.string c, .int .i64 v, .string h, .int .i64 p, .int .i64 s, .int .i64 d, .int .i64 g, .int .i64 3, .int .i64 (b - 1), .int .i64 i, .int .i64 u], .bool true]) (by simp [results, Try.results27, go_sem]) rfl ⟨rfl, by repeat (first | exact Below.refl _ _ | refine bl_alloc ?_ _ | refine bl_drew ?_)⟩

set_option maxHeartbeats 2000000 in
theorem specLive_T4a (c h c2 h2 : ByteArray) (v p s d g b i u v2 p2 s2 d2 g2 clock : Int) (w : World) (hb : 1 < b) (hbb : b ≤ 9223372036854775807) (hne : ∀ w, Sem.run Try.prog (binOp .neq 36 (.agg #[.string c2, .int .i64 v2, .string h2, .int .i64 p2, .int .i64 s2, .int .i64 d2, .int .i64 g2]) (.agg #[.string c, .int .i64 v, .string h, .int .i64 p, .int .i64 s, .int .i64 d, .int .i64 g])) w = .ok (.bool false) w) :
    Calls Try.prog 27 #[.agg #[.string c, .int .i64 v, .string h, .int .i64 p, .int .i64 s, .int .i64 d, .int .i64 g, .int .i64 4, .int .i64 b, .int .i64 i, .int .i64 u], .agg #[.string c2, .int .i64 v2, .string h2, .int .i64 p2, .int .i64 s2, .int .i64 d2, .int .i64 g2], .bool true, .int .i64 clock] w fun e w' => e = .returned (.tuple #[.agg #[.string c, .int .i64 v, .string h, .int .i64 p, .int .i64 s, .int .i64 d, .int .i64 g, .int .i64 4, .int .i64 (b - 1), .int .i64 i, .int .i64 u], .bool true]) ∧ Below w.heap.size w w' := by
  go_enter Try.func27, Try.ntmps27
  go_wp2_with (first | (go_at_call 22; refine (specAlive_x c h v p s d g 4 b i u _).mono ?_; rintro e w' ⟨rfl, rfl⟩))
  exact bodyPost_ret (v := .tuple #[.agg #[.string c, .int .i64 v, .string h, .int .i64 p, .int .i64 s, .int .i64 d, .int .i64 g, .int .i64 4, .int .i64 (b - 1), .int .i64 i, .int .i64 u], .bool true]) (by simp [results, Try.results27, go_sem]) rfl ⟨rfl, by repeat (first | exact Below.refl _ _ | refine bl_alloc ?_ _ | refine bl_drew ?_)⟩

set_option maxHeartbeats 2000000 in
theorem specLive_T4d (c h c2 h2 : ByteArray) (v p s d g i u v2 p2 s2 d2 g2 clock : Int) (w : World) (hi : i < 1000) (hii : -9223372036854775808 ≤ i) (hne : ∀ w, Sem.run Try.prog (binOp .neq 36 (.agg #[.string c2, .int .i64 v2, .string h2, .int .i64 p2, .int .i64 s2, .int .i64 d2, .int .i64 g2]) (.agg #[.string c, .int .i64 v, .string h, .int .i64 p, .int .i64 s, .int .i64 d, .int .i64 g])) w = .ok (.bool false) w) :
    Calls Try.prog 27 #[.agg #[.string c, .int .i64 v, .string h, .int .i64 p, .int .i64 s, .int .i64 d, .int .i64 g, .int .i64 4, .int .i64 1, .int .i64 i, .int .i64 u], .agg #[.string c2, .int .i64 v2, .string h2, .int .i64 p2, .int .i64 s2, .int .i64 d2, .int .i64 g2], .bool true, .int .i64 clock] w fun e w' => e = .returned (.tuple #[.agg #[.string c, .int .i64 v, .string h, .int .i64 p, .int .i64 s, .int .i64 d, .int .i64 g, .int .i64 5, .int .i64 (boff (i + 1)), .int .i64 (i + 1), .int .i64 u], .bool true]) ∧ Below w.heap.size w w' := by
  go_enter Try.func27, Try.ntmps27
  go_wp2_with (first | (go_at_call 22; refine (specAlive_x c h v p s d g 4 1 i u _).mono ?_; rintro e w' ⟨rfl, rfl⟩) | (go_at_call 83; refine (l3Dies_lt c h v p s d g 4 1 i u _ hi hii).mono ?_; rintro e w' ⟨rfl, rfl⟩))
  exact bodyPost_ret (v := .tuple #[.agg #[.string c, .int .i64 v, .string h, .int .i64 p, .int .i64 s, .int .i64 d, .int .i64 g, .int .i64 5, .int .i64 (boff (i + 1)), .int .i64 (i + 1), .int .i64 u], .bool true]) (by simp [results, Try.results27, go_sem]) rfl ⟨rfl, by repeat (first | exact Below.refl _ _ | refine bl_alloc ?_ _ | refine bl_drew ?_)⟩

set_option maxHeartbeats 2000000 in
theorem specLive_Oa (c h c2 h2 : ByteArray) (v p s d g a b i u v2 p2 s2 d2 g2 clock : Int) (w : World) (k1 : (a == 1) = false) (k2 : (a != 2) = true) (k2' : (a == 2) = false) (k3 : (a == 3) = false) (k4 : (a == 4) = false) (k5 : (a == 5) = false) (k6 : (a == 6) = false) (k6' : (a != 6) = true) (hb : 1 < b) (hbb : b ≤ 9223372036854775807) (hne : ∀ w, Sem.run Try.prog (binOp .neq 36 (.agg #[.string c2, .int .i64 v2, .string h2, .int .i64 p2, .int .i64 s2, .int .i64 d2, .int .i64 g2]) (.agg #[.string c, .int .i64 v, .string h, .int .i64 p, .int .i64 s, .int .i64 d, .int .i64 g])) w = .ok (.bool false) w) :
    Calls Try.prog 27 #[.agg #[.string c, .int .i64 v, .string h, .int .i64 p, .int .i64 s, .int .i64 d, .int .i64 g, .int .i64 a, .int .i64 b, .int .i64 i, .int .i64 u], .agg #[.string c2, .int .i64 v2, .string h2, .int .i64 p2, .int .i64 s2, .int .i64 d2, .int .i64 g2], .bool true, .int .i64 clock] w fun e w' => e = .returned (.tuple #[.agg #[.string c, .int .i64 v, .string h, .int .i64 p, .int .i64 s, .int .i64 d, .int .i64 g, .int .i64 a, .int .i64 (b - 1), .int .i64 i, .int .i64 u], .bool true]) ∧ Below w.heap.size w w' := by
  go_enter Try.func27, Try.ntmps27
  go_wp2_with (first | (go_at_call 22; refine (specAlive_x c h v p s d g a b i u _).mono ?_; rintro e w' ⟨rfl, rfl⟩))
  exact bodyPost_ret (v := .tuple #[.agg #[.string c, .int .i64 v, .string h, .int .i64 p, .int .i64 s, .int .i64 d, .int .i64 g, .int .i64 a, .int .i64 (b - 1), .int .i64 i, .int .i64 u], .bool true]) (by simp [results, Try.results27, go_sem]) rfl ⟨rfl, by repeat (first | exact Below.refl _ _ | refine bl_alloc ?_ _ | refine bl_drew ?_)⟩
end Go.Proofs.Ytkebokkckmgloaa
/- The specification's MateLive, case by case. -/
namespace Go.Proofs.Ytkebokkckmgloaa
open Go.RowKit
set_option linter.unusedVariables false

set_option maxHeartbeats 2000000 in
theorem specLive_U0f (c h c2 h2 : ByteArray) (v p s d g a b i u v2 p2 s2 d2 g2 clock : Int) (w : World) (ha : aliveB a = false) (h6 : (a != 6) = true) :
    Calls Try.prog 27 #[.agg #[.string c, .int .i64 v, .string h, .int .i64 p, .int .i64 s, .int .i64 d, .int .i64 g, .int .i64 a, .int .i64 b, .int .i64 i, .int .i64 u], .agg #[.string c2, .int .i64 v2, .string h2, .int .i64 p2, .int .i64 s2, .int .i64 d2, .int .i64 g2], .bool false, .int .i64 clock] w fun e w' => e = .returned (.tuple #[.agg #[.string ⟨#[]⟩, .int .i64 0, .string ⟨#[]⟩, .int .i64 0, .int .i64 0, .int .i64 0, .int .i64 0, .int .i64 0, .int .i64 0, .int .i64 0, .int .i64 0], .bool false]) ∧ Below w.heap.size w w' := by
  go_enter Try.func27, Try.ntmps27
  go_wp2_with (first | (go_at_call 22; refine (specAlive_x c h v p s d g a b i u _).mono ?_; rintro e w' ⟨rfl, rfl⟩))
  exact bodyPost_ret (v := .tuple #[.agg #[.string ⟨#[]⟩, .int .i64 0, .string ⟨#[]⟩, .int .i64 0, .int .i64 0, .int .i64 0, .int .i64 0, .int .i64 0, .int .i64 0, .int .i64 0, .int .i64 0], .bool false]) (by simp [results, Try.results27, go_sem]) rfl ⟨rfl, by repeat (first | exact Below.refl _ _ | refine bl_alloc ?_ _ | refine bl_drew ?_)⟩

set_option maxHeartbeats 2000000 in
theorem specLive_U0t (c h c2 h2 : ByteArray) (v p s d g a b i u v2 p2 s2 d2 g2 clock : Int) (w : World) (ha : aliveB a = false) (h6 : (a != 6) = true) (hne : ∀ w, Sem.run Try.prog (binOp .neq 36 (.agg #[.string c2, .int .i64 v2, .string h2, .int .i64 p2, .int .i64 s2, .int .i64 d2, .int .i64 g2]) (.agg #[.string c, .int .i64 v, .string h, .int .i64 p, .int .i64 s, .int .i64 d, .int .i64 g])) w = .ok (.bool true) w) :
    Calls Try.prog 27 #[.agg #[.string c, .int .i64 v, .string h, .int .i64 p, .int .i64 s, .int .i64 d, .int .i64 g, .int .i64 a, .int .i64 b, .int .i64 i, .int .i64 u], .agg #[.string c2, .int .i64 v2, .string h2, .int .i64 p2, .int .i64 s2, .int .i64 d2, .int .i64 g2], .bool true, .int .i64 clock] w fun e w' => e = .returned (.tuple #[.agg #[.string ⟨#[]⟩, .int .i64 0, .string ⟨#[]⟩, .int .i64 0, .int .i64 0, .int .i64 0, .int .i64 0, .int .i64 0, .int .i64 0, .int .i64 0, .int .i64 0], .bool false]) ∧ Below w.heap.size w w' := by
  go_enter Try.func27, Try.ntmps27
  go_wp2_with (first | (go_at_call 22; refine (specAlive_x c h v p s d g a b i u _).mono ?_; rintro e w' ⟨rfl, rfl⟩))
  exact bodyPost_ret (v := .tuple #[.agg #[.string ⟨#[]⟩, .int .i64 0, .string ⟨#[]⟩, .int .i64 0, .int .i64 0, .int .i64 0, .int .i64 0, .int .i64 0, .int .i64 0, .int .i64 0, .int .i64 0], .bool false]) (by simp [results, Try.results27, go_sem]) rfl ⟨rfl, by repeat (first | exact Below.refl _ _ | refine bl_alloc ?_ _ | refine bl_drew ?_)⟩

set_option maxHeartbeats 2000000 in
theorem specLive_S6bf (c h c2 h2 : ByteArray) (v p s d g b i u v2 p2 s2 d2 g2 clock : Int) (w : World) (hb : b ≤ 1) :
    Calls Try.prog 27 #[.agg #[.string c, .int .i64 v, .string h, .int .i64 p, .int .i64 s, .int .i64 d, .int .i64 g, .int .i64 6, .int .i64 b, .int .i64 i, .int .i64 u], .agg #[.string c2, .int .i64 v2, .string h2, .int .i64 p2, .int .i64 s2, .int .i64 d2, .int .i64 g2], .bool false, .int .i64 clock] w fun e w' => e = .returned (.tuple #[.agg #[.string ⟨#[]⟩, .int .i64 0, .string ⟨#[]⟩, .int .i64 0, .int .i64 0, .int .i64 0, .int .i64 0, .int .i64 0, .int .i64 0, .int .i64 0, .int .i64 0], .bool false]) ∧ Below w.heap.size w w' := by
  go_enter Try.func27, Try.ntmps27
  go_wp2_with (first | (go_at_call 22; refine (specAlive_x c h v p s d g 6 b i u _).mono ?_; rintro e w' ⟨rfl, rfl⟩))
  exact bodyPost_ret (v := .tuple #[.agg #[.string ⟨#[]⟩, .int .i64 0, .string ⟨#[]⟩, .int .i64 0, .int .i64 0, .int .i64 0, .int .i64 0, .int .i64 0, .int .i64 0, .int .i64 0, .int .i64 0], .bool false]) (by simp [results, Try.results27, go_sem]) rfl ⟨rfl, by repeat (first | exact Below.refl _ _ | refine bl_alloc ?_ _ | refine bl_drew ?_)⟩

set_option maxHeartbeats 2000000 in
theorem specLive_S6bn (c h c2 h2 : ByteArray) (v p s d g b i u v2 p2 s2 d2 g2 clock : Int) (w : World) (hb : b ≤ 1) (hne : ∀ w, Sem.run Try.prog (binOp .neq 36 (.agg #[.string c2, .int .i64 v2, .string h2, .int .i64 p2, .int .i64 s2, .int .i64 d2, .int .i64 g2]) (.agg #[.string c, .int .i64 v, .string h, .int .i64 p, .int .i64 s, .int .i64 d, .int .i64 g])) w = .ok (.bool true) w) :
    Calls Try.prog 27 #[.agg #[.string c, .int .i64 v, .string h, .int .i64 p, .int .i64 s, .int .i64 d, .int .i64 g, .int .i64 6, .int .i64 b, .int .i64 i, .int .i64 u], .agg #[.string c2, .int .i64 v2, .string h2, .int .i64 p2, .int .i64 s2, .int .i64 d2, .int .i64 g2], .bool true, .int .i64 clock] w fun e w' => e = .returned (.tuple #[.agg #[.string ⟨#[]⟩, .int .i64 0, .string ⟨#[]⟩, .int .i64 0, .int .i64 0, .int .i64 0, .int .i64 0, .int .i64 0, .int .i64 0, .int .i64 0, .int .i64 0], .bool false]) ∧ Below w.heap.size w w' := by
  go_enter Try.func27, Try.ntmps27
  go_wp2_with (first | (go_at_call 22; refine (specAlive_x c h v p s d g 6 b i u _).mono ?_; rintro e w' ⟨rfl, rfl⟩))
  exact bodyPost_ret (v := .tuple #[.agg #[.string ⟨#[]⟩, .int .i64 0, .string ⟨#[]⟩, .int .i64 0, .int .i64 0, .int .i64 0, .int .i64 0, .int .i64 0, .int .i64 0, .int .i64 0, .int .i64 0], .bool false]) (by simp [results, Try.results27, go_sem]) rfl ⟨rfl, by repeat (first | exact Below.refl _ _ | refine bl_alloc ?_ _ | refine bl_drew ?_)⟩

set_option maxHeartbeats 2000000 in
theorem specLive_S6bt (c h c2 h2 : ByteArray) (v p s d g b i u v2 p2 s2 d2 g2 clock : Int) (w : World) (hb : b ≤ 1) (hne : ∀ w, Sem.run Try.prog (binOp .neq 36 (.agg #[.string c2, .int .i64 v2, .string h2, .int .i64 p2, .int .i64 s2, .int .i64 d2, .int .i64 g2]) (.agg #[.string c, .int .i64 v, .string h, .int .i64 p, .int .i64 s, .int .i64 d, .int .i64 g])) w = .ok (.bool false) w) :
    Calls Try.prog 27 #[.agg #[.string c, .int .i64 v, .string h, .int .i64 p, .int .i64 s, .int .i64 d, .int .i64 g, .int .i64 6, .int .i64 b, .int .i64 i, .int .i64 u], .agg #[.string c2, .int .i64 v2, .string h2, .int .i64 p2, .int .i64 s2, .int .i64 d2, .int .i64 g2], .bool true, .int .i64 clock] w fun e w' => e = .returned (.tuple #[.agg #[.string ⟨#[]⟩, .int .i64 0, .string ⟨#[]⟩, .int .i64 0, .int .i64 0, .int .i64 0, .int .i64 0, .int .i64 0, .int .i64 0, .int .i64 0, .int .i64 0], .bool false]) ∧ Below w.heap.size w w' := by
  go_enter Try.func27, Try.ntmps27
  go_wp2_with (first | (go_at_call 22; refine (specAlive_x c h v p s d g 6 b i u _).mono ?_; rintro e w' ⟨rfl, rfl⟩))
  exact bodyPost_ret (v := .tuple #[.agg #[.string ⟨#[]⟩, .int .i64 0, .string ⟨#[]⟩, .int .i64 0, .int .i64 0, .int .i64 0, .int .i64 0, .int .i64 0, .int .i64 0, .int .i64 0, .int .i64 0], .bool false]) (by simp [results, Try.results27, go_sem]) rfl ⟨rfl, by repeat (first | exact Below.refl _ _ | refine bl_alloc ?_ _ | refine bl_drew ?_)⟩

set_option maxHeartbeats 2000000 in
theorem specLive_T1y (c h c2 h2 : ByteArray) (v p s d g b i u v2 p2 s2 d2 g2 clock : Int) (w : World) (hb : b ≤ 1) (hl : leasedB h u clock = true) (hne : ∀ w, Sem.run Try.prog (binOp .neq 36 (.agg #[.string c2, .int .i64 v2, .string h2, .int .i64 p2, .int .i64 s2, .int .i64 d2, .int .i64 g2]) (.agg #[.string c, .int .i64 v, .string h, .int .i64 p, .int .i64 s, .int .i64 d, .int .i64 g])) w = .ok (.bool false) w) :
    Calls Try.prog 27 #[.agg #[.string c, .int .i64 v, .string h, .int .i64 p, .int .i64 s, .int .i64 d, .int .i64 g, .int .i64 1, .int .i64 b, .int .i64 i, .int .i64 u], .agg #[.string c2, .int .i64 v2, .string h2, .int .i64 p2, .int .i64 s2, .int .i64 d2, .int .i64 g2], .bool true, .int .i64 clock] w fun e w' => e = .returned (.tuple #[.agg #[.string c, .int .i64 v, .string h, .int .i64 p, .int .i64 s, .int .i64 d, .int .i64 g, .int .i64 3, .int .i64 s, .int .i64 i, .int .i64 u], .bool true]) ∧ Below w.heap.size w w' := by
  go_enter Try.func27, Try.ntmps27
  go_wp2_with (first | (go_at_call 22; refine (specAlive_x c h v p s d g 1 b i u _).mono ?_; rintro e w' ⟨rfl, rfl⟩) | (go_at_call 84; refine (l3Begin_yes c h v p s d g 1 b i u clock _ hl).mono ?_; rintro e w' ⟨rfl, rfl⟩))
  exact bodyPost_ret (v := .tuple #[.agg #[.string c, .int .i64 v, .string h, .int .i64 p, .int .i64 s, .int .i64 d, .int .i64 g, .int .i64 3, .int .i64 s, .int .i64 i, .int .i64 u], .bool true]) (by simp [results, Try.results27, go_sem]) rfl ⟨rfl, by repeat (first | exact Below.refl _ _ | refine bl_alloc ?_ _ | refine bl_drew ?_)⟩

set_option maxHeartbeats 2000000 in
theorem specLive_T5a (c h c2 h2 : ByteArray) (v p s d g b i u v2 p2 s2 d2 g2 clock : Int) (w : World) (hb : 1 < b) (hbb : b ≤ 9223372036854775807) (hne : ∀ w, Sem.run Try.prog (binOp .neq 36 (.agg #[.string c2, .int .i64 v2, .string h2, .int .i64 p2, .int .i64 s2, .int .i64 d2, .int .i64 g2]) (.agg #[.string c, .int .i64 v, .string h, .int .i64 p, .int .i64 s, .int .i64 d, .int .i64 g])) w = .ok (.bool false) w) :
    Calls Try.prog 27 #[.agg #[.string c, .int .i64 v, .string h, .int .i64 p, .int .i64 s, .int .i64 d, .int .i64 g, .int .i64 5, .int .i64 b, .int .i64 i, .int .i64 u], .agg #[.string c2, .int .i64 v2, .string h2, .int .i64 p2, .int .i64 s2, .int .i64 d2, .int .i64 g2], .bool true, .int .i64 clock] w fun e w' => e = .returned (.tuple #[.agg #[.string c, .int .i64 v, .string h, .int .i64 p, .int .i64 s, .int .i64 d, .int .i64 g, .int .i64 5, .int .i64 (b - 1), .int .i64 i, .int .i64 u], .bool true]) ∧ Below w.heap.size w w' := by
  go_enter Try.func27, Try.ntmps27
  go_wp2_with (first | (go_at_call 22; refine (specAlive_x c h v p s d g 5 b i u _).mono ?_; rintro e w' ⟨rfl, rfl⟩))
  exact bodyPost_ret (v := .tuple #[.agg #[.string c, .int .i64 v, .string h, .int .i64 p, .int .i64 s, .int .i64 d, .int .i64 g, .int .i64 5, .int .i64 (b - 1), .int .i64 i, .int .i64 u], .bool true]) (by simp [results, Try.results27, go_sem]) rfl ⟨rfl, by repeat (first | exact Below.refl _ _ | refine bl_alloc ?_ _ | refine bl_drew ?_)⟩

set_option maxHeartbeats 2000000 in
theorem specLive_T5n (c h c2 h2 : ByteArray) (v p s d g b i u v2 p2 s2 d2 g2 clock : Int) (w : World) (hb : b ≤ 1) (hl : leasedB h u clock = false) (hne : ∀ w, Sem.run Try.prog (binOp .neq 36 (.agg #[.string c2, .int .i64 v2, .string h2, .int .i64 p2, .int .i64 s2, .int .i64 d2, .int .i64 g2]) (.agg #[.string c, .int .i64 v, .string h, .int .i64 p, .int .i64 s, .int .i64 d, .int .i64 g])) w = .ok (.bool false) w) :
    Calls Try.prog 27 #[.agg #[.string c, .int .i64 v, .string h, .int .i64 p, .int .i64 s, .int .i64 d, .int .i64 g, .int .i64 5, .int .i64 b, .int .i64 i, .int .i64 u], .agg #[.string c2, .int .i64 v2, .string h2, .int .i64 p2, .int .i64 s2, .int .i64 d2, .int .i64 g2], .bool true, .int .i64 clock] w fun e w' => e = .returned (.tuple #[.agg #[.string c, .int .i64 v, .string h, .int .i64 p, .int .i64 s, .int .i64 d, .int .i64 g, .int .i64 2, .int .i64 0, .int .i64 i, .int .i64 u], .bool true]) ∧ Below w.heap.size w w' := by
  go_enter Try.func27, Try.ntmps27
  go_wp2_with (first | (go_at_call 22; refine (specAlive_x c h v p s d g 5 b i u _).mono ?_; rintro e w' ⟨rfl, rfl⟩) | (go_at_call 84; refine (l3Begin_no c h v p s d g 5 b i u clock _ hl).mono ?_; rintro e w' ⟨rfl, rfl⟩))
  exact bodyPost_ret (v := .tuple #[.agg #[.string c, .int .i64 v, .string h, .int .i64 p, .int .i64 s, .int .i64 d, .int .i64 g, .int .i64 2, .int .i64 0, .int .i64 i, .int .i64 u], .bool true]) (by simp [results, Try.results27, go_sem]) rfl ⟨rfl, by repeat (first | exact Below.refl _ _ | refine bl_alloc ?_ _ | refine bl_drew ?_)⟩

set_option maxHeartbeats 2000000 in
theorem specLive_T2n (c h c2 h2 : ByteArray) (v p s d g b i u v2 p2 s2 d2 g2 clock : Int) (w : World) (hl : leasedB h u clock = false) (hne : ∀ w, Sem.run Try.prog (binOp .neq 36 (.agg #[.string c2, .int .i64 v2, .string h2, .int .i64 p2, .int .i64 s2, .int .i64 d2, .int .i64 g2]) (.agg #[.string c, .int .i64 v, .string h, .int .i64 p, .int .i64 s, .int .i64 d, .int .i64 g])) w = .ok (.bool false) w) :
    Calls Try.prog 27 #[.agg #[.string c, .int .i64 v, .string h, .int .i64 p, .int .i64 s, .int .i64 d, .int .i64 g, .int .i64 2, .int .i64 b, .int .i64 i, .int .i64 u], .agg #[.string c2, .int .i64 v2, .string h2, .int .i64 p2, .int .i64 s2, .int .i64 d2, .int .i64 g2], .bool true, .int .i64 clock] w fun e w' => e = .returned (.tuple #[.agg #[.string c, .int .i64 v, .string h, .int .i64 p, .int .i64 s, .int .i64 d, .int .i64 g, .int .i64 2, .int .i64 0, .int .i64 i, .int .i64 u], .bool true]) ∧ Below w.heap.size w w' := by
  go_enter Try.func27, Try.ntmps27
  go_wp2_with (first | (go_at_call 22; refine (specAlive_x c h v p s d g 2 b i u _).mono ?_; rintro e w' ⟨rfl, rfl⟩) | (go_at_call 84; refine (l3Begin_no c h v p s d g 2 b i u clock _ hl).mono ?_; rintro e w' ⟨rfl, rfl⟩))
  exact bodyPost_ret (v := .tuple #[.agg #[.string c, .int .i64 v, .string h, .int .i64 p, .int .i64 s, .int .i64 d, .int .i64 g, .int .i64 2, .int .i64 0, .int .i64 i, .int .i64 u], .bool true]) (by simp [results, Try.results27, go_sem]) rfl ⟨rfl, by repeat (first | exact Below.refl _ _ | refine bl_alloc ?_ _ | refine bl_drew ?_)⟩

set_option maxHeartbeats 2000000 in
theorem specLive_T3b (c h c2 h2 : ByteArray) (v p s d g b i u v2 p2 s2 d2 g2 clock : Int) (w : World) (hb : b ≤ 1) (hne : ∀ w, Sem.run Try.prog (binOp .neq 36 (.agg #[.string c2, .int .i64 v2, .string h2, .int .i64 p2, .int .i64 s2, .int .i64 d2, .int .i64 g2]) (.agg #[.string c, .int .i64 v, .string h, .int .i64 p, .int .i64 s, .int .i64 d, .int .i64 g])) w = .ok (.bool false) w) :
    Calls Try.prog 27 #[.agg #[.string c, .int .i64 v, .string h, .int .i64 p, .int .i64 s, .int .i64 d, .int .i64 g, .int .i64 3, .int .i64 b, .int .i64 i, .int .i64 u], .agg #[.string c2, .int .i64 v2, .string h2, .int .i64 p2, .int .i64 s2, .int .i64 d2, .int .i64 g2], .bool true, .int .i64 clock] w fun e w' => e = .returned (.tuple #[.agg #[.string c, .int .i64 v, .string h, .int .i64 p, .int .i64 s, .int .i64 d, .int .i64 g, .int .i64 4, .int .i64 d, .int .i64 i, .int .i64 u], .bool true]) ∧ Below w.heap.size w w' := by
  go_enter Try.func27, Try.ntmps27
  go_wp2_with (first | (go_at_call 22; refine (specAlive_x c h v p s d g 3 b i u _).mono ?_; rintro e w' ⟨rfl, rfl⟩))
  exact bodyPost_ret (v := .tuple #[.agg #[.string c, .int .i64 v, .string h, .int .i64 p, .int .i64 s, .int .i64 d, .int .i64 g, .int .i64 4, .int .i64 d, .int .i64 i, .int .i64 u], .bool true]) (by simp [results, Try.results27, go_sem]) rfl ⟨rfl, by repeat (first | exact Below.refl _ _ | refine bl_alloc ?_ _ | refine bl_drew ?_)⟩

set_option maxHeartbeats 2000000 in
theorem specLive_T4z (c h c2 h2 : ByteArray) (v p s d g b i u v2 p2 s2 d2 g2 clock : Int) (w : World) (hb : b ≤ 0) (hb1 : (b == 1) = false) (hne : ∀ w, Sem.run Try.prog (binOp .neq 36 (.agg #[.string c2, .int .i64 v2, .string h2, .int .i64 p2, .int .i64 s2, .int .i64 d2, .int .i64 g2]) (.agg #[.string c, .int .i64 v, .string h, .int .i64 p, .int .i64 s, .int .i64 d, .int .i64 g])) w = .ok (.bool false) w) :
    Calls Try.prog 27 #[.agg #[.string c, .int .i64 v, .string h, .int .i64 p, .int .i64 s, .int .i64 d, .int .i64 g, .int .i64 4, .int .i64 b, .int .i64 i, .int .i64 u], .agg #[.string c2, .int .i64 v2, .string h2, .int .i64 p2, .int .i64 s2, .int .i64 d2, .int .i64 g2], .bool true, .int .i64 clock] w fun e w' => e = .returned (.tuple #[.agg #[.string c, .int .i64 v, .string h, .int .i64 p, .int .i64 s, .int .i64 d, .int .i64 g, .int .i64 4, .int .i64 b, .int .i64 i, .int .i64 u], .bool true]) ∧ Below w.heap.size w w' := by
  go_enter Try.func27, Try.ntmps27
  go_wp2_with (first | (go_at_call 22; refine (specAlive_x c h v p s d g 4 b i u _).mono ?_; rintro e w' ⟨rfl, rfl⟩))
  exact bodyPost_ret (v := .tuple #[.agg #[.string c, .int .i64 v, .string h, .int .i64 p, .int .i64 s, .int .i64 d, .int .i64 g, .int .i64 4, .int .i64 b, .int .i64 i, .int .i64 u], .bool true]) (by simp [results, Try.results27, go_sem]) rfl ⟨rfl, by repeat (first | exact Below.refl _ _ | refine bl_alloc ?_ _ | refine bl_drew ?_)⟩

set_option maxHeartbeats 2000000 in
theorem specLive_T4e (c h c2 h2 : ByteArray) (v p s d g i u v2 p2 s2 d2 g2 clock : Int) (w : World) (hi : 1000 ≤ i) (hne : ∀ w, Sem.run Try.prog (binOp .neq 36 (.agg #[.string c2, .int .i64 v2, .string h2, .int .i64 p2, .int .i64 s2, .int .i64 d2, .int .i64 g2]) (.agg #[.string c, .int .i64 v, .string h, .int .i64 p, .int .i64 s, .int .i64 d, .int .i64 g])) w = .ok (.bool false) w) :
    Calls Try.prog 27 #[.agg #[.string c, .int .i64 v, .string h, .int .i64 p, .int .i64 s, .int .i64 d, .int .i64 g, .int .i64 4, .int .i64 1, .int .i64 i, .int .i64 u], .agg #[.string c2, .int .i64 v2, .string h2, .int .i64 p2, .int .i64 s2, .int .i64 d2, .int .i64 g2], .bool true, .int .i64 clock] w fun e w' => e = .returned (.tuple #[.agg #[.string c, .int .i64 v, .string h, .int .i64 p, .int .i64 s, .int .i64 d, .int .i64 g, .int .i64 5, .int .i64 (boff i), .int .i64 i, .int .i64 u], .bool true]) ∧ Below w.heap.size w w' := by
  go_enter Try.func27, Try.ntmps27
  go_wp2_with (first | (go_at_call 22; refine (specAlive_x c h v p s d g 4 1 i u _).mono ?_; rintro e w' ⟨rfl, rfl⟩) | (go_at_call 83; refine (l3Dies_ge c h v p s d g 4 1 i u _ hi).mono ?_; rintro e w' ⟨rfl, rfl⟩))
  exact bodyPost_ret (v := .tuple #[.agg #[.string c, .int .i64 v, .string h, .int .i64 p, .int .i64 s, .int .i64 d, .int .i64 g, .int .i64 5, .int .i64 (boff i), .int .i64 i, .int .i64 u], .bool true]) (by simp [results, Try.results27, go_sem]) rfl ⟨rfl, by repeat (first | exact Below.refl _ _ | refine bl_alloc ?_ _ | refine bl_drew ?_)⟩

set_option maxHeartbeats 2000000 in
theorem specLive_Ob (c h c2 h2 : ByteArray) (v p s d g a b i u v2 p2 s2 d2 g2 clock : Int) (w : World) (k1 : (a == 1) = false) (k2 : (a != 2) = true) (k2' : (a == 2) = false) (k3 : (a == 3) = false) (k4 : (a == 4) = false) (k5 : (a == 5) = false) (k6 : (a == 6) = false) (k6' : (a != 6) = true) (hb : b ≤ 1) (hne : ∀ w, Sem.run Try.prog (binOp .neq 36 (.agg #[.string c2, .int .i64 v2, .string h2, .int .i64 p2, .int .i64 s2, .int .i64 d2, .int .i64 g2]) (.agg #[.string c, .int .i64 v, .string h, .int .i64 p, .int .i64 s, .int .i64 d, .int .i64 g])) w = .ok (.bool false) w) :
    Calls Try.prog 27 #[.agg #[.string c, .int .i64 v, .string h, .int .i64 p, .int .i64 s, .int .i64 d, .int .i64 g, .int .i64 a, .int .i64 b, .int .i64 i, .int .i64 u], .agg #[.string c2, .int .i64 v2, .string h2, .int .i64 p2, .int .i64 s2, .int .i64 d2, .int .i64 g2], .bool true, .int .i64 clock] w fun e w' => e = .returned (.tuple #[.agg #[.string c, .int .i64 v, .string h, .int .i64 p, .int .i64 s, .int .i64 d, .int .i64 g, .int .i64 a, .int .i64 b, .int .i64 i, .int .i64 u], .bool true]) ∧ Below w.heap.size w w' := by
  go_enter Try.func27, Try.ntmps27
  go_wp2_with (first | (go_at_call 22; refine (specAlive_x c h v p s d g a b i u _).mono ?_; rintro e w' ⟨rfl, rfl⟩))
  exact bodyPost_ret (v := .tuple #[.agg #[.string c, .int .i64 v, .string h, .int .i64 p, .int .i64 s, .int .i64 d, .int .i64 g, .int .i64 a, .int .i64 b, .int .i64 i, .int .i64 u], .bool true]) (by simp [results, Try.results27, go_sem]) rfl ⟨rfl, by repeat (first | exact Below.refl _ _ | refine bl_alloc ?_ _ | refine bl_drew ?_)⟩
end Go.Proofs.Ytkebokkckmgloaa
/- MateLive on both sides is one plain function. -/
namespace Go.Proofs.Ytkebokkckmgloaa
open Go.RowKit
set_option linter.unusedVariables false

/-- A tick of a run: the state, what is left and the falls behind it; none: it is gone. -/
def liveR (h : ByteArray) (s d g a b i u clock : Int) (sm : Bool) : Option (Int × Int × Int) :=
  if sm = false ∧ a ≠ 6 then (if aliveB a = true then some (6, g, i) else none)
  else if a = 2 then (if leasedB h u clock = true then some (3, s, i) else some (2, 0, i))
  else if 1 < b then some (a, b - 1, i)
  else if a = 1 ∨ a = 5 then (if leasedB h u clock = true then some (3, s, i) else some (2, 0, i))
  else if a = 3 then some (4, d, i)
  else if a = 4 ∧ b = 1 then (if i < 1000 then some (5, boff (i + 1), i + 1) else some (5, boff i, i))
  else if a = 6 then none
  else some (a, b, i)
def liveV (c h : ByteArray) (v p s d g u : Int) : Option (Int × Int × Int) → Value
  | none => .tuple #[.agg #[.string ⟨#[]⟩, .int .i64 0, .string ⟨#[]⟩, .int .i64 0, .int .i64 0, .int .i64 0, .int .i64 0, .int .i64 0, .int .i64 0, .int .i64 0, .int .i64 0], .bool false]
  | some (a, b, i) => .tuple #[.agg #[.string c, .int .i64 v, .string h, .int .i64 p, .int .i64 s, .int .i64 d, .int .i64 g, .int .i64 a, .int .i64 b, .int .i64 i, .int .i64 u], .bool true]

theorem implLive_any (c h c2 h2 : ByteArray) (v p s d g a b i u v2 p2 s2 d2 g2 clock : Int) (wanted : Bool) (w : World) (hbb : b ≤ 9223372036854775807) (hii : -9223372036854775808 ≤ i) :
    Calls Try.prog 26 #[.agg #[.string c, .int .i64 v, .string h, .int .i64 p, .int .i64 s, .int .i64 d, .int .i64 g, .int .i64 a, .int .i64 b, .int .i64 i, .int .i64 u], .agg #[.string c2, .int .i64 v2, .string h2, .int .i64 p2, .int .i64 s2, .int .i64 d2, .int .i64 g2], .bool wanted, .int .i64 clock] w fun e w' =>
      e = .returned (liveV c h v p s d g u (liveR h s d g a b i u clock (wanted && sameW c h c2 h2 v p s d g v2 p2 s2 d2 g2))) ∧ Below w.heap.size w w' := by
  have live_gone : ∀ (x : Bool), x = false → a ≠ 6 → liveR h s d g a b i u clock x = if aliveB a = true then some (6, g, i) else none := by
    intro x hx h6; subst hx; simp [liveR, h6]
  cases wanted
  · simp only [Bool.false_and]
    by_cases h6 : a = 6
    · subst h6
      by_cases hb : 1 < b
      · rw [show liveR h s d g 6 b i u clock false = some (6, b - 1, i) from by simp [liveR, hb]]
        (refine (implLive_S6af c h c2 h2 v p s d g b i u v2 p2 s2 d2 g2 clock w hb hbb).mono ?_; rintro e w' ⟨rfl, k⟩; exact ⟨rfl, k⟩)
      · rw [show liveR h s d g 6 b i u clock false = none from by simp [liveR, hb]]
        (refine (implLive_S6bf c h c2 h2 v p s d g b i u v2 p2 s2 d2 g2 clock w (by omega)).mono ?_; rintro e w' ⟨rfl, k⟩; exact ⟨rfl, k⟩)
    · have h6' : (a == 6) = false := by simpa using h6
      rw [live_gone _ rfl h6]
      cases ha : aliveB a
      · (refine (implLive_U0f c h c2 h2 v p s d g a b i u v2 p2 s2 d2 g2 clock w ha h6').mono ?_; rintro e w' ⟨rfl, k⟩; exact ⟨rfl, k⟩)
      · (refine (implLive_U1f c h c2 h2 v p s d g a b i u v2 p2 s2 d2 g2 clock w ha h6').mono ?_; rintro e w' ⟨rfl, k⟩; exact ⟨rfl, k⟩)
  · simp only [Bool.true_and]
    cases hs : sameW c h c2 h2 v p s d g v2 p2 s2 d2 g2
    · have heq : ∀ w, Sem.run Try.prog (binOp .eql 36 (.agg #[.string c2, .int .i64 v2, .string h2, .int .i64 p2, .int .i64 s2, .int .i64 d2, .int .i64 g2]) (.agg #[.string c, .int .i64 v, .string h, .int .i64 p, .int .i64 s, .int .i64 d, .int .i64 g])) w = .ok (.bool false) w := fun w => by
        rw [eql_want, hs]
      by_cases h6 : a = 6
      · subst h6
        by_cases hb : 1 < b
        · rw [show liveR h s d g 6 b i u clock false = some (6, b - 1, i) from by simp [liveR, hb]]
          (refine (implLive_S6an c h c2 h2 v p s d g b i u v2 p2 s2 d2 g2 clock w hb hbb heq).mono ?_; rintro e w' ⟨rfl, k⟩; exact ⟨rfl, k⟩)
        · rw [show liveR h s d g 6 b i u clock false = none from by simp [liveR, hb]]
          (refine (implLive_S6bn c h c2 h2 v p s d g b i u v2 p2 s2 d2 g2 clock w (by omega) heq).mono ?_; rintro e w' ⟨rfl, k⟩; exact ⟨rfl, k⟩)
      · have h6' : (a == 6) = false := by simpa using h6
        rw [live_gone _ rfl h6]
        cases ha : aliveB a
        · (refine (implLive_U0t c h c2 h2 v p s d g a b i u v2 p2 s2 d2 g2 clock w ha h6' heq).mono ?_; rintro e w' ⟨rfl, k⟩; exact ⟨rfl, k⟩)
        · (refine (implLive_U1t c h c2 h2 v p s d g a b i u v2 p2 s2 d2 g2 clock w ha h6' heq).mono ?_; rintro e w' ⟨rfl, k⟩; exact ⟨rfl, k⟩)
    · have heq : ∀ w, Sem.run Try.prog (binOp .eql 36 (.agg #[.string c2, .int .i64 v2, .string h2, .int .i64 p2, .int .i64 s2, .int .i64 d2, .int .i64 g2]) (.agg #[.string c, .int .i64 v, .string h, .int .i64 p, .int .i64 s, .int .i64 d, .int .i64 g])) w = .ok (.bool true) w := fun w => by
        rw [eql_want, hs]
      clear live_gone
      by_cases h6 : a = 6
      · subst h6
        by_cases hb : 1 < b
        · rw [show liveR h s d g 6 b i u clock true = some (6, b - 1, i) from by simp [liveR, hb]]
          (refine (implLive_S6at c h c2 h2 v p s d g b i u v2 p2 s2 d2 g2 clock w hb hbb heq).mono ?_; rintro e w' ⟨rfl, k⟩; exact ⟨rfl, k⟩)
        · rw [show liveR h s d g 6 b i u clock true = none from by simp [liveR, hb]]
          (refine (implLive_S6bt c h c2 h2 v p s d g b i u v2 p2 s2 d2 g2 clock w (by omega) heq).mono ?_; rintro e w' ⟨rfl, k⟩; exact ⟨rfl, k⟩)
      by_cases h2a : a = 2
      · subst h2a
        cases hl : leasedB h u clock
        · rw [show liveR h s d g 2 b i u clock true = some (2, 0, i) from by simp [liveR, hl]]
          (refine (implLive_T2n c h c2 h2 v p s d g b i u v2 p2 s2 d2 g2 clock w hl heq).mono ?_; rintro e w' ⟨rfl, k⟩; exact ⟨rfl, k⟩)
        · rw [show liveR h s d g 2 b i u clock true = some (3, s, i) from by simp [liveR, hl]]
          (refine (implLive_T2y c h c2 h2 v p s d g b i u v2 p2 s2 d2 g2 clock w hl heq).mono ?_; rintro e w' ⟨rfl, k⟩; exact ⟨rfl, k⟩)
      by_cases h1a : a = 1
      · subst h1a
        by_cases hb : 1 < b
        · rw [show liveR h s d g 1 b i u clock true = some (1, b - 1, i) from by simp [liveR, hb]]
          (refine (implLive_T1a c h c2 h2 v p s d g b i u v2 p2 s2 d2 g2 clock w hb hbb heq).mono ?_; rintro e w' ⟨rfl, k⟩; exact ⟨rfl, k⟩)
        · cases hl : leasedB h u clock
          · rw [show liveR h s d g 1 b i u clock true = some (2, 0, i) from by simp [liveR, hb, hl]]
            (refine (implLive_T1n c h c2 h2 v p s d g b i u v2 p2 s2 d2 g2 clock w (by omega) hl heq).mono ?_; rintro e w' ⟨rfl, k⟩; exact ⟨rfl, k⟩)
          · rw [show liveR h s d g 1 b i u clock true = some (3, s, i) from by simp [liveR, hb, hl]]
            (refine (implLive_T1y c h c2 h2 v p s d g b i u v2 p2 s2 d2 g2 clock w (by omega) hl heq).mono ?_; rintro e w' ⟨rfl, k⟩; exact ⟨rfl, k⟩)
      by_cases h5a : a = 5
      · subst h5a
        by_cases hb : 1 < b
        · rw [show liveR h s d g 5 b i u clock true = some (5, b - 1, i) from by simp [liveR, hb]]
          (refine (implLive_T5a c h c2 h2 v p s d g b i u v2 p2 s2 d2 g2 clock w hb hbb heq).mono ?_; rintro e w' ⟨rfl, k⟩; exact ⟨rfl, k⟩)
        · cases hl : leasedB h u clock
          · rw [show liveR h s d g 5 b i u clock true = some (2, 0, i) from by simp [liveR, hb, hl]]
            (refine (implLive_T5n c h c2 h2 v p s d g b i u v2 p2 s2 d2 g2 clock w (by omega) hl heq).mono ?_; rintro e w' ⟨rfl, k⟩; exact ⟨rfl, k⟩)
          · rw [show liveR h s d g 5 b i u clock true = some (3, s, i) from by simp [liveR, hb, hl]]
            (refine (implLive_T5y c h c2 h2 v p s d g b i u v2 p2 s2 d2 g2 clock w (by omega) hl heq).mono ?_; rintro e w' ⟨rfl, k⟩; exact ⟨rfl, k⟩)
      by_cases h3a : a = 3
      · subst h3a
        by_cases hb : 1 < b
        · rw [show liveR h s d g 3 b i u clock true = some (3, b - 1, i) from by simp [liveR, hb]]
          (refine (implLive_T3a c h c2 h2 v p s d g b i u v2 p2 s2 d2 g2 clock w hb hbb heq).mono ?_; rintro e w' ⟨rfl, k⟩; exact ⟨rfl, k⟩)
        · rw [show liveR h s d g 3 b i u clock true = some (4, d, i) from by simp [liveR, hb]]
          (refine (implLive_T3b c h c2 h2 v p s d g b i u v2 p2 s2 d2 g2 clock w (by omega) heq).mono ?_; rintro e w' ⟨rfl, k⟩; exact ⟨rfl, k⟩)
      by_cases h4a : a = 4
      · subst h4a
        by_cases hb : 1 < b
        · rw [show liveR h s d g 4 b i u clock true = some (4, b - 1, i) from by simp [liveR, hb]]
          (refine (implLive_T4a c h c2 h2 v p s d g b i u v2 p2 s2 d2 g2 clock w hb hbb (by simp; omega) heq).mono ?_; rintro e w' ⟨rfl, k⟩; exact ⟨rfl, k⟩)
        · by_cases hb1 : b = 1
          · subst hb1
            by_cases hi : i < 1000
            · rw [show liveR h s d g 4 1 i u clock true = some (5, boff (i + 1), i + 1) from by simp [liveR, hi]]
              (refine (implLive_T4d c h c2 h2 v p s d g i u v2 p2 s2 d2 g2 clock w hi hii heq).mono ?_; rintro e w' ⟨rfl, k⟩; exact ⟨rfl, k⟩)
            · rw [show liveR h s d g 4 1 i u clock true = some (5, boff i, i) from by simp [liveR, hi]]
              (refine (implLive_T4e c h c2 h2 v p s d g i u v2 p2 s2 d2 g2 clock w (by omega) heq).mono ?_; rintro e w' ⟨rfl, k⟩; exact ⟨rfl, k⟩)
          · rw [show liveR h s d g 4 b i u clock true = some (4, b, i) from by simp [liveR, hb, hb1]]
            (refine (implLive_T4z c h c2 h2 v p s d g b i u v2 p2 s2 d2 g2 clock w (by omega) (by simpa using hb1) heq).mono ?_; rintro e w' ⟨rfl, k⟩; exact ⟨rfl, k⟩)
      have hoth : liveR h s d g a b i u clock true = if 1 < b then some (a, b - 1, i) else some (a, b, i) := by simp [liveR, h6, h2a, h1a, h5a, h3a, h4a]
      rw [hoth]
      by_cases hlt : a < 1
      · by_cases hb : 1 < b
        · rw [if_pos hb]
          (refine (implLive_OLa c h c2 h2 v p s d g a b i u v2 p2 s2 d2 g2 clock w hlt hb hbb heq).mono ?_; rintro e w' ⟨rfl, k⟩; exact ⟨rfl, k⟩)
        · rw [if_neg hb]
          (refine (implLive_OLb c h c2 h2 v p s d g a b i u v2 p2 s2 d2 g2 clock w hlt (by omega) heq).mono ?_; rintro e w' ⟨rfl, k⟩; exact ⟨rfl, k⟩)
      · by_cases hb : 1 < b
        · rw [if_pos hb]
          (refine (implLive_OGa c h c2 h2 v p s d g a b i u v2 p2 s2 d2 g2 clock w (by omega) (by omega) hb hbb heq).mono ?_; rintro e w' ⟨rfl, k⟩; exact ⟨rfl, k⟩)
        · rw [if_neg hb]
          (refine (implLive_OGb c h c2 h2 v p s d g a b i u v2 p2 s2 d2 g2 clock w (by omega) (by omega) (by omega) heq).mono ?_; rintro e w' ⟨rfl, k⟩; exact ⟨rfl, k⟩)

theorem specLive_any (c h c2 h2 : ByteArray) (v p s d g a b i u v2 p2 s2 d2 g2 clock : Int) (wanted : Bool) (w : World) (hbb : b ≤ 9223372036854775807) (hii : -9223372036854775808 ≤ i) :
    Calls Try.prog 27 #[.agg #[.string c, .int .i64 v, .string h, .int .i64 p, .int .i64 s, .int .i64 d, .int .i64 g, .int .i64 a, .int .i64 b, .int .i64 i, .int .i64 u], .agg #[.string c2, .int .i64 v2, .string h2, .int .i64 p2, .int .i64 s2, .int .i64 d2, .int .i64 g2], .bool wanted, .int .i64 clock] w fun e w' =>
      e = .returned (liveV c h v p s d g u (liveR h s d g a b i u clock (wanted && sameW c h c2 h2 v p s d g v2 p2 s2 d2 g2))) ∧ Below w.heap.size w w' := by
  have live_gone : ∀ (x : Bool), x = false → a ≠ 6 → liveR h s d g a b i u clock x = if aliveB a = true then some (6, g, i) else none := by
    intro x hx h6; subst hx; simp [liveR, h6]
  cases wanted
  · simp only [Bool.false_and]
    by_cases h6 : a = 6
    · subst h6
      by_cases hb : 1 < b
      · rw [show liveR h s d g 6 b i u clock false = some (6, b - 1, i) from by simp [liveR, hb]]
        (refine (specLive_S6af c h c2 h2 v p s d g b i u v2 p2 s2 d2 g2 clock w hb hbb).mono ?_; rintro e w' ⟨rfl, k⟩; exact ⟨rfl, k⟩)
      · rw [show liveR h s d g 6 b i u clock false = none from by simp [liveR, hb]]
        (refine (specLive_S6bf c h c2 h2 v p s d g b i u v2 p2 s2 d2 g2 clock w (by omega)).mono ?_; rintro e w' ⟨rfl, k⟩; exact ⟨rfl, k⟩)
    · have h6' : (a != 6) = true := by simpa using h6
      rw [live_gone _ rfl h6]
      cases ha : aliveB a
      · (refine (specLive_U0f c h c2 h2 v p s d g a b i u v2 p2 s2 d2 g2 clock w ha h6').mono ?_; rintro e w' ⟨rfl, k⟩; exact ⟨rfl, k⟩)
      · (refine (specLive_U1f c h c2 h2 v p s d g a b i u v2 p2 s2 d2 g2 clock w ha h6').mono ?_; rintro e w' ⟨rfl, k⟩; exact ⟨rfl, k⟩)
  · simp only [Bool.true_and]
    cases hs : sameW c h c2 h2 v p s d g v2 p2 s2 d2 g2
    · have heq : ∀ w, Sem.run Try.prog (binOp .neq 36 (.agg #[.string c2, .int .i64 v2, .string h2, .int .i64 p2, .int .i64 s2, .int .i64 d2, .int .i64 g2]) (.agg #[.string c, .int .i64 v, .string h, .int .i64 p, .int .i64 s, .int .i64 d, .int .i64 g])) w = .ok (.bool true) w := fun w => by
        rw [neq_want, hs]; rfl
      by_cases h6 : a = 6
      · subst h6
        by_cases hb : 1 < b
        · rw [show liveR h s d g 6 b i u clock false = some (6, b - 1, i) from by simp [liveR, hb]]
          (refine (specLive_S6an c h c2 h2 v p s d g b i u v2 p2 s2 d2 g2 clock w hb hbb heq).mono ?_; rintro e w' ⟨rfl, k⟩; exact ⟨rfl, k⟩)
        · rw [show liveR h s d g 6 b i u clock false = none from by simp [liveR, hb]]
          (refine (specLive_S6bn c h c2 h2 v p s d g b i u v2 p2 s2 d2 g2 clock w (by omega) heq).mono ?_; rintro e w' ⟨rfl, k⟩; exact ⟨rfl, k⟩)
      · have h6' : (a != 6) = true := by simpa using h6
        rw [live_gone _ rfl h6]
        cases ha : aliveB a
        · (refine (specLive_U0t c h c2 h2 v p s d g a b i u v2 p2 s2 d2 g2 clock w ha h6' heq).mono ?_; rintro e w' ⟨rfl, k⟩; exact ⟨rfl, k⟩)
        · (refine (specLive_U1t c h c2 h2 v p s d g a b i u v2 p2 s2 d2 g2 clock w ha h6' heq).mono ?_; rintro e w' ⟨rfl, k⟩; exact ⟨rfl, k⟩)
    · have heq : ∀ w, Sem.run Try.prog (binOp .neq 36 (.agg #[.string c2, .int .i64 v2, .string h2, .int .i64 p2, .int .i64 s2, .int .i64 d2, .int .i64 g2]) (.agg #[.string c, .int .i64 v, .string h, .int .i64 p, .int .i64 s, .int .i64 d, .int .i64 g])) w = .ok (.bool false) w := fun w => by
        rw [neq_want, hs]; rfl
      clear live_gone
      by_cases h6 : a = 6
      · subst h6
        by_cases hb : 1 < b
        · rw [show liveR h s d g 6 b i u clock true = some (6, b - 1, i) from by simp [liveR, hb]]
          (refine (specLive_S6at c h c2 h2 v p s d g b i u v2 p2 s2 d2 g2 clock w hb hbb heq).mono ?_; rintro e w' ⟨rfl, k⟩; exact ⟨rfl, k⟩)
        · rw [show liveR h s d g 6 b i u clock true = none from by simp [liveR, hb]]
          (refine (specLive_S6bt c h c2 h2 v p s d g b i u v2 p2 s2 d2 g2 clock w (by omega) heq).mono ?_; rintro e w' ⟨rfl, k⟩; exact ⟨rfl, k⟩)
      by_cases h2a : a = 2
      · subst h2a
        cases hl : leasedB h u clock
        · rw [show liveR h s d g 2 b i u clock true = some (2, 0, i) from by simp [liveR, hl]]
          (refine (specLive_T2n c h c2 h2 v p s d g b i u v2 p2 s2 d2 g2 clock w hl heq).mono ?_; rintro e w' ⟨rfl, k⟩; exact ⟨rfl, k⟩)
        · rw [show liveR h s d g 2 b i u clock true = some (3, s, i) from by simp [liveR, hl]]
          (refine (specLive_T2y c h c2 h2 v p s d g b i u v2 p2 s2 d2 g2 clock w hl heq).mono ?_; rintro e w' ⟨rfl, k⟩; exact ⟨rfl, k⟩)
      by_cases h1a : a = 1
      · subst h1a
        by_cases hb : 1 < b
        · rw [show liveR h s d g 1 b i u clock true = some (1, b - 1, i) from by simp [liveR, hb]]
          (refine (specLive_T1a c h c2 h2 v p s d g b i u v2 p2 s2 d2 g2 clock w hb hbb heq).mono ?_; rintro e w' ⟨rfl, k⟩; exact ⟨rfl, k⟩)
        · cases hl : leasedB h u clock
          · rw [show liveR h s d g 1 b i u clock true = some (2, 0, i) from by simp [liveR, hb, hl]]
            (refine (specLive_T1n c h c2 h2 v p s d g b i u v2 p2 s2 d2 g2 clock w (by omega) hl heq).mono ?_; rintro e w' ⟨rfl, k⟩; exact ⟨rfl, k⟩)
          · rw [show liveR h s d g 1 b i u clock true = some (3, s, i) from by simp [liveR, hb, hl]]
            (refine (specLive_T1y c h c2 h2 v p s d g b i u v2 p2 s2 d2 g2 clock w (by omega) hl heq).mono ?_; rintro e w' ⟨rfl, k⟩; exact ⟨rfl, k⟩)
      by_cases h5a : a = 5
      · subst h5a
        by_cases hb : 1 < b
        · rw [show liveR h s d g 5 b i u clock true = some (5, b - 1, i) from by simp [liveR, hb]]
          (refine (specLive_T5a c h c2 h2 v p s d g b i u v2 p2 s2 d2 g2 clock w hb hbb heq).mono ?_; rintro e w' ⟨rfl, k⟩; exact ⟨rfl, k⟩)
        · cases hl : leasedB h u clock
          · rw [show liveR h s d g 5 b i u clock true = some (2, 0, i) from by simp [liveR, hb, hl]]
            (refine (specLive_T5n c h c2 h2 v p s d g b i u v2 p2 s2 d2 g2 clock w (by omega) hl heq).mono ?_; rintro e w' ⟨rfl, k⟩; exact ⟨rfl, k⟩)
          · rw [show liveR h s d g 5 b i u clock true = some (3, s, i) from by simp [liveR, hb, hl]]
            (refine (specLive_T5y c h c2 h2 v p s d g b i u v2 p2 s2 d2 g2 clock w (by omega) hl heq).mono ?_; rintro e w' ⟨rfl, k⟩; exact ⟨rfl, k⟩)
      by_cases h3a : a = 3
      · subst h3a
        by_cases hb : 1 < b
        · rw [show liveR h s d g 3 b i u clock true = some (3, b - 1, i) from by simp [liveR, hb]]
          (refine (specLive_T3a c h c2 h2 v p s d g b i u v2 p2 s2 d2 g2 clock w hb hbb heq).mono ?_; rintro e w' ⟨rfl, k⟩; exact ⟨rfl, k⟩)
        · rw [show liveR h s d g 3 b i u clock true = some (4, d, i) from by simp [liveR, hb]]
          (refine (specLive_T3b c h c2 h2 v p s d g b i u v2 p2 s2 d2 g2 clock w (by omega) heq).mono ?_; rintro e w' ⟨rfl, k⟩; exact ⟨rfl, k⟩)
      by_cases h4a : a = 4
      · subst h4a
        by_cases hb : 1 < b
        · rw [show liveR h s d g 4 b i u clock true = some (4, b - 1, i) from by simp [liveR, hb]]
          (refine (specLive_T4a c h c2 h2 v p s d g b i u v2 p2 s2 d2 g2 clock w hb hbb heq).mono ?_; rintro e w' ⟨rfl, k⟩; exact ⟨rfl, k⟩)
        · by_cases hb1 : b = 1
          · subst hb1
            by_cases hi : i < 1000
            · rw [show liveR h s d g 4 1 i u clock true = some (5, boff (i + 1), i + 1) from by simp [liveR, hi]]
              (refine (specLive_T4d c h c2 h2 v p s d g i u v2 p2 s2 d2 g2 clock w hi hii heq).mono ?_; rintro e w' ⟨rfl, k⟩; exact ⟨rfl, k⟩)
            · rw [show liveR h s d g 4 1 i u clock true = some (5, boff i, i) from by simp [liveR, hi]]
              (refine (specLive_T4e c h c2 h2 v p s d g i u v2 p2 s2 d2 g2 clock w (by omega) heq).mono ?_; rintro e w' ⟨rfl, k⟩; exact ⟨rfl, k⟩)
          · rw [show liveR h s d g 4 b i u clock true = some (4, b, i) from by simp [liveR, hb, hb1]]
            (refine (specLive_T4z c h c2 h2 v p s d g b i u v2 p2 s2 d2 g2 clock w (by omega) (by simpa using hb1) heq).mono ?_; rintro e w' ⟨rfl, k⟩; exact ⟨rfl, k⟩)
      have hoth : liveR h s d g a b i u clock true = if 1 < b then some (a, b - 1, i) else some (a, b, i) := by simp [liveR, h6, h2a, h1a, h5a, h3a, h4a]
      rw [hoth]
      by_cases hb : 1 < b
      · rw [if_pos hb]
        (refine (specLive_Oa c h c2 h2 v p s d g a b i u v2 p2 s2 d2 g2 clock w (by simpa using h1a) (by simpa using h2a) (by simpa using h2a) (by simpa using h3a) (by simpa using h4a) (by simpa using h5a) (by simpa using h6) (by simpa using h6) hb hbb heq).mono ?_; rintro e w' ⟨rfl, k⟩; exact ⟨rfl, k⟩)
      · rw [if_neg hb]
        (refine (specLive_Ob c h c2 h2 v p s d g a b i u v2 p2 s2 d2 g2 clock w (by simpa using h1a) (by simpa using h2a) (by simpa using h2a) (by simpa using h3a) (by simpa using h4a) (by simpa using h5a) (by simpa using h6) (by simpa using h6) (by omega) heq).mono ?_; rintro e w' ⟨rfl, k⟩; exact ⟨rfl, k⟩)
end Go.Proofs.Ytkebokkckmgloaa
