/- The specification's MateLive, case by case. -/
import Derived.Test.YtmfcnckhgeggkabLifeS
namespace Go.Proofs.Ytmfcnckhgeggkab
open Go.RowKit
set_option linter.unusedVariables false

set_option maxHeartbeats 2000000 in
theorem specLive_U0f (c h c2 h2 : ByteArray) (v p s d g a b i u v2 p2 s2 d2 g2 clock : Int) (w : World) (ha : aliveB a = false) (h6 : (a != 6) = true) :
    Calls Try.prog 20 #[.agg #[.string c, .int .i64 v, .string h, .int .i64 p, .int .i64 s, .int .i64 d, .int .i64 g, .int .i64 a, .int .i64 b, .int .i64 i, .int .i64 u], .agg #[.string c2, .int .i64 v2, .string h2, .int .i64 p2, .int .i64 s2, .int .i64 d2, .int .i64 g2], .bool false, .int .i64 clock] w fun e w' => e = .returned (.tuple #[.agg #[.string ⟨#[]⟩, .int .i64 0, .string ⟨#[]⟩, .int .i64 0, .int .i64 0, .int .i64 0, .int .i64 0, .int .i64 0, .int .i64 0, .int .i64 0, .int .i64 0], .bool false]) ∧ Below w.heap.size w w' := by
  go_enter Try.func20, Try.ntmps20
  go_wp2_with (first | (go_at_call 43; refine (specAlive_x c h v p s d g a b i u _).mono ?_; rintro e w' ⟨rfl, rfl⟩))
  exact bodyPost_ret (v := .tuple #[.agg #[.string ⟨#[]⟩, .int .i64 0, .string ⟨#[]⟩, .int .i64 0, .int .i64 0, .int .i64 0, .int .i64 0, .int .i64 0, .int .i64 0, .int .i64 0, .int .i64 0], .bool false]) (by simp [results, Try.results20, go_sem]) rfl ⟨rfl, by repeat (first | exact Below.refl _ _ | refine bl_alloc ?_ _ | refine bl_drew ?_)⟩

set_option maxHeartbeats 2000000 in
theorem specLive_U0t (c h c2 h2 : ByteArray) (v p s d g a b i u v2 p2 s2 d2 g2 clock : Int) (w : World) (ha : aliveB a = false) (h6 : (a != 6) = true) (hne : ∀ w, Sem.run Try.prog (binOp .neq 37 (.agg #[.string c2, .int .i64 v2, .string h2, .int .i64 p2, .int .i64 s2, .int .i64 d2, .int .i64 g2]) (.agg #[.string c, .int .i64 v, .string h, .int .i64 p, .int .i64 s, .int .i64 d, .int .i64 g])) w = .ok (.bool true) w) :
    Calls Try.prog 20 #[.agg #[.string c, .int .i64 v, .string h, .int .i64 p, .int .i64 s, .int .i64 d, .int .i64 g, .int .i64 a, .int .i64 b, .int .i64 i, .int .i64 u], .agg #[.string c2, .int .i64 v2, .string h2, .int .i64 p2, .int .i64 s2, .int .i64 d2, .int .i64 g2], .bool true, .int .i64 clock] w fun e w' => e = .returned (.tuple #[.agg #[.string ⟨#[]⟩, .int .i64 0, .string ⟨#[]⟩, .int .i64 0, .int .i64 0, .int .i64 0, .int .i64 0, .int .i64 0, .int .i64 0, .int .i64 0, .int .i64 0], .bool false]) ∧ Below w.heap.size w w' := by
  go_enter Try.func20, Try.ntmps20
  go_wp2_with (first | (go_at_call 43; refine (specAlive_x c h v p s d g a b i u _).mono ?_; rintro e w' ⟨rfl, rfl⟩))
  exact bodyPost_ret (v := .tuple #[.agg #[.string ⟨#[]⟩, .int .i64 0, .string ⟨#[]⟩, .int .i64 0, .int .i64 0, .int .i64 0, .int .i64 0, .int .i64 0, .int .i64 0, .int .i64 0, .int .i64 0], .bool false]) (by simp [results, Try.results20, go_sem]) rfl ⟨rfl, by repeat (first | exact Below.refl _ _ | refine bl_alloc ?_ _ | refine bl_drew ?_)⟩

set_option maxHeartbeats 2000000 in
theorem specLive_S6bf (c h c2 h2 : ByteArray) (v p s d g b i u v2 p2 s2 d2 g2 clock : Int) (w : World) (hb : b ≤ 1) :
    Calls Try.prog 20 #[.agg #[.string c, .int .i64 v, .string h, .int .i64 p, .int .i64 s, .int .i64 d, .int .i64 g, .int .i64 6, .int .i64 b, .int .i64 i, .int .i64 u], .agg #[.string c2, .int .i64 v2, .string h2, .int .i64 p2, .int .i64 s2, .int .i64 d2, .int .i64 g2], .bool false, .int .i64 clock] w fun e w' => e = .returned (.tuple #[.agg #[.string ⟨#[]⟩, .int .i64 0, .string ⟨#[]⟩, .int .i64 0, .int .i64 0, .int .i64 0, .int .i64 0, .int .i64 0, .int .i64 0, .int .i64 0, .int .i64 0], .bool false]) ∧ Below w.heap.size w w' := by
  go_enter Try.func20, Try.ntmps20
  go_wp2_with (first | (go_at_call 43; refine (specAlive_x c h v p s d g 6 b i u _).mono ?_; rintro e w' ⟨rfl, rfl⟩))
  exact bodyPost_ret (v := .tuple #[.agg #[.string ⟨#[]⟩, .int .i64 0, .string ⟨#[]⟩, .int .i64 0, .int .i64 0, .int .i64 0, .int .i64 0, .int .i64 0, .int .i64 0, .int .i64 0, .int .i64 0], .bool false]) (by simp [results, Try.results20, go_sem]) rfl ⟨rfl, by repeat (first | exact Below.refl _ _ | refine bl_alloc ?_ _ | refine bl_drew ?_)⟩

set_option maxHeartbeats 2000000 in
theorem specLive_S6bn (c h c2 h2 : ByteArray) (v p s d g b i u v2 p2 s2 d2 g2 clock : Int) (w : World) (hb : b ≤ 1) (hne : ∀ w, Sem.run Try.prog (binOp .neq 37 (.agg #[.string c2, .int .i64 v2, .string h2, .int .i64 p2, .int .i64 s2, .int .i64 d2, .int .i64 g2]) (.agg #[.string c, .int .i64 v, .string h, .int .i64 p, .int .i64 s, .int .i64 d, .int .i64 g])) w = .ok (.bool true) w) :
    Calls Try.prog 20 #[.agg #[.string c, .int .i64 v, .string h, .int .i64 p, .int .i64 s, .int .i64 d, .int .i64 g, .int .i64 6, .int .i64 b, .int .i64 i, .int .i64 u], .agg #[.string c2, .int .i64 v2, .string h2, .int .i64 p2, .int .i64 s2, .int .i64 d2, .int .i64 g2], .bool true, .int .i64 clock] w fun e w' => e = .returned (.tuple #[.agg #[.string ⟨#[]⟩, .int .i64 0, .string ⟨#[]⟩, .int .i64 0, .int .i64 0, .int .i64 0, .int .i64 0, .int .i64 0, .int .i64 0, .int .i64 0, .int .i64 0], .bool false]) ∧ Below w.heap.size w w' := by
  go_enter Try.func20, Try.ntmps20
  go_wp2_with (first | (go_at_call 43; refine (specAlive_x c h v p s d g 6 b i u _).mono ?_; rintro e w' ⟨rfl, rfl⟩))
  exact bodyPost_ret (v := .tuple #[.agg #[.string ⟨#[]⟩, .int .i64 0, .string ⟨#[]⟩, .int .i64 0, .int .i64 0, .int .i64 0, .int .i64 0, .int .i64 0, .int .i64 0, .int .i64 0, .int .i64 0], .bool false]) (by simp [results, Try.results20, go_sem]) rfl ⟨rfl, by repeat (first | exact Below.refl _ _ | refine bl_alloc ?_ _ | refine bl_drew ?_)⟩

set_option maxHeartbeats 2000000 in
theorem specLive_S6bt (c h c2 h2 : ByteArray) (v p s d g b i u v2 p2 s2 d2 g2 clock : Int) (w : World) (hb : b ≤ 1) (hne : ∀ w, Sem.run Try.prog (binOp .neq 37 (.agg #[.string c2, .int .i64 v2, .string h2, .int .i64 p2, .int .i64 s2, .int .i64 d2, .int .i64 g2]) (.agg #[.string c, .int .i64 v, .string h, .int .i64 p, .int .i64 s, .int .i64 d, .int .i64 g])) w = .ok (.bool false) w) :
    Calls Try.prog 20 #[.agg #[.string c, .int .i64 v, .string h, .int .i64 p, .int .i64 s, .int .i64 d, .int .i64 g, .int .i64 6, .int .i64 b, .int .i64 i, .int .i64 u], .agg #[.string c2, .int .i64 v2, .string h2, .int .i64 p2, .int .i64 s2, .int .i64 d2, .int .i64 g2], .bool true, .int .i64 clock] w fun e w' => e = .returned (.tuple #[.agg #[.string ⟨#[]⟩, .int .i64 0, .string ⟨#[]⟩, .int .i64 0, .int .i64 0, .int .i64 0, .int .i64 0, .int .i64 0, .int .i64 0, .int .i64 0, .int .i64 0], .bool false]) ∧ Below w.heap.size w w' := by
  go_enter Try.func20, Try.ntmps20
  go_wp2_with (first | (go_at_call 43; refine (specAlive_x c h v p s d g 6 b i u _).mono ?_; rintro e w' ⟨rfl, rfl⟩))
  exact bodyPost_ret (v := .tuple #[.agg #[.string ⟨#[]⟩, .int .i64 0, .string ⟨#[]⟩, .int .i64 0, .int .i64 0, .int .i64 0, .int .i64 0, .int .i64 0, .int .i64 0, .int .i64 0, .int .i64 0], .bool false]) (by simp [results, Try.results20, go_sem]) rfl ⟨rfl, by repeat (first | exact Below.refl _ _ | refine bl_alloc ?_ _ | refine bl_drew ?_)⟩

set_option maxHeartbeats 2000000 in
theorem specLive_T1y (c h c2 h2 : ByteArray) (v p s d g b i u v2 p2 s2 d2 g2 clock : Int) (w : World) (hb : b ≤ 1) (hl : leasedB h u clock = true) (hne : ∀ w, Sem.run Try.prog (binOp .neq 37 (.agg #[.string c2, .int .i64 v2, .string h2, .int .i64 p2, .int .i64 s2, .int .i64 d2, .int .i64 g2]) (.agg #[.string c, .int .i64 v, .string h, .int .i64 p, .int .i64 s, .int .i64 d, .int .i64 g])) w = .ok (.bool false) w) :
    Calls Try.prog 20 #[.agg #[.string c, .int .i64 v, .string h, .int .i64 p, .int .i64 s, .int .i64 d, .int .i64 g, .int .i64 1, .int .i64 b, .int .i64 i, .int .i64 u], .agg #[.string c2, .int .i64 v2, .string h2, .int .i64 p2, .int .i64 s2, .int .i64 d2, .int .i64 g2], .bool true, .int .i64 clock] w fun e w' => e = .returned (.tuple #[.agg #[.string c, .int .i64 v, .string h, .int .i64 p, .int .i64 s, .int .i64 d, .int .i64 g, .int .i64 3, .int .i64 s, .int .i64 i, .int .i64 u], .bool true]) ∧ Below w.heap.size w w' := by
  go_enter Try.func20, Try.ntmps20
  go_wp2_with (first | (go_at_call 43; refine (specAlive_x c h v p s d g 1 b i u _).mono ?_; rintro e w' ⟨rfl, rfl⟩) | (go_at_call 49; refine (l3Begin_yes c h v p s d g 1 b i u clock _ hl).mono ?_; rintro e w' ⟨rfl, rfl⟩))
  exact bodyPost_ret (v := .tuple #[.agg #[.string c, .int .i64 v, .string h, .int .i64 p, .int .i64 s, .int .i64 d, .int .i64 g, .int .i64 3, .int .i64 s, .int .i64 i, .int .i64 u], .bool true]) (by simp [results, Try.results20, go_sem]) rfl ⟨rfl, by repeat (first | exact Below.refl _ _ | refine bl_alloc ?_ _ | refine bl_drew ?_)⟩

set_option maxHeartbeats 2000000 in
theorem specLive_T5a (c h c2 h2 : ByteArray) (v p s d g b i u v2 p2 s2 d2 g2 clock : Int) (w : World) (hb : 1 < b) (hbb : b ≤ 9223372036854775807) (hne : ∀ w, Sem.run Try.prog (binOp .neq 37 (.agg #[.string c2, .int .i64 v2, .string h2, .int .i64 p2, .int .i64 s2, .int .i64 d2, .int .i64 g2]) (.agg #[.string c, .int .i64 v, .string h, .int .i64 p, .int .i64 s, .int .i64 d, .int .i64 g])) w = .ok (.bool false) w) :
    Calls Try.prog 20 #[.agg #[.string c, .int .i64 v, .string h, .int .i64 p, .int .i64 s, .int .i64 d, .int .i64 g, .int .i64 5, .int .i64 b, .int .i64 i, .int .i64 u], .agg #[.string c2, .int .i64 v2, .string h2, .int .i64 p2, .int .i64 s2, .int .i64 d2, .int .i64 g2], .bool true, .int .i64 clock] w fun e w' => e = .returned (.tuple #[.agg #[.string c, .int .i64 v, .string h, .int .i64 p, .int .i64 s, .int .i64 d, .int .i64 g, .int .i64 5, .int .i64 (b - 1), .int .i64 i, .int .i64 u], .bool true]) ∧ Below w.heap.size w w' := by
  go_enter Try.func20, Try.ntmps20
  go_wp2_with (first | (go_at_call 43; refine (specAlive_x c h v p s d g 5 b i u _).mono ?_; rintro e w' ⟨rfl, rfl⟩))
  exact bodyPost_ret (v := .tuple #[.agg #[.string c, .int .i64 v, .string h, .int .i64 p, .int .i64 s, .int .i64 d, .int .i64 g, .int .i64 5, .int .i64 (b - 1), .int .i64 i, .int .i64 u], .bool true]) (by simp [results, Try.results20, go_sem]) rfl ⟨rfl, by repeat (first | exact Below.refl _ _ | refine bl_alloc ?_ _ | refine bl_drew ?_)⟩

set_option maxHeartbeats 2000000 in
theorem specLive_T5n (c h c2 h2 : ByteArray) (v p s d g b i u v2 p2 s2 d2 g2 clock : Int) (w : World) (hb : b ≤ 1) (hl : leasedB h u clock = false) (hne : ∀ w, Sem.run Try.prog (binOp .neq 37 (.agg #[.string c2, .int .i64 v2, .string h2, .int .i64 p2, .int .i64 s2, .int .i64 d2, .int .i64 g2]) (.agg #[.string c, .int .i64 v, .string h, .int .i64 p, .int .i64 s, .int .i64 d, .int .i64 g])) w = .ok (.bool false) w) :
    Calls Try.prog 20 #[.agg #[.string c, .int .i64 v, .string h, .int .i64 p, .int .i64 s, .int .i64 d, .int .i64 g, .int .i64 5, .int .i64 b, .int .i64 i, .int .i64 u], .agg #[.string c2, .int .i64 v2, .string h2, .int .i64 p2, .int .i64 s2, .int .i64 d2, .int .i64 g2], .bool true, .int .i64 clock] w fun e w' => e = .returned (.tuple #[.agg #[.string c, .int .i64 v, .string h, .int .i64 p, .int .i64 s, .int .i64 d, .int .i64 g, .int .i64 2, .int .i64 0, .int .i64 i, .int .i64 u], .bool true]) ∧ Below w.heap.size w w' := by
  go_enter Try.func20, Try.ntmps20
  go_wp2_with (first | (go_at_call 43; refine (specAlive_x c h v p s d g 5 b i u _).mono ?_; rintro e w' ⟨rfl, rfl⟩) | (go_at_call 49; refine (l3Begin_no c h v p s d g 5 b i u clock _ hl).mono ?_; rintro e w' ⟨rfl, rfl⟩))
  exact bodyPost_ret (v := .tuple #[.agg #[.string c, .int .i64 v, .string h, .int .i64 p, .int .i64 s, .int .i64 d, .int .i64 g, .int .i64 2, .int .i64 0, .int .i64 i, .int .i64 u], .bool true]) (by simp [results, Try.results20, go_sem]) rfl ⟨rfl, by repeat (first | exact Below.refl _ _ | refine bl_alloc ?_ _ | refine bl_drew ?_)⟩

set_option maxHeartbeats 2000000 in
theorem specLive_T2n (c h c2 h2 : ByteArray) (v p s d g b i u v2 p2 s2 d2 g2 clock : Int) (w : World) (hl : leasedB h u clock = false) (hne : ∀ w, Sem.run Try.prog (binOp .neq 37 (.agg #[.string c2, .int .i64 v2, .string h2, .int .i64 p2, .int .i64 s2, .int .i64 d2, .int .i64 g2]) (.agg #[.string c, .int .i64 v, .string h, .int .i64 p, .int .i64 s, .int .i64 d, .int .i64 g])) w = .ok (.bool false) w) :
    Calls Try.prog 20 #[.agg #[.string c, .int .i64 v, .string h, .int .i64 p, .int .i64 s, .int .i64 d, .int .i64 g, .int .i64 2, .int .i64 b, .int .i64 i, .int .i64 u], .agg #[.string c2, .int .i64 v2, .string h2, .int .i64 p2, .int .i64 s2, .int .i64 d2, .int .i64 g2], .bool true, .int .i64 clock] w fun e w' => e = .returned (.tuple #[.agg #[.string c, .int .i64 v, .string h, .int .i64 p, .int .i64 s, .int .i64 d, .int .i64 g, .int .i64 2, .int .i64 0, .int .i64 i, .int .i64 u], .bool true]) ∧ Below w.heap.size w w' := by
  go_enter Try.func20, Try.ntmps20
  go_wp2_with (first | (go_at_call 43; refine (specAlive_x c h v p s d g 2 b i u _).mono ?_; rintro e w' ⟨rfl, rfl⟩) | (go_at_call 49; refine (l3Begin_no c h v p s d g 2 b i u clock _ hl).mono ?_; rintro e w' ⟨rfl, rfl⟩))
  exact bodyPost_ret (v := .tuple #[.agg #[.string c, .int .i64 v, .string h, .int .i64 p, .int .i64 s, .int .i64 d, .int .i64 g, .int .i64 2, .int .i64 0, .int .i64 i, .int .i64 u], .bool true]) (by simp [results, Try.results20, go_sem]) rfl ⟨rfl, by repeat (first | exact Below.refl _ _ | refine bl_alloc ?_ _ | refine bl_drew ?_)⟩

set_option maxHeartbeats 2000000 in
theorem specLive_T3b (c h c2 h2 : ByteArray) (v p s d g b i u v2 p2 s2 d2 g2 clock : Int) (w : World) (hb : b ≤ 1) (hne : ∀ w, Sem.run Try.prog (binOp .neq 37 (.agg #[.string c2, .int .i64 v2, .string h2, .int .i64 p2, .int .i64 s2, .int .i64 d2, .int .i64 g2]) (.agg #[.string c, .int .i64 v, .string h, .int .i64 p, .int .i64 s, .int .i64 d, .int .i64 g])) w = .ok (.bool false) w) :
    Calls Try.prog 20 #[.agg #[.string c, .int .i64 v, .string h, .int .i64 p, .int .i64 s, .int .i64 d, .int .i64 g, .int .i64 3, .int .i64 b, .int .i64 i, .int .i64 u], .agg #[.string c2, .int .i64 v2, .string h2, .int .i64 p2, .int .i64 s2, .int .i64 d2, .int .i64 g2], .bool true, .int .i64 clock] w fun e w' => e = .returned (.tuple #[.agg #[.string c, .int .i64 v, .string h, .int .i64 p, .int .i64 s, .int .i64 d, .int .i64 g, .int .i64 4, .int .i64 d, .int .i64 i, .int .i64 u], .bool true]) ∧ Below w.heap.size w w' := by
  go_enter Try.func20, Try.ntmps20
  go_wp2_with (first | (go_at_call 43; refine (specAlive_x c h v p s d g 3 b i u _).mono ?_; rintro e w' ⟨rfl, rfl⟩))
  exact bodyPost_ret (v := .tuple #[.agg #[.string c, .int .i64 v, .string h, .int .i64 p, .int .i64 s, .int .i64 d, .int .i64 g, .int .i64 4, .int .i64 d, .int .i64 i, .int .i64 u], .bool true]) (by simp [results, Try.results20, go_sem]) rfl ⟨rfl, by repeat (first | exact Below.refl _ _ | refine bl_alloc ?_ _ | refine bl_drew ?_)⟩

set_option maxHeartbeats 2000000 in
theorem specLive_T4z (c h c2 h2 : ByteArray) (v p s d g b i u v2 p2 s2 d2 g2 clock : Int) (w : World) (hb : b ≤ 0) (hb1 : (b == 1) = false) (hne : ∀ w, Sem.run Try.prog (binOp .neq 37 (.agg #[.string c2, .int .i64 v2, .string h2, .int .i64 p2, .int .i64 s2, .int .i64 d2, .int .i64 g2]) (.agg #[.string c, .int .i64 v, .string h, .int .i64 p, .int .i64 s, .int .i64 d, .int .i64 g])) w = .ok (.bool false) w) :
    Calls Try.prog 20 #[.agg #[.string c, .int .i64 v, .string h, .int .i64 p, .int .i64 s, .int .i64 d, .int .i64 g, .int .i64 4, .int .i64 b, .int .i64 i, .int .i64 u], .agg #[.string c2, .int .i64 v2, .string h2, .int .i64 p2, .int .i64 s2, .int .i64 d2, .int .i64 g2], .bool true, .int .i64 clock] w fun e w' => e = .returned (.tuple #[.agg #[.string c, .int .i64 v, .string h, .int .i64 p, .int .i64 s, .int .i64 d, .int .i64 g, .int .i64 4, .int .i64 b, .int .i64 i, .int .i64 u], .bool true]) ∧ Below w.heap.size w w' := by
  go_enter Try.func20, Try.ntmps20
  go_wp2_with (first | (go_at_call 43; refine (specAlive_x c h v p s d g 4 b i u _).mono ?_; rintro e w' ⟨rfl, rfl⟩))
  exact bodyPost_ret (v := .tuple #[.agg #[.string c, .int .i64 v, .string h, .int .i64 p, .int .i64 s, .int .i64 d, .int .i64 g, .int .i64 4, .int .i64 b, .int .i64 i, .int .i64 u], .bool true]) (by simp [results, Try.results20, go_sem]) rfl ⟨rfl, by repeat (first | exact Below.refl _ _ | refine bl_alloc ?_ _ | refine bl_drew ?_)⟩

set_option maxHeartbeats 2000000 in
theorem specLive_T4e (c h c2 h2 : ByteArray) (v p s d g i u v2 p2 s2 d2 g2 clock : Int) (w : World) (hi : 1000 ≤ i) (hne : ∀ w, Sem.run Try.prog (binOp .neq 37 (.agg #[.string c2, .int .i64 v2, .string h2, .int .i64 p2, .int .i64 s2, .int .i64 d2, .int .i64 g2]) (.agg #[.string c, .int .i64 v, .string h, .int .i64 p, .int .i64 s, .int .i64 d, .int .i64 g])) w = .ok (.bool false) w) :
    Calls Try.prog 20 #[.agg #[.string c, .int .i64 v, .string h, .int .i64 p, .int .i64 s, .int .i64 d, .int .i64 g, .int .i64 4, .int .i64 1, .int .i64 i, .int .i64 u], .agg #[.string c2, .int .i64 v2, .string h2, .int .i64 p2, .int .i64 s2, .int .i64 d2, .int .i64 g2], .bool true, .int .i64 clock] w fun e w' => e = .returned (.tuple #[.agg #[.string c, .int .i64 v, .string h, .int .i64 p, .int .i64 s, .int .i64 d, .int .i64 g, .int .i64 5, .int .i64 (boff i), .int .i64 i, .int .i64 u], .bool true]) ∧ Below w.heap.size w w' := by
  go_enter Try.func20, Try.ntmps20
  go_wp2_with (first | (go_at_call 43; refine (specAlive_x c h v p s d g 4 1 i u _).mono ?_; rintro e w' ⟨rfl, rfl⟩) | (go_at_call 48; refine (l3Dies_ge c h v p s d g 4 1 i u _ hi).mono ?_; rintro e w' ⟨rfl, rfl⟩))
  exact bodyPost_ret (v := .tuple #[.agg #[.string c, .int .i64 v, .string h, .int .i64 p, .int .i64 s, .int .i64 d, .int .i64 g, .int .i64 5, .int .i64 (boff i), .int .i64 i, .int .i64 u], .bool true]) (by simp [results, Try.results20, go_sem]) rfl ⟨rfl, by repeat (first | exact Below.refl _ _ | refine bl_alloc ?_ _ | refine bl_drew ?_)⟩

set_option maxHeartbeats 2000000 in
theorem specLive_Ob (c h c2 h2 : ByteArray) (v p s d g a b i u v2 p2 s2 d2 g2 clock : Int) (w : World) (k1 : (a == 1) = false) (k2 : (a != 2) = true) (k2' : (a == 2) = false) (k3 : (a == 3) = false) (k4 : (a == 4) = false) (k5 : (a == 5) = false) (k6 : (a == 6) = false) (k6' : (a != 6) = true) (hb : b ≤ 1) (hne : ∀ w, Sem.run Try.prog (binOp .neq 37 (.agg #[.string c2, .int .i64 v2, .string h2, .int .i64 p2, .int .i64 s2, .int .i64 d2, .int .i64 g2]) (.agg #[.string c, .int .i64 v, .string h, .int .i64 p, .int .i64 s, .int .i64 d, .int .i64 g])) w = .ok (.bool false) w) :
    Calls Try.prog 20 #[.agg #[.string c, .int .i64 v, .string h, .int .i64 p, .int .i64 s, .int .i64 d, .int .i64 g, .int .i64 a, .int .i64 b, .int .i64 i, .int .i64 u], .agg #[.string c2, .int .i64 v2, .string h2, .int .i64 p2, .int .i64 s2, .int .i64 d2, .int .i64 g2], .bool true, .int .i64 clock] w fun e w' => e = .returned (.tuple #[.agg #[.string c, .int .i64 v, .string h, .int .i64 p, .int .i64 s, .int .i64 d, .int .i64 g, .int .i64 a, .int .i64 b, .int .i64 i, .int .i64 u], .bool true]) ∧ Below w.heap.size w w' := by
  go_enter Try.func20, Try.ntmps20
  go_wp2_with (first | (go_at_call 43; refine (specAlive_x c h v p s d g a b i u _).mono ?_; rintro e w' ⟨rfl, rfl⟩))
  exact bodyPost_ret (v := .tuple #[.agg #[.string c, .int .i64 v, .string h, .int .i64 p, .int .i64 s, .int .i64 d, .int .i64 g, .int .i64 a, .int .i64 b, .int .i64 i, .int .i64 u], .bool true]) (by simp [results, Try.results20, go_sem]) rfl ⟨rfl, by repeat (first | exact Below.refl _ _ | refine bl_alloc ?_ _ | refine bl_drew ?_)⟩
end Go.Proofs.Ytmfcnckhgeggkab
