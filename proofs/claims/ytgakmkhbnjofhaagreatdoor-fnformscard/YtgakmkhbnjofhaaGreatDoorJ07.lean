import Derived.Test.YtgakmkhbnjofhaaGreatDoorJ06
import Derived.Test.YtgakmkhbnjofhaaGreatDoorJ05
import Derived.Deep.RegionHeld3
namespace Go.Proofs.YtgakmkhbnjofhaaGreatDoor
open Go.RowKit
set_option linter.unusedVariables false
def leftB (a b : Int) : Bool := if a = 2 then b == 0 else inB b 0 100
def untilB (h : ByteArray) (u : Int) : Bool := if h.toList.isEmpty = true then u == 0 else inB u 0 1000016
def runB (c h : ByteArray) (v p s d g a b i u clock : Int) : Bool := wantB c h v p s d g && (inB a 1 6 && (leftB a b && (inB i 0 1000 && (untilB h u && (!aliveB a || leasedB h u clock)))))
theorem boxlt {w w1 : World} {o : Obj} (h : Below (w.alloc o).heap.size (w.alloc o) w1) : w.heap.size < w1.heap.size := by have := h.size; simp at this; omega
theorem known_any (a : Int) (w : World) : Calls Tryz.prog 65 #[.int .i64 a] w fun e w' => e = .returned (.bool (inB a 1 6)) ∧ w' = w := by
 go_enter Tryz.func65, Tryz.ntmps65
 go_wp2_with (go_at_call 67; refine (within_any _ _ _ _).mono ?_; rintro e w' ⟨rfl, rfl⟩)
 go_ret
 exact ⟨rfl, rfl⟩
theorem leftOk_any (c h : ByteArray) (v p s d g a b i u : Int) (w : World) :
  Calls Tryz.prog 66 #[.agg #[.string c, .int .i64 v, .string h, .int .i64 p, .int .i64 s, .int .i64 d, .int .i64 g, .int .i64 a, .int .i64 b, .int .i64 i, .int .i64 u]] w fun e w' => e = .returned (.bool (leftB a b)) ∧ w' = w.alloc (.cells #[.string c, .int .i64 v, .string h, .int .i64 p, .int .i64 s, .int .i64 d, .int .i64 g, .int .i64 a, .int .i64 b, .int .i64 i, .int .i64 u] 83) := by
 by_cases h2 : a = 2
 ·
  subst h2
  go_enter Tryz.func66, Tryz.ntmps66
  go_wp2
  go_ret
  exact ⟨ret_b (by simp [leftB]), rfl⟩
 ·
  have e2 : (a == 2) = false := by simpa using h2
  have Hl : Hid (leftB a b = inB b 0 100) := by show leftB a b = _; simp [leftB, h2]
  clear h2
  go_enter Tryz.func66, Tryz.ntmps66
  go_wp2_with (go_at_call 67; refine (within_any _ _ _ _).mono ?_; rintro e w' ⟨rfl, rfl⟩)
  go_ret
  exact ⟨ret_b Hl.out.symm, rfl⟩
theorem untilOk_any (c h : ByteArray) (v p s d g a b i u : Int) (w : World) :
  Calls Tryz.prog 68 #[.agg #[.string c, .int .i64 v, .string h, .int .i64 p, .int .i64 s, .int .i64 d, .int .i64 g, .int .i64 a, .int .i64 b, .int .i64 i, .int .i64 u]] w fun e w' => e = .returned (.bool (untilB h u)) ∧ w' = w.alloc (.cells #[.string c, .int .i64 v, .string h, .int .i64 p, .int .i64 s, .int .i64 d, .int .i64 g, .int .i64 a, .int .i64 b, .int .i64 i, .int .i64 u] 83) := by
 cases he : h.toList.isEmpty
 ·
  have Hl : Hid (untilB h u = inB u 0 1000016) := by show untilB h u = _; simp [untilB, he]
  go_enter Tryz.func68, Tryz.ntmps68
  go_wp2_with (go_at_call 67; refine (within_any _ _ _ _).mono ?_; rintro e w' ⟨rfl, rfl⟩)
  go_ret
  exact ⟨ret_b Hl.out.symm, rfl⟩
 ·
  have Hl : Hid (untilB h u = (u == 0)) := by show untilB h u = _; simp [untilB, he]
  go_enter Tryz.func68, Tryz.ntmps68
  go_wp2
  go_ret
  exact ⟨ret_b Hl.out.symm, rfl⟩
set_option maxHeartbeats 2000000 in
theorem implRunOk_any (c h : ByteArray) (v p s d g a b i u clock : Int) (w : World) (hc : c.size ≤ maxLen) (hh : h.size ≤ maxLen) :
  Calls Tryz.prog 50 #[.agg #[.string c, .int .i64 v, .string h, .int .i64 p, .int .i64 s, .int .i64 d, .int .i64 g, .int .i64 a, .int .i64 b, .int .i64 i, .int .i64 u], .int .i64 clock] w fun e w' => e = .returned (.bool (runB c h v p s d g a b i u clock)) ∧ Below w.heap.size w w' := by
 cases q0 : wantB c h v p s d g
 ·
  go_enter Tryz.func50, Tryz.ntmps50
  go_wp2_with (first | (go_at_call 62; refine (implWant_any c h v p s d g _ hc hh).mono ?_; rintro e w' ⟨rfl, hb⟩; have hk := box_keep hb; have hz := boxlt hb) | (go_at_call 65; refine (known_any a _).mono ?_; rintro e w' ⟨rfl, rfl⟩) | (go_at_call 66; refine (leftOk_any c h v p s d g a b i u _).mono ?_; rintro e w' ⟨rfl, rfl⟩) | (go_at_call 67; refine (within_any _ _ _ _).mono ?_; rintro e w' ⟨rfl, rfl⟩) | (go_at_call 68; refine (untilOk_any c h v p s d g a b i u _).mono ?_; rintro e w' ⟨rfl, rfl⟩) | (go_at_call 69; refine (alive_any a _).mono ?_; rintro e w' ⟨rfl, rfl⟩) | (go_at_call 70; refine (mayLive_any c h v p s d g a b i u clock _).mono ?_; rintro e w' ⟨rfl, rfl⟩))
  go_ret
  exact ⟨ret_b (by simp [runB, *]), by repeat (first | exact bl_trans (bl_alloc (Below.refl _ _) _) hb | refine bl_alloc ?_ _ | refine bl_drew ?_)⟩
 ·
  skip
  cases q1 : inB a 1 6
  ·
   go_enter Tryz.func50, Tryz.ntmps50
   go_wp2_with (first | (go_at_call 62; refine (implWant_any c h v p s d g _ hc hh).mono ?_; rintro e w' ⟨rfl, hb⟩; have hk := box_keep hb; have hz := boxlt hb) | (go_at_call 65; refine (known_any a _).mono ?_; rintro e w' ⟨rfl, rfl⟩) | (go_at_call 66; refine (leftOk_any c h v p s d g a b i u _).mono ?_; rintro e w' ⟨rfl, rfl⟩) | (go_at_call 67; refine (within_any _ _ _ _).mono ?_; rintro e w' ⟨rfl, rfl⟩) | (go_at_call 68; refine (untilOk_any c h v p s d g a b i u _).mono ?_; rintro e w' ⟨rfl, rfl⟩) | (go_at_call 69; refine (alive_any a _).mono ?_; rintro e w' ⟨rfl, rfl⟩) | (go_at_call 70; refine (mayLive_any c h v p s d g a b i u clock _).mono ?_; rintro e w' ⟨rfl, rfl⟩))
   go_ret
   exact ⟨ret_b (by simp [runB, *]), by repeat (first | exact bl_trans (bl_alloc (Below.refl _ _) _) hb | refine bl_alloc ?_ _ | refine bl_drew ?_)⟩
  ·
   skip
   cases q2 : leftB a b
   ·
    go_enter Tryz.func50, Tryz.ntmps50
    go_wp2_with (first | (go_at_call 62; refine (implWant_any c h v p s d g _ hc hh).mono ?_; rintro e w' ⟨rfl, hb⟩; have hk := box_keep hb; have hz := boxlt hb) | (go_at_call 65; refine (known_any a _).mono ?_; rintro e w' ⟨rfl, rfl⟩) | (go_at_call 66; refine (leftOk_any c h v p s d g a b i u _).mono ?_; rintro e w' ⟨rfl, rfl⟩) | (go_at_call 67; refine (within_any _ _ _ _).mono ?_; rintro e w' ⟨rfl, rfl⟩) | (go_at_call 68; refine (untilOk_any c h v p s d g a b i u _).mono ?_; rintro e w' ⟨rfl, rfl⟩) | (go_at_call 69; refine (alive_any a _).mono ?_; rintro e w' ⟨rfl, rfl⟩) | (go_at_call 70; refine (mayLive_any c h v p s d g a b i u clock _).mono ?_; rintro e w' ⟨rfl, rfl⟩))
    go_ret
    exact ⟨ret_b (by simp [runB, *]), by repeat (first | exact bl_trans (bl_alloc (Below.refl _ _) _) hb | refine bl_alloc ?_ _ | refine bl_drew ?_)⟩
   ·
    skip
    cases q3 : inB i 0 1000
    ·
     go_enter Tryz.func50, Tryz.ntmps50
     go_wp2_with (first | (go_at_call 62; refine (implWant_any c h v p s d g _ hc hh).mono ?_; rintro e w' ⟨rfl, hb⟩; have hk := box_keep hb; have hz := boxlt hb) | (go_at_call 65; refine (known_any a _).mono ?_; rintro e w' ⟨rfl, rfl⟩) | (go_at_call 66; refine (leftOk_any c h v p s d g a b i u _).mono ?_; rintro e w' ⟨rfl, rfl⟩) | (go_at_call 67; refine (within_any _ _ _ _).mono ?_; rintro e w' ⟨rfl, rfl⟩) | (go_at_call 68; refine (untilOk_any c h v p s d g a b i u _).mono ?_; rintro e w' ⟨rfl, rfl⟩) | (go_at_call 69; refine (alive_any a _).mono ?_; rintro e w' ⟨rfl, rfl⟩) | (go_at_call 70; refine (mayLive_any c h v p s d g a b i u clock _).mono ?_; rintro e w' ⟨rfl, rfl⟩))
     go_ret
     exact ⟨ret_b (by simp [runB, *]), by repeat (first | exact bl_trans (bl_alloc (Below.refl _ _) _) hb | refine bl_alloc ?_ _ | refine bl_drew ?_)⟩
    ·
     skip
     cases q4 : untilB h u
     ·
      go_enter Tryz.func50, Tryz.ntmps50
      go_wp2_with (first | (go_at_call 62; refine (implWant_any c h v p s d g _ hc hh).mono ?_; rintro e w' ⟨rfl, hb⟩; have hk := box_keep hb; have hz := boxlt hb) | (go_at_call 65; refine (known_any a _).mono ?_; rintro e w' ⟨rfl, rfl⟩) | (go_at_call 66; refine (leftOk_any c h v p s d g a b i u _).mono ?_; rintro e w' ⟨rfl, rfl⟩) | (go_at_call 67; refine (within_any _ _ _ _).mono ?_; rintro e w' ⟨rfl, rfl⟩) | (go_at_call 68; refine (untilOk_any c h v p s d g a b i u _).mono ?_; rintro e w' ⟨rfl, rfl⟩) | (go_at_call 69; refine (alive_any a _).mono ?_; rintro e w' ⟨rfl, rfl⟩) | (go_at_call 70; refine (mayLive_any c h v p s d g a b i u clock _).mono ?_; rintro e w' ⟨rfl, rfl⟩))
      go_ret
      exact ⟨ret_b (by simp [runB, *]), by repeat (first | exact bl_trans (bl_alloc (Below.refl _ _) _) hb | refine bl_alloc ?_ _ | refine bl_drew ?_)⟩
     ·
      skip
      cases q5 : aliveB a
      ·
       go_enter Tryz.func50, Tryz.ntmps50
       go_wp2_with (first | (go_at_call 62; refine (implWant_any c h v p s d g _ hc hh).mono ?_; rintro e w' ⟨rfl, hb⟩; have hk := box_keep hb; have hz := boxlt hb) | (go_at_call 65; refine (known_any a _).mono ?_; rintro e w' ⟨rfl, rfl⟩) | (go_at_call 66; refine (leftOk_any c h v p s d g a b i u _).mono ?_; rintro e w' ⟨rfl, rfl⟩) | (go_at_call 67; refine (within_any _ _ _ _).mono ?_; rintro e w' ⟨rfl, rfl⟩) | (go_at_call 68; refine (untilOk_any c h v p s d g a b i u _).mono ?_; rintro e w' ⟨rfl, rfl⟩) | (go_at_call 69; refine (alive_any a _).mono ?_; rintro e w' ⟨rfl, rfl⟩) | (go_at_call 70; refine (mayLive_any c h v p s d g a b i u clock _).mono ?_; rintro e w' ⟨rfl, rfl⟩))
       go_ret
       exact ⟨ret_b (by simp [runB, *]), by repeat (first | exact bl_trans (bl_alloc (Below.refl _ _) _) hb | refine bl_alloc ?_ _ | refine bl_drew ?_)⟩
      ·
       cases q6 : leasedB h u clock
       ·
        go_enter Tryz.func50, Tryz.ntmps50
        go_wp2_with (first | (go_at_call 62; refine (implWant_any c h v p s d g _ hc hh).mono ?_; rintro e w' ⟨rfl, hb⟩; have hk := box_keep hb; have hz := boxlt hb) | (go_at_call 65; refine (known_any a _).mono ?_; rintro e w' ⟨rfl, rfl⟩) | (go_at_call 66; refine (leftOk_any c h v p s d g a b i u _).mono ?_; rintro e w' ⟨rfl, rfl⟩) | (go_at_call 67; refine (within_any _ _ _ _).mono ?_; rintro e w' ⟨rfl, rfl⟩) | (go_at_call 68; refine (untilOk_any c h v p s d g a b i u _).mono ?_; rintro e w' ⟨rfl, rfl⟩) | (go_at_call 69; refine (alive_any a _).mono ?_; rintro e w' ⟨rfl, rfl⟩) | (go_at_call 70; refine (mayLive_any c h v p s d g a b i u clock _).mono ?_; rintro e w' ⟨rfl, rfl⟩))
        go_ret
        exact ⟨ret_b (by simp [runB, *]), by repeat (first | exact bl_trans (bl_alloc (Below.refl _ _) _) hb | refine bl_alloc ?_ _ | refine bl_drew ?_)⟩
       ·
        go_enter Tryz.func50, Tryz.ntmps50
        go_wp2_with (first | (go_at_call 62; refine (implWant_any c h v p s d g _ hc hh).mono ?_; rintro e w' ⟨rfl, hb⟩; have hk := box_keep hb; have hz := boxlt hb) | (go_at_call 65; refine (known_any a _).mono ?_; rintro e w' ⟨rfl, rfl⟩) | (go_at_call 66; refine (leftOk_any c h v p s d g a b i u _).mono ?_; rintro e w' ⟨rfl, rfl⟩) | (go_at_call 67; refine (within_any _ _ _ _).mono ?_; rintro e w' ⟨rfl, rfl⟩) | (go_at_call 68; refine (untilOk_any c h v p s d g a b i u _).mono ?_; rintro e w' ⟨rfl, rfl⟩) | (go_at_call 69; refine (alive_any a _).mono ?_; rintro e w' ⟨rfl, rfl⟩) | (go_at_call 70; refine (mayLive_any c h v p s d g a b i u clock _).mono ?_; rintro e w' ⟨rfl, rfl⟩))
        go_ret
        exact ⟨ret_b (by simp [runB, *]), by repeat (first | exact bl_trans (bl_alloc (Below.refl _ _) _) hb | refine bl_alloc ?_ _ | refine bl_drew ?_)⟩
theorem runB_eq (c h : ByteArray) (v p s d g a b i u clock : Int) : runB c h v p s d g a b i u clock = (wantB c h v p s d g && (inB a 1 6 && (inB b 0 100 && (!((a == 2) && (b != 0)) && (inB i 0 1000 && (inB u 0 1000016 && (!(h.toList.isEmpty && (u != 0)) && (!aliveB a || leasedB h u clock)))))))) := by
 have e1 : leftB a b = (inB b 0 100 && !((a == 2) && (b != 0))) := by
  unfold leftB
  by_cases h2 : a = 2
  ·
   rw [if_pos h2]; by_cases h0 : b = 0
   ·
    simp [h2, h0, inB]
   ·
    rw [show (b == 0) = false from by simpa using h0, show (b != 0) = true from by simpa using h0]; simp [h2]
  ·
   rw [if_neg h2]; simp [h2]
 have e2 : untilB h u = (inB u 0 1000016 && !(h.toList.isEmpty && (u != 0))) := by
  unfold untilB
  cases he : h.toList.isEmpty
  ·
   simp
  ·
   by_cases h0 : u = 0
   ·
    simp [h0, inB]
   ·
    rw [show (u == 0) = false from by simpa using h0, show (u != 0) = true from by simpa using h0]; simp
 rw [runB, e1, e2]
 cases wantB c h v p s d g <;> cases inB a 1 6 <;> cases inB b 0 100 <;> cases inB i 0 1000 <;> simp [Bool.and_assoc]
set_option maxHeartbeats 2000000 in
theorem specRunOk_any (c h : ByteArray) (v p s d g a b i u clock : Int) (w : World) (hc : c.size ≤ maxLen) (hh : h.size ≤ maxLen) :
  Calls Tryz.prog 51 #[.agg #[.string c, .int .i64 v, .string h, .int .i64 p, .int .i64 s, .int .i64 d, .int .i64 g, .int .i64 a, .int .i64 b, .int .i64 i, .int .i64 u], .int .i64 clock] w fun e w' => e = .returned (.bool (runB c h v p s d g a b i u clock)) ∧ Below w.heap.size w w' := by
 have hr := runB_eq c h v p s d g a b i u clock
 cases q0 : wantB c h v p s d g
 ·
  have Hr : Hid _ := hr
  clear hr
  go_enter Tryz.func51, Tryz.ntmps51
  go_wp2_with (first | (go_at_call 44; refine (specWant_any c h v p s d g _ hc hh).mono ?_; rintro e w' ⟨rfl, rfl⟩) | (go_at_call 27; refine (specIn_any _ _ _ _).mono ?_; rintro e w' ⟨rfl, rfl⟩) | (go_at_call 71; refine (specAlive_x c h v p s d g a b i u _).mono ?_; rintro e w' ⟨rfl, rfl⟩) | (go_at_call 72; refine (leased_any c h v p s d g a b i u clock _).mono ?_; rintro e w' ⟨rfl, rfl⟩))
  go_ret
  exact ⟨ret_b (by rw [Hr.out]; simp [*]), by repeat (first | exact Below.refl _ _ | refine bl_alloc ?_ _ | refine bl_drew ?_)⟩
 ·
  skip
  cases q1 : inB a 1 6
  ·
   have Hr : Hid _ := hr
   clear hr
   go_enter Tryz.func51, Tryz.ntmps51
   go_wp2_with (first | (go_at_call 44; refine (specWant_any c h v p s d g _ hc hh).mono ?_; rintro e w' ⟨rfl, rfl⟩) | (go_at_call 27; refine (specIn_any _ _ _ _).mono ?_; rintro e w' ⟨rfl, rfl⟩) | (go_at_call 71; refine (specAlive_x c h v p s d g a b i u _).mono ?_; rintro e w' ⟨rfl, rfl⟩) | (go_at_call 72; refine (leased_any c h v p s d g a b i u clock _).mono ?_; rintro e w' ⟨rfl, rfl⟩))
   go_ret
   exact ⟨ret_b (by rw [Hr.out]; simp [*]), by repeat (first | exact Below.refl _ _ | refine bl_alloc ?_ _ | refine bl_drew ?_)⟩
  ·
   skip
   cases q2 : inB b 0 100
   ·
    have Hr : Hid _ := hr
    clear hr
    go_enter Tryz.func51, Tryz.ntmps51
    go_wp2_with (first | (go_at_call 44; refine (specWant_any c h v p s d g _ hc hh).mono ?_; rintro e w' ⟨rfl, rfl⟩) | (go_at_call 27; refine (specIn_any _ _ _ _).mono ?_; rintro e w' ⟨rfl, rfl⟩) | (go_at_call 71; refine (specAlive_x c h v p s d g a b i u _).mono ?_; rintro e w' ⟨rfl, rfl⟩) | (go_at_call 72; refine (leased_any c h v p s d g a b i u clock _).mono ?_; rintro e w' ⟨rfl, rfl⟩))
    go_ret
    exact ⟨ret_b (by rw [Hr.out]; simp [*]), by repeat (first | exact Below.refl _ _ | refine bl_alloc ?_ _ | refine bl_drew ?_)⟩
   ·
    skip
    have hp : ((a == 2) = true ∧ (b != 0) = true) ∨ ((a == 2) = false) ∨ ((a == 2) = true ∧ (b != 0) = false) := by cases (a == 2) <;> cases (b != 0) <;> simp
    rcases hp with ⟨q3, r3⟩ | q3 | ⟨q3, r3⟩
    ·
     have Hr : Hid _ := hr
     clear hr
     go_enter Tryz.func51, Tryz.ntmps51
     go_wp2_with (first | (go_at_call 44; refine (specWant_any c h v p s d g _ hc hh).mono ?_; rintro e w' ⟨rfl, rfl⟩) | (go_at_call 27; refine (specIn_any _ _ _ _).mono ?_; rintro e w' ⟨rfl, rfl⟩) | (go_at_call 71; refine (specAlive_x c h v p s d g a b i u _).mono ?_; rintro e w' ⟨rfl, rfl⟩) | (go_at_call 72; refine (leased_any c h v p s d g a b i u clock _).mono ?_; rintro e w' ⟨rfl, rfl⟩))
     go_ret
     exact ⟨ret_b (by rw [Hr.out]; simp [*]), by repeat (first | exact Below.refl _ _ | refine bl_alloc ?_ _ | refine bl_drew ?_)⟩
    ·
     skip
     cases q4 : inB i 0 1000
     ·
      have Hr : Hid _ := hr
      clear hr
      go_enter Tryz.func51, Tryz.ntmps51
      go_wp2_with (first | (go_at_call 44; refine (specWant_any c h v p s d g _ hc hh).mono ?_; rintro e w' ⟨rfl, rfl⟩) | (go_at_call 27; refine (specIn_any _ _ _ _).mono ?_; rintro e w' ⟨rfl, rfl⟩) | (go_at_call 71; refine (specAlive_x c h v p s d g a b i u _).mono ?_; rintro e w' ⟨rfl, rfl⟩) | (go_at_call 72; refine (leased_any c h v p s d g a b i u clock _).mono ?_; rintro e w' ⟨rfl, rfl⟩))
      go_ret
      exact ⟨ret_b (by rw [Hr.out]; simp [*]), by repeat (first | exact Below.refl _ _ | refine bl_alloc ?_ _ | refine bl_drew ?_)⟩
     ·
      skip
      cases q5 : inB u 0 1000016
      ·
       have Hr : Hid _ := hr
       clear hr
       go_enter Tryz.func51, Tryz.ntmps51
       go_wp2_with (first | (go_at_call 44; refine (specWant_any c h v p s d g _ hc hh).mono ?_; rintro e w' ⟨rfl, rfl⟩) | (go_at_call 27; refine (specIn_any _ _ _ _).mono ?_; rintro e w' ⟨rfl, rfl⟩) | (go_at_call 71; refine (specAlive_x c h v p s d g a b i u _).mono ?_; rintro e w' ⟨rfl, rfl⟩) | (go_at_call 72; refine (leased_any c h v p s d g a b i u clock _).mono ?_; rintro e w' ⟨rfl, rfl⟩))
       go_ret
       exact ⟨ret_b (by rw [Hr.out]; simp [*]), by repeat (first | exact Below.refl _ _ | refine bl_alloc ?_ _ | refine bl_drew ?_)⟩
      ·
       skip
       have hp : (h.toList.isEmpty = true ∧ (u != 0) = true) ∨ (h.toList.isEmpty = false) ∨ (h.toList.isEmpty = true ∧ (u != 0) = false) := by cases h.toList.isEmpty <;> cases (u != 0) <;> simp
       rcases hp with ⟨q6, r6⟩ | q6 | ⟨q6, r6⟩
       ·
        have Hr : Hid _ := hr
        clear hr
        go_enter Tryz.func51, Tryz.ntmps51
        go_wp2_with (first | (go_at_call 44; refine (specWant_any c h v p s d g _ hc hh).mono ?_; rintro e w' ⟨rfl, rfl⟩) | (go_at_call 27; refine (specIn_any _ _ _ _).mono ?_; rintro e w' ⟨rfl, rfl⟩) | (go_at_call 71; refine (specAlive_x c h v p s d g a b i u _).mono ?_; rintro e w' ⟨rfl, rfl⟩) | (go_at_call 72; refine (leased_any c h v p s d g a b i u clock _).mono ?_; rintro e w' ⟨rfl, rfl⟩))
        go_ret
        exact ⟨ret_b (by rw [Hr.out]; simp [*]), by repeat (first | exact Below.refl _ _ | refine bl_alloc ?_ _ | refine bl_drew ?_)⟩
       ·
        skip
        cases q7 : aliveB a
        ·
         have Hr : Hid _ := hr
         clear hr
         go_enter Tryz.func51, Tryz.ntmps51
         go_wp2_with (first | (go_at_call 44; refine (specWant_any c h v p s d g _ hc hh).mono ?_; rintro e w' ⟨rfl, rfl⟩) | (go_at_call 27; refine (specIn_any _ _ _ _).mono ?_; rintro e w' ⟨rfl, rfl⟩) | (go_at_call 71; refine (specAlive_x c h v p s d g a b i u _).mono ?_; rintro e w' ⟨rfl, rfl⟩) | (go_at_call 72; refine (leased_any c h v p s d g a b i u clock _).mono ?_; rintro e w' ⟨rfl, rfl⟩))
         go_ret
         exact ⟨ret_b (by rw [Hr.out]; simp [*]), by repeat (first | exact Below.refl _ _ | refine bl_alloc ?_ _ | refine bl_drew ?_)⟩
        ·
         cases q8 : leasedB h u clock
         ·
          have Hr : Hid _ := hr
          clear hr
          go_enter Tryz.func51, Tryz.ntmps51
          go_wp2_with (first | (go_at_call 44; refine (specWant_any c h v p s d g _ hc hh).mono ?_; rintro e w' ⟨rfl, rfl⟩) | (go_at_call 27; refine (specIn_any _ _ _ _).mono ?_; rintro e w' ⟨rfl, rfl⟩) | (go_at_call 71; refine (specAlive_x c h v p s d g a b i u _).mono ?_; rintro e w' ⟨rfl, rfl⟩) | (go_at_call 72; refine (leased_any c h v p s d g a b i u clock _).mono ?_; rintro e w' ⟨rfl, rfl⟩))
          go_ret
          exact ⟨ret_b (by rw [Hr.out]; simp [*]), by repeat (first | exact Below.refl _ _ | refine bl_alloc ?_ _ | refine bl_drew ?_)⟩
         ·
          have Hr : Hid _ := hr
          clear hr
          go_enter Tryz.func51, Tryz.ntmps51
          go_wp2_with (first | (go_at_call 44; refine (specWant_any c h v p s d g _ hc hh).mono ?_; rintro e w' ⟨rfl, rfl⟩) | (go_at_call 27; refine (specIn_any _ _ _ _).mono ?_; rintro e w' ⟨rfl, rfl⟩) | (go_at_call 71; refine (specAlive_x c h v p s d g a b i u _).mono ?_; rintro e w' ⟨rfl, rfl⟩) | (go_at_call 72; refine (leased_any c h v p s d g a b i u clock _).mono ?_; rintro e w' ⟨rfl, rfl⟩))
          go_ret
          exact ⟨ret_b (by rw [Hr.out]; simp [*]), by repeat (first | exact Below.refl _ _ | refine bl_alloc ?_ _ | refine bl_drew ?_)⟩
       ·
        skip
        cases q7 : aliveB a
        ·
         have Hr : Hid _ := hr
         clear hr
         go_enter Tryz.func51, Tryz.ntmps51
         go_wp2_with (first | (go_at_call 44; refine (specWant_any c h v p s d g _ hc hh).mono ?_; rintro e w' ⟨rfl, rfl⟩) | (go_at_call 27; refine (specIn_any _ _ _ _).mono ?_; rintro e w' ⟨rfl, rfl⟩) | (go_at_call 71; refine (specAlive_x c h v p s d g a b i u _).mono ?_; rintro e w' ⟨rfl, rfl⟩) | (go_at_call 72; refine (leased_any c h v p s d g a b i u clock _).mono ?_; rintro e w' ⟨rfl, rfl⟩))
         go_ret
         exact ⟨ret_b (by rw [Hr.out]; simp [*]), by repeat (first | exact Below.refl _ _ | refine bl_alloc ?_ _ | refine bl_drew ?_)⟩
        ·
         cases q8 : leasedB h u clock
         ·
          have Hr : Hid _ := hr
          clear hr
          go_enter Tryz.func51, Tryz.ntmps51
          go_wp2_with (first | (go_at_call 44; refine (specWant_any c h v p s d g _ hc hh).mono ?_; rintro e w' ⟨rfl, rfl⟩) | (go_at_call 27; refine (specIn_any _ _ _ _).mono ?_; rintro e w' ⟨rfl, rfl⟩) | (go_at_call 71; refine (specAlive_x c h v p s d g a b i u _).mono ?_; rintro e w' ⟨rfl, rfl⟩) | (go_at_call 72; refine (leased_any c h v p s d g a b i u clock _).mono ?_; rintro e w' ⟨rfl, rfl⟩))
          go_ret
          exact ⟨ret_b (by rw [Hr.out]; simp [*]), by repeat (first | exact Below.refl _ _ | refine bl_alloc ?_ _ | refine bl_drew ?_)⟩
         ·
          have Hr : Hid _ := hr
          clear hr
          go_enter Tryz.func51, Tryz.ntmps51
          go_wp2_with (first | (go_at_call 44; refine (specWant_any c h v p s d g _ hc hh).mono ?_; rintro e w' ⟨rfl, rfl⟩) | (go_at_call 27; refine (specIn_any _ _ _ _).mono ?_; rintro e w' ⟨rfl, rfl⟩) | (go_at_call 71; refine (specAlive_x c h v p s d g a b i u _).mono ?_; rintro e w' ⟨rfl, rfl⟩) | (go_at_call 72; refine (leased_any c h v p s d g a b i u clock _).mono ?_; rintro e w' ⟨rfl, rfl⟩))
          go_ret
          exact ⟨ret_b (by rw [Hr.out]; simp [*]), by repeat (first | exact Below.refl _ _ | refine bl_alloc ?_ _ | refine bl_drew ?_)⟩
    ·
     skip
     cases q4 : inB i 0 1000
     ·
      have Hr : Hid _ := hr
      clear hr
      go_enter Tryz.func51, Tryz.ntmps51
      go_wp2_with (first | (go_at_call 44; refine (specWant_any c h v p s d g _ hc hh).mono ?_; rintro e w' ⟨rfl, rfl⟩) | (go_at_call 27; refine (specIn_any _ _ _ _).mono ?_; rintro e w' ⟨rfl, rfl⟩) | (go_at_call 71; refine (specAlive_x c h v p s d g a b i u _).mono ?_; rintro e w' ⟨rfl, rfl⟩) | (go_at_call 72; refine (leased_any c h v p s d g a b i u clock _).mono ?_; rintro e w' ⟨rfl, rfl⟩))
      go_ret
      exact ⟨ret_b (by rw [Hr.out]; simp [*]), by repeat (first | exact Below.refl _ _ | refine bl_alloc ?_ _ | refine bl_drew ?_)⟩
     ·
      skip
      cases q5 : inB u 0 1000016
      ·
       have Hr : Hid _ := hr
       clear hr
       go_enter Tryz.func51, Tryz.ntmps51
       go_wp2_with (first | (go_at_call 44; refine (specWant_any c h v p s d g _ hc hh).mono ?_; rintro e w' ⟨rfl, rfl⟩) | (go_at_call 27; refine (specIn_any _ _ _ _).mono ?_; rintro e w' ⟨rfl, rfl⟩) | (go_at_call 71; refine (specAlive_x c h v p s d g a b i u _).mono ?_; rintro e w' ⟨rfl, rfl⟩) | (go_at_call 72; refine (leased_any c h v p s d g a b i u clock _).mono ?_; rintro e w' ⟨rfl, rfl⟩))
       go_ret
       exact ⟨ret_b (by rw [Hr.out]; simp [*]), by repeat (first | exact Below.refl _ _ | refine bl_alloc ?_ _ | refine bl_drew ?_)⟩
      ·
       skip
       have hp : (h.toList.isEmpty = true ∧ (u != 0) = true) ∨ (h.toList.isEmpty = false) ∨ (h.toList.isEmpty = true ∧ (u != 0) = false) := by cases h.toList.isEmpty <;> cases (u != 0) <;> simp
       rcases hp with ⟨q6, r6⟩ | q6 | ⟨q6, r6⟩
       ·
        have Hr : Hid _ := hr
        clear hr
        go_enter Tryz.func51, Tryz.ntmps51
        go_wp2_with (first | (go_at_call 44; refine (specWant_any c h v p s d g _ hc hh).mono ?_; rintro e w' ⟨rfl, rfl⟩) | (go_at_call 27; refine (specIn_any _ _ _ _).mono ?_; rintro e w' ⟨rfl, rfl⟩) | (go_at_call 71; refine (specAlive_x c h v p s d g a b i u _).mono ?_; rintro e w' ⟨rfl, rfl⟩) | (go_at_call 72; refine (leased_any c h v p s d g a b i u clock _).mono ?_; rintro e w' ⟨rfl, rfl⟩))
        go_ret
        exact ⟨ret_b (by rw [Hr.out]; simp [*]), by repeat (first | exact Below.refl _ _ | refine bl_alloc ?_ _ | refine bl_drew ?_)⟩
       ·
        skip
        cases q7 : aliveB a
        ·
         have Hr : Hid _ := hr
         clear hr
         go_enter Tryz.func51, Tryz.ntmps51
         go_wp2_with (first | (go_at_call 44; refine (specWant_any c h v p s d g _ hc hh).mono ?_; rintro e w' ⟨rfl, rfl⟩) | (go_at_call 27; refine (specIn_any _ _ _ _).mono ?_; rintro e w' ⟨rfl, rfl⟩) | (go_at_call 71; refine (specAlive_x c h v p s d g a b i u _).mono ?_; rintro e w' ⟨rfl, rfl⟩) | (go_at_call 72; refine (leased_any c h v p s d g a b i u clock _).mono ?_; rintro e w' ⟨rfl, rfl⟩))
         go_ret
         exact ⟨ret_b (by rw [Hr.out]; simp [*]), by repeat (first | exact Below.refl _ _ | refine bl_alloc ?_ _ | refine bl_drew ?_)⟩
        ·
         cases q8 : leasedB h u clock
         ·
          have Hr : Hid _ := hr
          clear hr
          go_enter Tryz.func51, Tryz.ntmps51
          go_wp2_with (first | (go_at_call 44; refine (specWant_any c h v p s d g _ hc hh).mono ?_; rintro e w' ⟨rfl, rfl⟩) | (go_at_call 27; refine (specIn_any _ _ _ _).mono ?_; rintro e w' ⟨rfl, rfl⟩) | (go_at_call 71; refine (specAlive_x c h v p s d g a b i u _).mono ?_; rintro e w' ⟨rfl, rfl⟩) | (go_at_call 72; refine (leased_any c h v p s d g a b i u clock _).mono ?_; rintro e w' ⟨rfl, rfl⟩))
          go_ret
          exact ⟨ret_b (by rw [Hr.out]; simp [*]), by repeat (first | exact Below.refl _ _ | refine bl_alloc ?_ _ | refine bl_drew ?_)⟩
         ·
          have Hr : Hid _ := hr
          clear hr
          go_enter Tryz.func51, Tryz.ntmps51
          go_wp2_with (first | (go_at_call 44; refine (specWant_any c h v p s d g _ hc hh).mono ?_; rintro e w' ⟨rfl, rfl⟩) | (go_at_call 27; refine (specIn_any _ _ _ _).mono ?_; rintro e w' ⟨rfl, rfl⟩) | (go_at_call 71; refine (specAlive_x c h v p s d g a b i u _).mono ?_; rintro e w' ⟨rfl, rfl⟩) | (go_at_call 72; refine (leased_any c h v p s d g a b i u clock _).mono ?_; rintro e w' ⟨rfl, rfl⟩))
          go_ret
          exact ⟨ret_b (by rw [Hr.out]; simp [*]), by repeat (first | exact Below.refl _ _ | refine bl_alloc ?_ _ | refine bl_drew ?_)⟩
       ·
        skip
        cases q7 : aliveB a
        ·
         have Hr : Hid _ := hr
         clear hr
         go_enter Tryz.func51, Tryz.ntmps51
         go_wp2_with (first | (go_at_call 44; refine (specWant_any c h v p s d g _ hc hh).mono ?_; rintro e w' ⟨rfl, rfl⟩) | (go_at_call 27; refine (specIn_any _ _ _ _).mono ?_; rintro e w' ⟨rfl, rfl⟩) | (go_at_call 71; refine (specAlive_x c h v p s d g a b i u _).mono ?_; rintro e w' ⟨rfl, rfl⟩) | (go_at_call 72; refine (leased_any c h v p s d g a b i u clock _).mono ?_; rintro e w' ⟨rfl, rfl⟩))
         go_ret
         exact ⟨ret_b (by rw [Hr.out]; simp [*]), by repeat (first | exact Below.refl _ _ | refine bl_alloc ?_ _ | refine bl_drew ?_)⟩
        ·
         cases q8 : leasedB h u clock
         ·
          have Hr : Hid _ := hr
          clear hr
          go_enter Tryz.func51, Tryz.ntmps51
          go_wp2_with (first | (go_at_call 44; refine (specWant_any c h v p s d g _ hc hh).mono ?_; rintro e w' ⟨rfl, rfl⟩) | (go_at_call 27; refine (specIn_any _ _ _ _).mono ?_; rintro e w' ⟨rfl, rfl⟩) | (go_at_call 71; refine (specAlive_x c h v p s d g a b i u _).mono ?_; rintro e w' ⟨rfl, rfl⟩) | (go_at_call 72; refine (leased_any c h v p s d g a b i u clock _).mono ?_; rintro e w' ⟨rfl, rfl⟩))
          go_ret
          exact ⟨ret_b (by rw [Hr.out]; simp [*]), by repeat (first | exact Below.refl _ _ | refine bl_alloc ?_ _ | refine bl_drew ?_)⟩
         ·
          have Hr : Hid _ := hr
          clear hr
          go_enter Tryz.func51, Tryz.ntmps51
          go_wp2_with (first | (go_at_call 44; refine (specWant_any c h v p s d g _ hc hh).mono ?_; rintro e w' ⟨rfl, rfl⟩) | (go_at_call 27; refine (specIn_any _ _ _ _).mono ?_; rintro e w' ⟨rfl, rfl⟩) | (go_at_call 71; refine (specAlive_x c h v p s d g a b i u _).mono ?_; rintro e w' ⟨rfl, rfl⟩) | (go_at_call 72; refine (leased_any c h v p s d g a b i u clock _).mono ?_; rintro e w' ⟨rfl, rfl⟩))
          go_ret
          exact ⟨ret_b (by rw [Hr.out]; simp [*]), by repeat (first | exact Below.refl _ _ | refine bl_alloc ?_ _ | refine bl_drew ?_)⟩
def RunD.ok (clock : Int) (r : RunD) : Bool := runB r.c r.h r.v r.p r.s r.d r.g r.a r.b r.i r.u clock
def ascB (q r : RunD) : Bool := Op.bytesLess q.c.toList r.c.toList
def stepOk (clock : Int) (rs : List RunD) (j : Nat) (r : RunD) : Bool := r.ok clock && (match j with | 0 => true | i + 1 => match rs[i]? with | some q => ascB q r | none => true)
def AllOk (clock : Int) (rs : List RunD) (n : Nat) : Prop := ∀ j r, j < n → rs[j]? = some r → stepOk clock rs j r = true
theorem AllOk.step {clock : Int} {rs : List RunD} {k : Nat} {r : RunD} (h : AllOk clock rs k) (hr : rs[k]? = some r) (hs : stepOk clock rs k r = true) : AllOk clock rs (k + 1) := by
 intro j q hj hq
 by_cases e : j = k
 ·
  subst e; rw [hr] at hq; cases hq; exact hs
 ·
  exact h j q (by omega) hq
theorem AllOk.not {clock : Int} {rs : List RunD} {k : Nat} {r : RunD} (hlt : k < rs.length) (hr : rs[k]? = some r) (hs : stepOk clock rs k r = false) : (false = true ↔ rs.length ≤ 20 ∧ AllOk clock rs rs.length) := by
 constructor
 ·
  intro h; cases h
 ·
  intro h; have := h.2 k r hlt hr; rw [hs] at this; cases this
theorem AllOk.yes {clock : Int} {rs : List RunD} {k : Nat} (h : AllOk clock rs k) (hk : rs.length ≤ k) (h20 : rs.length ≤ 20) : (true = true ↔ rs.length ≤ 20 ∧ AllOk clock rs rs.length) :=
 ⟨fun _ => ⟨h20, fun j r hj hr => h j r (by omega) hr⟩, fun _ => rfl⟩
theorem AllOk.many {clock : Int} {rs : List RunD} (h20 : 20 < rs.length) : (false = true ↔ rs.length ≤ 20 ∧ AllOk clock rs rs.length) :=
 ⟨fun h => (by cases h), fun h => (by omega)⟩
theorem keep1 {x w' : World} {b off k : Nat} {rs : List RunD} {r : RunD} (hk : rs[k]? = some r) (h1 : RowsAt x b off rs) (l1 : b < x.heap.size) (hb : Below x.heap.size x w') :
  Below x.heap.size x w' ∧ (w'.cell? ⟨b, off + k * 11, none⟩ = some (.string r.c) ∧ w'.cell? ⟨b, off + k * 11 + 1, none⟩ = some (.int .i64 r.v) ∧ w'.cell? ⟨b, off + k * 11 + 2, none⟩ = some (.string r.h) ∧ w'.cell? ⟨b, off + k * 11 + 3, none⟩ = some (.int .i64 r.p) ∧ w'.cell? ⟨b, off + k * 11 + 4, none⟩ = some (.int .i64 r.s) ∧ w'.cell? ⟨b, off + k * 11 + 5, none⟩ = some (.int .i64 r.d) ∧ w'.cell? ⟨b, off + k * 11 + 6, none⟩ = some (.int .i64 r.g) ∧ w'.cell? ⟨b, off + k * 11 + 7, none⟩ = some (.int .i64 r.a) ∧ w'.cell? ⟨b, off + k * 11 + 8, none⟩ = some (.int .i64 r.b) ∧ w'.cell? ⟨b, off + k * 11 + 9, none⟩ = some (.int .i64 r.i) ∧ w'.cell? ⟨b, off + k * 11 + 10, none⟩ = some (.int .i64 r.u)) := ⟨hb, (h1.keep l1 hb).at hk⟩
theorem keep2 {x w' : World} {b off k : Nat} {rs : List RunD} {r q : RunD} (hk : rs[k + 1]? = some r) (hq : rs[k]? = some q) (h1 : RowsAt x b off rs) (l1 : b < x.heap.size) (hb : Below x.heap.size x w') :
  Below x.heap.size x w' ∧ (w'.cell? ⟨b, off + (k + 1) * 11, none⟩ = some (.string r.c) ∧ w'.cell? ⟨b, off + (k + 1) * 11 + 1, none⟩ = some (.int .i64 r.v) ∧ w'.cell? ⟨b, off + (k + 1) * 11 + 2, none⟩ = some (.string r.h) ∧ w'.cell? ⟨b, off + (k + 1) * 11 + 3, none⟩ = some (.int .i64 r.p) ∧ w'.cell? ⟨b, off + (k + 1) * 11 + 4, none⟩ = some (.int .i64 r.s) ∧ w'.cell? ⟨b, off + (k + 1) * 11 + 5, none⟩ = some (.int .i64 r.d) ∧ w'.cell? ⟨b, off + (k + 1) * 11 + 6, none⟩ = some (.int .i64 r.g) ∧ w'.cell? ⟨b, off + (k + 1) * 11 + 7, none⟩ = some (.int .i64 r.a) ∧ w'.cell? ⟨b, off + (k + 1) * 11 + 8, none⟩ = some (.int .i64 r.b) ∧ w'.cell? ⟨b, off + (k + 1) * 11 + 9, none⟩ = some (.int .i64 r.i) ∧ w'.cell? ⟨b, off + (k + 1) * 11 + 10, none⟩ = some (.int .i64 r.u)) ∧ w'.cell? ⟨b, off + k * 11, none⟩ = some (.string q.c) := ⟨hb, (h1.keep l1 hb).at hk, ((h1.keep l1 hb).at hq).1⟩
theorem keep0 {x w' : World} {b off : Nat} {rs : List RunD} {r : RunD} (hk : rs[0]? = some r) (h1 : RowsAt x b off rs) (l1 : b < x.heap.size) (hb : Below x.heap.size x w') :
  Below x.heap.size x w' ∧ (w'.cell? ⟨b, off, none⟩ = some (.string r.c) ∧ w'.cell? ⟨b, off + 1, none⟩ = some (.int .i64 r.v) ∧ w'.cell? ⟨b, off + 2, none⟩ = some (.string r.h) ∧ w'.cell? ⟨b, off + 3, none⟩ = some (.int .i64 r.p) ∧ w'.cell? ⟨b, off + 4, none⟩ = some (.int .i64 r.s) ∧ w'.cell? ⟨b, off + 5, none⟩ = some (.int .i64 r.d) ∧ w'.cell? ⟨b, off + 6, none⟩ = some (.int .i64 r.g) ∧ w'.cell? ⟨b, off + 7, none⟩ = some (.int .i64 r.a) ∧ w'.cell? ⟨b, off + 8, none⟩ = some (.int .i64 r.b) ∧ w'.cell? ⟨b, off + 9, none⟩ = some (.int .i64 r.i) ∧ w'.cell? ⟨b, off + 10, none⟩ = some (.int .i64 r.u)) := by
 have := keep1 (k := 0) hk h1 l1 hb
 simpa using this
end Go.Proofs.YtgakmkhbnjofhaaGreatDoor
