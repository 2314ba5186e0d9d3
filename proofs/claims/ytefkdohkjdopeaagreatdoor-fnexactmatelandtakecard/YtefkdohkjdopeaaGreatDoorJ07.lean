import Derived.Test.YtefkdohkjdopeaaGreatDoorJ06
import Derived.Laws.EntriesVeiled
import Derived.Test.YtefkdohkjdopeaaGreatDoorJ03
import Derived.Deep.RegionHeld3
namespace Go.Proofs.YtefkdohkjdopeaaGreatDoor
open Go.RowKit
set_option linter.unusedVariables false
def ticksB (p s d g : Int) : Bool := inB p 0 100 && (inB s 0 100 && (inB d 0 100 && inB g 0 100))
def wantB (c h : ByteArray) (v p s d g : Int) : Bool := nameB c && (inB v 1 1000000 && ((h.toList.isEmpty || holdB h) && ticksB p s d g))
set_option maxHeartbeats 1000000 in
theorem specWant_any (c h : ByteArray) (v p s d g : Int) (w : World) (hc : c.size ≤ maxLen) (hh : h.size ≤ maxLen) :
  Calls Tryz.prog 80 #[.agg #[.string c, .int .i64 v, .string h, .int .i64 p, .int .i64 s, .int .i64 d, .int .i64 g]] w fun e w' => e = .returned (.bool (wantB c h v p s d g)) ∧ w' = w.alloc (.cells #[.string c, .int .i64 v, .string h, .int .i64 p, .int .i64 s, .int .i64 d, .int .i64 g] 94) := by
 cases h0 : nameB c
 ·
  go_enter Tryz.func80, Tryz.ntmps80
  go_wp2_with (first | (go_at_call 23; refine (specName_any c _ hc).mono ?_; rintro e w' ⟨rfl, rfl⟩) | (go_at_call 24; refine (specHold_any h _ hh).mono ?_; rintro e w' ⟨rfl, rfl⟩) | (go_at_call 25; refine (specIn_any _ _ _ _).mono ?_; rintro e w' ⟨rfl, rfl⟩))
  go_ret
  exact ⟨ret_b (by simp [wantB, ticksB, *]), rfl⟩
 ·
  skip
  cases h1 : inB v 1 1000000
  ·
   go_enter Tryz.func80, Tryz.ntmps80
   go_wp2_with (first | (go_at_call 23; refine (specName_any c _ hc).mono ?_; rintro e w' ⟨rfl, rfl⟩) | (go_at_call 24; refine (specHold_any h _ hh).mono ?_; rintro e w' ⟨rfl, rfl⟩) | (go_at_call 25; refine (specIn_any _ _ _ _).mono ?_; rintro e w' ⟨rfl, rfl⟩))
   go_ret
   exact ⟨ret_b (by simp [wantB, ticksB, *]), rfl⟩
  ·
   skip
   have he : (h.toList.isEmpty || holdB h) = false ∨ (h.toList.isEmpty = true) ∨ (h.toList.isEmpty = false ∧ holdB h = true) := by cases h.toList.isEmpty <;> cases holdB h <;> simp
   rcases he with he | he | he
   ·
    obtain ⟨e1, e2⟩ : h.toList.isEmpty = false ∧ holdB h = false := by simpa using he
    clear he
    go_enter Tryz.func80, Tryz.ntmps80
    go_wp2_with (first | (go_at_call 23; refine (specName_any c _ hc).mono ?_; rintro e w' ⟨rfl, rfl⟩) | (go_at_call 24; refine (specHold_any h _ hh).mono ?_; rintro e w' ⟨rfl, rfl⟩) | (go_at_call 25; refine (specIn_any _ _ _ _).mono ?_; rintro e w' ⟨rfl, rfl⟩))
    go_ret
    exact ⟨ret_b (by simp [wantB, ticksB, *]), rfl⟩
   ·
    skip
    cases q0 : inB p 0 100
    ·
     go_enter Tryz.func80, Tryz.ntmps80
     go_wp2_with (first | (go_at_call 23; refine (specName_any c _ hc).mono ?_; rintro e w' ⟨rfl, rfl⟩) | (go_at_call 24; refine (specHold_any h _ hh).mono ?_; rintro e w' ⟨rfl, rfl⟩) | (go_at_call 25; refine (specIn_any _ _ _ _).mono ?_; rintro e w' ⟨rfl, rfl⟩))
     go_ret
     exact ⟨ret_b (by simp [wantB, ticksB, *]), rfl⟩
    ·
     skip
     cases q1 : inB s 0 100
     ·
      go_enter Tryz.func80, Tryz.ntmps80
      go_wp2_with (first | (go_at_call 23; refine (specName_any c _ hc).mono ?_; rintro e w' ⟨rfl, rfl⟩) | (go_at_call 24; refine (specHold_any h _ hh).mono ?_; rintro e w' ⟨rfl, rfl⟩) | (go_at_call 25; refine (specIn_any _ _ _ _).mono ?_; rintro e w' ⟨rfl, rfl⟩))
      go_ret
      exact ⟨ret_b (by simp [wantB, ticksB, *]), rfl⟩
     ·
      skip
      cases q2 : inB d 0 100
      ·
       go_enter Tryz.func80, Tryz.ntmps80
       go_wp2_with (first | (go_at_call 23; refine (specName_any c _ hc).mono ?_; rintro e w' ⟨rfl, rfl⟩) | (go_at_call 24; refine (specHold_any h _ hh).mono ?_; rintro e w' ⟨rfl, rfl⟩) | (go_at_call 25; refine (specIn_any _ _ _ _).mono ?_; rintro e w' ⟨rfl, rfl⟩))
       go_ret
       exact ⟨ret_b (by simp [wantB, ticksB, *]), rfl⟩
      ·
       skip
       cases q3 : inB g 0 100
       ·
        go_enter Tryz.func80, Tryz.ntmps80
        go_wp2_with (first | (go_at_call 23; refine (specName_any c _ hc).mono ?_; rintro e w' ⟨rfl, rfl⟩) | (go_at_call 24; refine (specHold_any h _ hh).mono ?_; rintro e w' ⟨rfl, rfl⟩) | (go_at_call 25; refine (specIn_any _ _ _ _).mono ?_; rintro e w' ⟨rfl, rfl⟩))
        go_ret
        exact ⟨ret_b (by simp [wantB, ticksB, *]), rfl⟩
       ·
        go_enter Tryz.func80, Tryz.ntmps80
        go_wp2_with (first | (go_at_call 23; refine (specName_any c _ hc).mono ?_; rintro e w' ⟨rfl, rfl⟩) | (go_at_call 24; refine (specHold_any h _ hh).mono ?_; rintro e w' ⟨rfl, rfl⟩) | (go_at_call 25; refine (specIn_any _ _ _ _).mono ?_; rintro e w' ⟨rfl, rfl⟩))
        go_ret
        exact ⟨ret_b (by simp [wantB, ticksB, *]), rfl⟩
   ·
    obtain ⟨e1, e2⟩ := he
    cases q0 : inB p 0 100
    ·
     go_enter Tryz.func80, Tryz.ntmps80
     go_wp2_with (first | (go_at_call 23; refine (specName_any c _ hc).mono ?_; rintro e w' ⟨rfl, rfl⟩) | (go_at_call 24; refine (specHold_any h _ hh).mono ?_; rintro e w' ⟨rfl, rfl⟩) | (go_at_call 25; refine (specIn_any _ _ _ _).mono ?_; rintro e w' ⟨rfl, rfl⟩))
     go_ret
     exact ⟨ret_b (by simp [wantB, ticksB, *]), rfl⟩
    ·
     skip
     cases q1 : inB s 0 100
     ·
      go_enter Tryz.func80, Tryz.ntmps80
      go_wp2_with (first | (go_at_call 23; refine (specName_any c _ hc).mono ?_; rintro e w' ⟨rfl, rfl⟩) | (go_at_call 24; refine (specHold_any h _ hh).mono ?_; rintro e w' ⟨rfl, rfl⟩) | (go_at_call 25; refine (specIn_any _ _ _ _).mono ?_; rintro e w' ⟨rfl, rfl⟩))
      go_ret
      exact ⟨ret_b (by simp [wantB, ticksB, *]), rfl⟩
     ·
      skip
      cases q2 : inB d 0 100
      ·
       go_enter Tryz.func80, Tryz.ntmps80
       go_wp2_with (first | (go_at_call 23; refine (specName_any c _ hc).mono ?_; rintro e w' ⟨rfl, rfl⟩) | (go_at_call 24; refine (specHold_any h _ hh).mono ?_; rintro e w' ⟨rfl, rfl⟩) | (go_at_call 25; refine (specIn_any _ _ _ _).mono ?_; rintro e w' ⟨rfl, rfl⟩))
       go_ret
       exact ⟨ret_b (by simp [wantB, ticksB, *]), rfl⟩
      ·
       skip
       cases q3 : inB g 0 100
       ·
        go_enter Tryz.func80, Tryz.ntmps80
        go_wp2_with (first | (go_at_call 23; refine (specName_any c _ hc).mono ?_; rintro e w' ⟨rfl, rfl⟩) | (go_at_call 24; refine (specHold_any h _ hh).mono ?_; rintro e w' ⟨rfl, rfl⟩) | (go_at_call 25; refine (specIn_any _ _ _ _).mono ?_; rintro e w' ⟨rfl, rfl⟩))
        go_ret
        exact ⟨ret_b (by simp [wantB, ticksB, *]), rfl⟩
       ·
        go_enter Tryz.func80, Tryz.ntmps80
        go_wp2_with (first | (go_at_call 23; refine (specName_any c _ hc).mono ?_; rintro e w' ⟨rfl, rfl⟩) | (go_at_call 24; refine (specHold_any h _ hh).mono ?_; rintro e w' ⟨rfl, rfl⟩) | (go_at_call 25; refine (specIn_any _ _ _ _).mono ?_; rintro e w' ⟨rfl, rfl⟩))
        go_ret
        exact ⟨ret_b (by simp [wantB, ticksB, *]), rfl⟩
theorem copyOk_any (c h : ByteArray) (v p s d g : Int) (w : World) (hc : c.size ≤ maxLen) (hh : h.size ≤ maxLen) :
  Calls Tryz.prog 127 #[.agg #[.string c, .int .i64 v, .string h, .int .i64 p, .int .i64 s, .int .i64 d, .int .i64 g]] w fun e w' => e = .returned (.bool (nameB c)) ∧ w' = w.alloc (.cells #[.string c, .int .i64 v, .string h, .int .i64 p, .int .i64 s, .int .i64 d, .int .i64 g] 94) := by
 go_enter Tryz.func127, Tryz.ntmps127
 go_wp2_with (go_at_call 74; refine (implName_any c _ hc).mono ?_; rintro e w' ⟨rfl, rfl⟩)
 go_ret
 exact ⟨rfl, rfl⟩
theorem versionOk_any (c h : ByteArray) (v p s d g : Int) (w : World) (hc : c.size ≤ maxLen) (hh : h.size ≤ maxLen) :
  Calls Tryz.prog 128 #[.agg #[.string c, .int .i64 v, .string h, .int .i64 p, .int .i64 s, .int .i64 d, .int .i64 g]] w fun e w' => e = .returned (.bool (inB v 1 1000000)) ∧ w' = w.alloc (.cells #[.string c, .int .i64 v, .string h, .int .i64 p, .int .i64 s, .int .i64 d, .int .i64 g] 94) := by
 go_enter Tryz.func128, Tryz.ntmps128
 go_wp2_with (go_at_call 76; refine (within_any _ _ _ _).mono ?_; rintro e w' ⟨rfl, rfl⟩)
 go_ret
 exact ⟨rfl, rfl⟩
theorem holdOk_any (c h : ByteArray) (v p s d g : Int) (w : World) (hc : c.size ≤ maxLen) (hh : h.size ≤ maxLen) :
  Calls Tryz.prog 129 #[.agg #[.string c, .int .i64 v, .string h, .int .i64 p, .int .i64 s, .int .i64 d, .int .i64 g]] w fun e w' => e = .returned (.bool (h.toList.isEmpty || holdB h)) ∧ w' = w.alloc (.cells #[.string c, .int .i64 v, .string h, .int .i64 p, .int .i64 s, .int .i64 d, .int .i64 g] 94) := by
 cases he : h.toList.isEmpty
 ·
  go_enter Tryz.func129, Tryz.ntmps129
  go_wp2_with (go_at_call 75; refine (implHold_any h _ hh).mono ?_; rintro e w' ⟨rfl, rfl⟩)
  go_ret
  exact ⟨rfl, rfl⟩
 ·
  go_enter Tryz.func129, Tryz.ntmps129
  go_wp2
  go_ret
  exact ⟨rfl, rfl⟩
theorem build4 (p s d g : Int) (w : World) : Sem.run Tryz.prog (Instr.build 168 #[(0, .int .i64 p), (1, .int .i64 s), (2, .int .i64 d), (3, .int .i64 g)]) w = .ok (.agg #[.int .i64 p, .int .i64 s, .int .i64 d, .int .i64 g]) w := by kernel_rfl
set_option maxHeartbeats 1000000 in
theorem ticksOk_any (c h : ByteArray) (v p s d g : Int) (w : World) (hc : c.size ≤ maxLen) (hh : h.size ≤ maxLen) :
  Calls Tryz.prog 130 #[.agg #[.string c, .int .i64 v, .string h, .int .i64 p, .int .i64 s, .int .i64 d, .int .i64 g]] w fun e w' => e = .returned (.bool (ticksB p s d g)) ∧ w' = w.alloc (.cells #[.string c, .int .i64 v, .string h, .int .i64 p, .int .i64 s, .int .i64 d, .int .i64 g] 94) := by
 have hb4 := build4
 have i0 : ∀ w, Sem.run Tryz.prog (Instr.index 168 (.agg #[.int .i64 p, .int .i64 s, .int .i64 d, .int .i64 g]) (.int .i64 0)) w = .ok (.int .i64 p) w := fun _ => by kernel_rfl
 have i1 : ∀ w, Sem.run Tryz.prog (Instr.index 168 (.agg #[.int .i64 p, .int .i64 s, .int .i64 d, .int .i64 g]) (.int .i64 1)) w = .ok (.int .i64 s) w := fun _ => by kernel_rfl
 have i2 : ∀ w, Sem.run Tryz.prog (Instr.index 168 (.agg #[.int .i64 p, .int .i64 s, .int .i64 d, .int .i64 g]) (.int .i64 2)) w = .ok (.int .i64 d) w := fun _ => by kernel_rfl
 have i3 : ∀ w, Sem.run Tryz.prog (Instr.index 168 (.agg #[.int .i64 p, .int .i64 s, .int .i64 d, .int .i64 g]) (.int .i64 3)) w = .ok (.int .i64 g) w := fun _ => by kernel_rfl
 cases q0 : inB p 0 100
 ·
  go_enter Tryz.func130, Tryz.ntmps130
  go_wp2
  refine wp_loop_rounds 1 ?_
  rw [rounds_succ]
  go_wp2_with (go_at_call 76; refine (within_any _ _ _ _).mono ?_; rintro e w' ⟨rfl, rfl⟩)
  go_ret
  exact ⟨ret_b (by simp [ticksB, *]), rfl⟩
 ·
  skip
  cases q1 : inB s 0 100
  ·
   go_enter Tryz.func130, Tryz.ntmps130
   go_wp2
   refine wp_loop_rounds 2 ?_
   rw [rounds_succ]
   go_wp2_with (go_at_call 76; refine (within_any _ _ _ _).mono ?_; rintro e w' ⟨rfl, rfl⟩)
   rw [rounds_succ]
   go_wp2_with (go_at_call 76; refine (within_any _ _ _ _).mono ?_; rintro e w' ⟨rfl, rfl⟩)
   go_ret
   exact ⟨ret_b (by simp [ticksB, *]), rfl⟩
  ·
   skip
   cases q2 : inB d 0 100
   ·
    go_enter Tryz.func130, Tryz.ntmps130
    go_wp2
    refine wp_loop_rounds 3 ?_
    rw [rounds_succ]
    go_wp2_with (go_at_call 76; refine (within_any _ _ _ _).mono ?_; rintro e w' ⟨rfl, rfl⟩)
    rw [rounds_succ]
    go_wp2_with (go_at_call 76; refine (within_any _ _ _ _).mono ?_; rintro e w' ⟨rfl, rfl⟩)
    rw [rounds_succ]
    go_wp2_with (go_at_call 76; refine (within_any _ _ _ _).mono ?_; rintro e w' ⟨rfl, rfl⟩)
    go_ret
    exact ⟨ret_b (by simp [ticksB, *]), rfl⟩
   ·
    skip
    cases q3 : inB g 0 100
    ·
     go_enter Tryz.func130, Tryz.ntmps130
     go_wp2
     refine wp_loop_rounds 4 ?_
     rw [rounds_succ]
     go_wp2_with (go_at_call 76; refine (within_any _ _ _ _).mono ?_; rintro e w' ⟨rfl, rfl⟩)
     rw [rounds_succ]
     go_wp2_with (go_at_call 76; refine (within_any _ _ _ _).mono ?_; rintro e w' ⟨rfl, rfl⟩)
     rw [rounds_succ]
     go_wp2_with (go_at_call 76; refine (within_any _ _ _ _).mono ?_; rintro e w' ⟨rfl, rfl⟩)
     rw [rounds_succ]
     go_wp2_with (go_at_call 76; refine (within_any _ _ _ _).mono ?_; rintro e w' ⟨rfl, rfl⟩)
     go_ret
     exact ⟨ret_b (by simp [ticksB, *]), rfl⟩
    ·
     go_enter Tryz.func130, Tryz.ntmps130
     go_wp2
     refine wp_loop_rounds 5 ?_
     rw [rounds_succ]
     go_wp2_with (go_at_call 76; refine (within_any _ _ _ _).mono ?_; rintro e w' ⟨rfl, rfl⟩)
     rw [rounds_succ]
     go_wp2_with (go_at_call 76; refine (within_any _ _ _ _).mono ?_; rintro e w' ⟨rfl, rfl⟩)
     rw [rounds_succ]
     go_wp2_with (go_at_call 76; refine (within_any _ _ _ _).mono ?_; rintro e w' ⟨rfl, rfl⟩)
     rw [rounds_succ]
     go_wp2_with (go_at_call 76; refine (within_any _ _ _ _).mono ?_; rintro e w' ⟨rfl, rfl⟩)
     rw [rounds_succ]
     go_wp2_with (go_at_call 76; refine (within_any _ _ _ _).mono ?_; rintro e w' ⟨rfl, rfl⟩)
     go_ret
     exact ⟨ret_b (by simp [ticksB, *]), rfl⟩
theorem build_checks (w : World) : Sem.run Tryz.prog (Instr.buildSlice 161 4 #[(0, .func (.func 127) #[] #[]), (1, .func (.func 128) #[] #[]), (2, .func (.func 129) #[] #[]), (3, .func (.func 130) #[] #[])]) w = .ok (.slice (some ⟨w.heap.size, 0, none⟩) 4 4) (w.alloc (.cells #[.func (.func 127) #[] #[], .func (.func 128) #[] #[], .func (.func 129) #[] #[], .func (.func 130) #[] #[]] 119)) := by kernel_rfl
set_option maxHeartbeats 2000000 in
theorem implWant_any (c h : ByteArray) (v p s d g : Int) (w : World) (hc : c.size ≤ maxLen) (hh : h.size ≤ maxLen) :
  Calls Tryz.prog 112 #[.agg #[.string c, .int .i64 v, .string h, .int .i64 p, .int .i64 s, .int .i64 d, .int .i64 g]] w fun e w' => e = .returned (.bool (wantB c h v p s d g)) ∧ Below w.heap.size w w' := by
 have hbc := build_checks
 cases q0 : nameB c
 ·
  go_enter Tryz.func112, Tryz.ntmps112
  go_wp2_with go_in
  refine wp_loop_rounds 1 ?_
  rw [rounds_succ]
  go_wp2_with (first | (go_at_call 127; refine (copyOk_any c h v p s d g _ hc hh).mono ?_; rintro e w' ⟨rfl, rfl⟩) | (go_at_call 128; refine (versionOk_any c h v p s d g _ hc hh).mono ?_; rintro e w' ⟨rfl, rfl⟩) | (go_at_call 129; refine (holdOk_any c h v p s d g _ hc hh).mono ?_; rintro e w' ⟨rfl, rfl⟩) | (go_at_call 130; refine (ticksOk_any c h v p s d g _ hc hh).mono ?_; rintro e w' ⟨rfl, rfl⟩) | go_in)
  go_ret
  exact ⟨ret_b (by simp [wantB, *]), by repeat (first | exact Below.refl _ _ | refine bl_alloc ?_ _ | refine bl_drew ?_)⟩
 ·
  skip
  cases q1 : inB v 1 1000000
  ·
   go_enter Tryz.func112, Tryz.ntmps112
   go_wp2_with go_in
   refine wp_loop_rounds 2 ?_
   rw [rounds_succ]
   go_wp2_with (first | (go_at_call 127; refine (copyOk_any c h v p s d g _ hc hh).mono ?_; rintro e w' ⟨rfl, rfl⟩) | (go_at_call 128; refine (versionOk_any c h v p s d g _ hc hh).mono ?_; rintro e w' ⟨rfl, rfl⟩) | (go_at_call 129; refine (holdOk_any c h v p s d g _ hc hh).mono ?_; rintro e w' ⟨rfl, rfl⟩) | (go_at_call 130; refine (ticksOk_any c h v p s d g _ hc hh).mono ?_; rintro e w' ⟨rfl, rfl⟩) | go_in)
   rw [rounds_succ]
   go_wp2_with (first | (go_at_call 127; refine (copyOk_any c h v p s d g _ hc hh).mono ?_; rintro e w' ⟨rfl, rfl⟩) | (go_at_call 128; refine (versionOk_any c h v p s d g _ hc hh).mono ?_; rintro e w' ⟨rfl, rfl⟩) | (go_at_call 129; refine (holdOk_any c h v p s d g _ hc hh).mono ?_; rintro e w' ⟨rfl, rfl⟩) | (go_at_call 130; refine (ticksOk_any c h v p s d g _ hc hh).mono ?_; rintro e w' ⟨rfl, rfl⟩) | go_in)
   go_ret
   exact ⟨ret_b (by simp [wantB, *]), by repeat (first | exact Below.refl _ _ | refine bl_alloc ?_ _ | refine bl_drew ?_)⟩
  ·
   skip
   cases q2 : (h.toList.isEmpty || holdB h)
   ·
    go_enter Tryz.func112, Tryz.ntmps112
    go_wp2_with go_in
    refine wp_loop_rounds 3 ?_
    rw [rounds_succ]
    go_wp2_with (first | (go_at_call 127; refine (copyOk_any c h v p s d g _ hc hh).mono ?_; rintro e w' ⟨rfl, rfl⟩) | (go_at_call 128; refine (versionOk_any c h v p s d g _ hc hh).mono ?_; rintro e w' ⟨rfl, rfl⟩) | (go_at_call 129; refine (holdOk_any c h v p s d g _ hc hh).mono ?_; rintro e w' ⟨rfl, rfl⟩) | (go_at_call 130; refine (ticksOk_any c h v p s d g _ hc hh).mono ?_; rintro e w' ⟨rfl, rfl⟩) | go_in)
    rw [rounds_succ]
    go_wp2_with (first | (go_at_call 127; refine (copyOk_any c h v p s d g _ hc hh).mono ?_; rintro e w' ⟨rfl, rfl⟩) | (go_at_call 128; refine (versionOk_any c h v p s d g _ hc hh).mono ?_; rintro e w' ⟨rfl, rfl⟩) | (go_at_call 129; refine (holdOk_any c h v p s d g _ hc hh).mono ?_; rintro e w' ⟨rfl, rfl⟩) | (go_at_call 130; refine (ticksOk_any c h v p s d g _ hc hh).mono ?_; rintro e w' ⟨rfl, rfl⟩) | go_in)
    rw [rounds_succ]
    go_wp2_with (first | (go_at_call 127; refine (copyOk_any c h v p s d g _ hc hh).mono ?_; rintro e w' ⟨rfl, rfl⟩) | (go_at_call 128; refine (versionOk_any c h v p s d g _ hc hh).mono ?_; rintro e w' ⟨rfl, rfl⟩) | (go_at_call 129; refine (holdOk_any c h v p s d g _ hc hh).mono ?_; rintro e w' ⟨rfl, rfl⟩) | (go_at_call 130; refine (ticksOk_any c h v p s d g _ hc hh).mono ?_; rintro e w' ⟨rfl, rfl⟩) | go_in)
    go_ret
    exact ⟨ret_b (by simp [wantB, *]), by repeat (first | exact Below.refl _ _ | refine bl_alloc ?_ _ | refine bl_drew ?_)⟩
   ·
    skip
    cases q3 : ticksB p s d g
    ·
     go_enter Tryz.func112, Tryz.ntmps112
     go_wp2_with go_in
     refine wp_loop_rounds 4 ?_
     rw [rounds_succ]
     go_wp2_with (first | (go_at_call 127; refine (copyOk_any c h v p s d g _ hc hh).mono ?_; rintro e w' ⟨rfl, rfl⟩) | (go_at_call 128; refine (versionOk_any c h v p s d g _ hc hh).mono ?_; rintro e w' ⟨rfl, rfl⟩) | (go_at_call 129; refine (holdOk_any c h v p s d g _ hc hh).mono ?_; rintro e w' ⟨rfl, rfl⟩) | (go_at_call 130; refine (ticksOk_any c h v p s d g _ hc hh).mono ?_; rintro e w' ⟨rfl, rfl⟩) | go_in)
     rw [rounds_succ]
     go_wp2_with (first | (go_at_call 127; refine (copyOk_any c h v p s d g _ hc hh).mono ?_; rintro e w' ⟨rfl, rfl⟩) | (go_at_call 128; refine (versionOk_any c h v p s d g _ hc hh).mono ?_; rintro e w' ⟨rfl, rfl⟩) | (go_at_call 129; refine (holdOk_any c h v p s d g _ hc hh).mono ?_; rintro e w' ⟨rfl, rfl⟩) | (go_at_call 130; refine (ticksOk_any c h v p s d g _ hc hh).mono ?_; rintro e w' ⟨rfl, rfl⟩) | go_in)
     rw [rounds_succ]
     go_wp2_with (first | (go_at_call 127; refine (copyOk_any c h v p s d g _ hc hh).mono ?_; rintro e w' ⟨rfl, rfl⟩) | (go_at_call 128; refine (versionOk_any c h v p s d g _ hc hh).mono ?_; rintro e w' ⟨rfl, rfl⟩) | (go_at_call 129; refine (holdOk_any c h v p s d g _ hc hh).mono ?_; rintro e w' ⟨rfl, rfl⟩) | (go_at_call 130; refine (ticksOk_any c h v p s d g _ hc hh).mono ?_; rintro e w' ⟨rfl, rfl⟩) | go_in)
     rw [rounds_succ]
     go_wp2_with (first | (go_at_call 127; refine (copyOk_any c h v p s d g _ hc hh).mono ?_; rintro e w' ⟨rfl, rfl⟩) | (go_at_call 128; refine (versionOk_any c h v p s d g _ hc hh).mono ?_; rintro e w' ⟨rfl, rfl⟩) | (go_at_call 129; refine (holdOk_any c h v p s d g _ hc hh).mono ?_; rintro e w' ⟨rfl, rfl⟩) | (go_at_call 130; refine (ticksOk_any c h v p s d g _ hc hh).mono ?_; rintro e w' ⟨rfl, rfl⟩) | go_in)
     go_ret
     exact ⟨ret_b (by simp [wantB, *]), by repeat (first | exact Below.refl _ _ | refine bl_alloc ?_ _ | refine bl_drew ?_)⟩
    ·
     go_enter Tryz.func112, Tryz.ntmps112
     go_wp2_with go_in
     refine wp_loop_rounds 5 ?_
     rw [rounds_succ]
     go_wp2_with (first | (go_at_call 127; refine (copyOk_any c h v p s d g _ hc hh).mono ?_; rintro e w' ⟨rfl, rfl⟩) | (go_at_call 128; refine (versionOk_any c h v p s d g _ hc hh).mono ?_; rintro e w' ⟨rfl, rfl⟩) | (go_at_call 129; refine (holdOk_any c h v p s d g _ hc hh).mono ?_; rintro e w' ⟨rfl, rfl⟩) | (go_at_call 130; refine (ticksOk_any c h v p s d g _ hc hh).mono ?_; rintro e w' ⟨rfl, rfl⟩) | go_in)
     rw [rounds_succ]
     go_wp2_with (first | (go_at_call 127; refine (copyOk_any c h v p s d g _ hc hh).mono ?_; rintro e w' ⟨rfl, rfl⟩) | (go_at_call 128; refine (versionOk_any c h v p s d g _ hc hh).mono ?_; rintro e w' ⟨rfl, rfl⟩) | (go_at_call 129; refine (holdOk_any c h v p s d g _ hc hh).mono ?_; rintro e w' ⟨rfl, rfl⟩) | (go_at_call 130; refine (ticksOk_any c h v p s d g _ hc hh).mono ?_; rintro e w' ⟨rfl, rfl⟩) | go_in)
     rw [rounds_succ]
     go_wp2_with (first | (go_at_call 127; refine (copyOk_any c h v p s d g _ hc hh).mono ?_; rintro e w' ⟨rfl, rfl⟩) | (go_at_call 128; refine (versionOk_any c h v p s d g _ hc hh).mono ?_; rintro e w' ⟨rfl, rfl⟩) | (go_at_call 129; refine (holdOk_any c h v p s d g _ hc hh).mono ?_; rintro e w' ⟨rfl, rfl⟩) | (go_at_call 130; refine (ticksOk_any c h v p s d g _ hc hh).mono ?_; rintro e w' ⟨rfl, rfl⟩) | go_in)
     rw [rounds_succ]
     go_wp2_with (first | (go_at_call 127; refine (copyOk_any c h v p s d g _ hc hh).mono ?_; rintro e w' ⟨rfl, rfl⟩) | (go_at_call 128; refine (versionOk_any c h v p s d g _ hc hh).mono ?_; rintro e w' ⟨rfl, rfl⟩) | (go_at_call 129; refine (holdOk_any c h v p s d g _ hc hh).mono ?_; rintro e w' ⟨rfl, rfl⟩) | (go_at_call 130; refine (ticksOk_any c h v p s d g _ hc hh).mono ?_; rintro e w' ⟨rfl, rfl⟩) | go_in)
     rw [rounds_succ]
     go_wp2_with (first | (go_at_call 127; refine (copyOk_any c h v p s d g _ hc hh).mono ?_; rintro e w' ⟨rfl, rfl⟩) | (go_at_call 128; refine (versionOk_any c h v p s d g _ hc hh).mono ?_; rintro e w' ⟨rfl, rfl⟩) | (go_at_call 129; refine (holdOk_any c h v p s d g _ hc hh).mono ?_; rintro e w' ⟨rfl, rfl⟩) | (go_at_call 130; refine (ticksOk_any c h v p s d g _ hc hh).mono ?_; rintro e w' ⟨rfl, rfl⟩) | go_in)
     go_ret
     exact ⟨ret_b (by simp [wantB, *]), by repeat (first | exact Below.refl _ _ | refine bl_alloc ?_ _ | refine bl_drew ?_)⟩
end Go.Proofs.YtefkdohkjdopeaaGreatDoor
namespace Go.Proofs.YtefkdohkjdopeaaGreatDoor.W
open Go.RowKit
set_option linter.unusedVariables false
def WantD.ok (r : WantD) : Bool := wantB r.c r.h r.v r.p r.s r.d r.g
def ascB (q r : WantD) : Bool := Op.bytesLess q.c.toList r.c.toList
def clash (q r : WantD) : Bool := !r.h.toList.isEmpty && (q.h.toList == r.h.toList)
def Each (ws : List WantD) (n : Nat) : Prop := ∀ j r, j < n → ws[j]? = some r → r.ok = true
def Asc (ws : List WantD) (n : Nat) : Prop := ∀ j q r, j + 1 < n → ws[j]? = some q → ws[j + 1]? = some r → ascB q r = true
def NoneOf (ws : List WantD) (r : WantD) (m : Nat) : Prop := ∀ i q, i < m → ws[i]? = some q → clash q r = false
def Diff (ws : List WantD) (n : Nat) : Prop := ∀ j r, j < n → ws[j]? = some r → NoneOf ws r j
def AllW (ws : List WantD) (n : Nat) : Prop := Each ws n ∧ Asc ws n ∧ Diff ws n
def Says (q : Bool) (ws : List WantD) : Prop := q = true ↔ ws.length ≤ 10 ∧ AllW ws ws.length
theorem Each.step {ws : List WantD} {k : Nat} {r : WantD} (h : Each ws k) (hr : ws[k]? = some r) (hs : r.ok = true) : Each ws (k + 1) := by
 intro j q hj hq
 by_cases e : j = k
 ·
  subst e; rw [hr] at hq; cases hq; exact hs
 ·
  exact h j q (by omega) hq
theorem Asc.step {ws : List WantD} {k : Nat} {q r : WantD} (h : Asc ws (k + 1)) (hq : ws[k]? = some q) (hr : ws[k + 1]? = some r) (hs : ascB q r = true) : Asc ws (k + 1 + 1) := by
 intro j q' r' hj hq' hr'
 by_cases e : j = k
 ·
  subst e; rw [hq] at hq'; rw [hr] at hr'; cases hq'; cases hr'; exact hs
 ·
  exact h j q' r' (by omega) hq' hr'
theorem Asc.one {ws : List WantD} : Asc ws 1 := fun j q r hj _ _ => by omega
theorem NoneOf.step {ws : List WantD} {m : Nat} {q r : WantD} (h : NoneOf ws r m) (hq : ws[m]? = some q) (hs : clash q r = false) : NoneOf ws r (m + 1) := by
 intro i q' hi hq'
 by_cases e : i = m
 ·
  subst e; rw [hq] at hq'; cases hq'; exact hs
 ·
  exact h i q' (by omega) hq'
theorem Diff.step {ws : List WantD} {k : Nat} {r : WantD} (h : Diff ws k) (hr : ws[k]? = some r) (hs : NoneOf ws r k) : Diff ws (k + 1) := by
 intro j q hj hq
 by_cases e : j = k
 ·
  subst e; rw [hr] at hq; cases hq; exact hs
 ·
  exact h j q (by omega) hq
theorem says_no {ws : List WantD} (h : ws.length ≤ 10 → AllW ws ws.length → False) : Says false ws := ⟨fun h' => (by cases h'), fun h' => (h h'.1 h'.2).elim⟩
theorem says_yes {ws : List WantD} {k : Nat} (h : AllW ws k) (hk : ws.length ≤ k) (h10 : ws.length ≤ 10) : Says true ws :=
 ⟨fun _ => ⟨h10, fun j r hj hr => h.1 j r (by omega) hr, fun j q r hj hq hr => h.2.1 j q r (by omega) hq hr, fun j r hj hr => h.2.2 j r (by omega) hr⟩, fun _ => rfl⟩
theorem keep1 {x w' : World} {b off k : Nat} {rs : List WantD} {r : WantD} (hk : rs[k]? = some r) (h1 : RowsAt x b off rs) (l1 : b < x.heap.size) (hb : Below x.heap.size x w') :
  Below x.heap.size x w' ∧ (w'.cell? ⟨b, off + k * 7, none⟩ = some (.string r.c) ∧ w'.cell? ⟨b, off + k * 7 + 1, none⟩ = some (.int .i64 r.v) ∧ w'.cell? ⟨b, off + k * 7 + 2, none⟩ = some (.string r.h) ∧ w'.cell? ⟨b, off + k * 7 + 3, none⟩ = some (.int .i64 r.p) ∧ w'.cell? ⟨b, off + k * 7 + 4, none⟩ = some (.int .i64 r.s) ∧ w'.cell? ⟨b, off + k * 7 + 5, none⟩ = some (.int .i64 r.d) ∧ w'.cell? ⟨b, off + k * 7 + 6, none⟩ = some (.int .i64 r.g)) := ⟨hb, (h1.keep l1 hb).at hk⟩
theorem keep2 {x w' : World} {b off k : Nat} {rs : List WantD} {r q : WantD} (hk : rs[k + 1]? = some r) (hq : rs[k]? = some q) (h1 : RowsAt x b off rs) (l1 : b < x.heap.size) (hb : Below x.heap.size x w') :
  Below x.heap.size x w' ∧ (w'.cell? ⟨b, off + (k + 1) * 7, none⟩ = some (.string r.c) ∧ w'.cell? ⟨b, off + (k + 1) * 7 + 1, none⟩ = some (.int .i64 r.v) ∧ w'.cell? ⟨b, off + (k + 1) * 7 + 2, none⟩ = some (.string r.h) ∧ w'.cell? ⟨b, off + (k + 1) * 7 + 3, none⟩ = some (.int .i64 r.p) ∧ w'.cell? ⟨b, off + (k + 1) * 7 + 4, none⟩ = some (.int .i64 r.s) ∧ w'.cell? ⟨b, off + (k + 1) * 7 + 5, none⟩ = some (.int .i64 r.d) ∧ w'.cell? ⟨b, off + (k + 1) * 7 + 6, none⟩ = some (.int .i64 r.g)) ∧ w'.cell? ⟨b, off + k * 7, none⟩ = some (.string q.c) := ⟨hb, (h1.keep l1 hb).at hk, ((h1.keep l1 hb).at hq).1⟩
theorem keep0 {x w' : World} {b off : Nat} {rs : List WantD} {r : WantD} (hk : rs[0]? = some r) (h1 : RowsAt x b off rs) (l1 : b < x.heap.size) (hb : Below x.heap.size x w') :
  Below x.heap.size x w' ∧ (w'.cell? ⟨b, off, none⟩ = some (.string r.c) ∧ w'.cell? ⟨b, off + 1, none⟩ = some (.int .i64 r.v) ∧ w'.cell? ⟨b, off + 2, none⟩ = some (.string r.h) ∧ w'.cell? ⟨b, off + 3, none⟩ = some (.int .i64 r.p) ∧ w'.cell? ⟨b, off + 4, none⟩ = some (.int .i64 r.s) ∧ w'.cell? ⟨b, off + 5, none⟩ = some (.int .i64 r.d) ∧ w'.cell? ⟨b, off + 6, none⟩ = some (.int .i64 r.g)) := by
 have := keep1 (k := 0) hk h1 l1 hb
 simpa using this
theorem hold_at {x : World} {b off k : Nat} {rs : List WantD} {r : WantD} (hk : rs[k]? = some r) (h1 : RowsAt x b off rs) : x.cell? ⟨b, off + k * 7 + 2, none⟩ = some (.string r.h) := (h1.at hk).2.2.1
end Go.Proofs.YtefkdohkjdopeaaGreatDoor.W
