import Derived.Test.YtgehmpnlfnlboaaGreatDoorJ17
import Derived.BigQuiet
import Derived.Test.YtgehmpnlfnlboaaGreatDoorJ14
import Derived.Laws.EntriesVeiled
/- A tick of the book where the time is over. -/
namespace Go.Proofs.YtgehmpnlfnlboaaGreatDoor
open Go.RowKit Go.Maps Go.WideMaps
set_option linter.unusedVariables false

set_option maxRecDepth 4000 in
set_option maxHeartbeats 2000000 in
theorem tick_over (d m1 m2 : Nat) (t : Int) (gs : List G.GrantD) (ps : List Pr.PlRaw) (w : World) (hB : Book w d t m1 m2 gs ps) (ht : 2000000 ≤ t) (ev : Value) (hev : w.cell? ⟨1, 0, none⟩ = some ev) (hv : ∃ te pe, ev = .iface te pe) :
    Calls Tryz.prog 22 #[.pointer (some ⟨d, 0, none⟩)] w fun e w' => e = .returned (.tuple #[.slice none 0 0, ev]) ∧ Below w.heap.size w w' := by
  have hc0 : w.cell? ⟨d, 0, none⟩ = some (.int .i64 t) := hB.c 0
  obtain ⟨te, pe, rfl⟩ := hv
  clear hB
  go_enter Tryz.func22, Tryz.ntmps22
  go_wp2_with fail
  go_region
  all_goals (go_wp2; exact bodyPost_ret (v := .tuple #[.slice none 0 0, .iface te pe]) (by simp [results, Tryz.results22, go_sem]) rfl ⟨rfl, bl_drew (Below.refl _ _)⟩)
/-- The work of a tick is a tick. -/
theorem work_tick (d : Nat) (w : World) (R : Value → Value → World → Prop) (h : Calls Tryz.prog 22 #[.pointer (some ⟨d, 0, none⟩)] w fun e w' => ∃ v1 v2, e = .returned (.tuple #[v1, v2]) ∧ R v1 v2 w') :
    Calls Tryz.prog 21 #[.pointer (some ⟨d, 0, none⟩)] w fun e w' => ∃ v1 v2, e = .returned (.tuple #[v1, v2]) ∧ R v1 v2 w' := by
  have H : Hid (Calls Tryz.prog 22 #[.pointer (some ⟨d, 0, none⟩)] w fun e w' => ∃ v1 v2, e = .returned (.tuple #[v1, v2]) ∧ R v1 v2 w') := h
  clear h
  go_enter Tryz.func21, Tryz.ntmps21
  go_wp2_with fail
  refine H.out.mono ?_
  rintro e w1 ⟨v1, v2, rfl, hR⟩
  have HR : Hid (R v1 v2 w1) := hR
  clear hR H
  go_wp2_with fail
  exact bodyPost_ret (v := .tuple #[v1, v2]) (by simp [results, Tryz.results21, go_sem]) rfl ⟨v1, v2, rfl, HR.out⟩
end Go.Proofs.YtgehmpnlfnlboaaGreatDoor
/- MateLandOk: the program's side. -/
namespace Go.Proofs.YtgehmpnlfnlboaaGreatDoor.P
open Go.RowKit
set_option linter.unusedVariables false

theorem build_land (w : World) : Sem.run Tryz.prog (Instr.buildSlice 97 4 #[(0, .func (.func 53) #[] #[]), (1, .func (.func 54) #[] #[]), (2, .func (.func 55) #[] #[]), (3, .func (.func 56) #[] #[])]) w = .ok (.slice (some ⟨w.heap.size, 0, none⟩) 4 4) (w.alloc (.cells #[.func (.func 53) #[] #[], .func (.func 54) #[] #[], .func (.func 55) #[] #[], .func (.func 56) #[] #[]] 42)) := by kernel_rfl
theorem saysL_no {t : Int} {gs : List G.GrantD} {ps : List PlaceD} (h : LandSay t gs ps → False) : SaysL false t gs ps := ⟨fun h' => (by cases h'), fun h' => (h h').elim⟩
theorem three_land {w w' : World} {t : Int} {gs : List G.GrantD} {ps : List PlaceD} {b1 b2 : Nat} (hb : Below ((((w.alloc (.cells #[.int .i64 t, .slice (some ⟨b1, 0, none⟩) gs.length gs.length, .slice (some ⟨b2, 0, none⟩) ps.length ps.length] 30))).alloc (.cells #[.func (.func 53) #[] #[], .func (.func 54) #[] #[], .func (.func 55) #[] #[], .func (.func 56) #[] #[]] 42)).alloc (.cells #[.int .i64 t, .slice (some ⟨b1, 0, none⟩) gs.length gs.length, .slice (some ⟨b2, 0, none⟩) ps.length ps.length] 30)).heap.size ((((w.alloc (.cells #[.int .i64 t, .slice (some ⟨b1, 0, none⟩) gs.length gs.length, .slice (some ⟨b2, 0, none⟩) ps.length ps.length] 30))).alloc (.cells #[.func (.func 53) #[] #[], .func (.func 54) #[] #[], .func (.func 55) #[] #[], .func (.func 56) #[] #[]] 42)).alloc (.cells #[.int .i64 t, .slice (some ⟨b1, 0, none⟩) gs.length gs.length, .slice (some ⟨b2, 0, none⟩) ps.length ps.length] 30)) w') :
    (∀ k, w'.cell? ⟨w.heap.size + 1, k, none⟩ = (#[.func (.func 53) #[] #[], .func (.func 54) #[] #[], .func (.func 55) #[] #[], .func (.func 56) #[] #[]] : Array Value)[k]?) ∧ (∀ k, w'.cell? ⟨w.heap.size + 1 + 1, k, none⟩ = (#[.int .i64 t, .slice (some ⟨b1, 0, none⟩) gs.length gs.length, .slice (some ⟨b2, 0, none⟩) ps.length ps.length] : Array Value)[k]?) := by
  constructor
  · intro k
    rw [hb.cell (p := ⟨w.heap.size + 1, k, none⟩) (by simp)]
    simp [go_sem, World.cell?_alloc_past]
  · intro k
    rw [hb.cell (p := ⟨w.heap.size + 1 + 1, k, none⟩) (by simp)]
    simp [go_sem]

set_option maxRecDepth 4000 in
set_option maxHeartbeats 2000000 in
theorem implLandOk (t : Int) (gs : List G.GrantD) (ps : List PlaceD) (b1 b2 : Nat) (w : World) (hA : LandAt w gs ps b1 b2) (hF : Fit gs ps) :
    Calls Tryz.prog 41 #[.agg #[.int .i64 t, .slice (some ⟨b1, 0, none⟩) gs.length gs.length, .slice (some ⟨b2, 0, none⟩) ps.length ps.length]] w fun e w' => (∃ q : Bool, e = .returned (.bool q) ∧ SaysL q t gs ps) ∧ Below w.heap.size w w' := by
  have Hx0 : Hid (Below w.heap.size w ((((w.alloc (.cells #[.int .i64 t, .slice (some ⟨b1, 0, none⟩) gs.length gs.length, .slice (some ⟨b2, 0, none⟩) ps.length ps.length] 30))).alloc (.cells #[.func (.func 53) #[] #[], .func (.func 54) #[] #[], .func (.func 55) #[] #[], .func (.func 56) #[] #[]] 42)).alloc (.cells #[.int .i64 t, .slice (some ⟨b1, 0, none⟩) gs.length gs.length, .slice (some ⟨b2, 0, none⟩) ps.length ps.length] 30))) := bl_alloc (bl_alloc (bl_alloc (Below.refl _ _) _) _) _
  have HA0 : Hid (LandAt ((((w.alloc (.cells #[.int .i64 t, .slice (some ⟨b1, 0, none⟩) gs.length gs.length, .slice (some ⟨b2, 0, none⟩) ps.length ps.length] 30))).alloc (.cells #[.func (.func 53) #[] #[], .func (.func 54) #[] #[], .func (.func 55) #[] #[], .func (.func 56) #[] #[]] 42)).alloc (.cells #[.int .i64 t, .slice (some ⟨b1, 0, none⟩) gs.length gs.length, .slice (some ⟨b2, 0, none⟩) ps.length ps.length] 30)) gs ps b1 b2) := hA.keep Hx0.out
  have HF : Hid (Fit gs ps) := hF
  clear hA hF
  have hbv := build_land
  go_enter Tryz.func41, Tryz.ntmps41
  go_wp2_with go_in
  clear hbv
  refine wp_loop_rounds 5 ?_
  rw [rounds_succ]
  go_wp2_with fail
  refine (timeOk_any t _ _ _ _ _ _ _).mono ?_
  rintro e w1 ⟨rfl, c1⟩
  obtain ⟨q1, hq1⟩ : ∃ q, q = timeB t := ⟨_, rfl⟩
  have H1 : Hid (q1 = true ↔ timeB t = true) := by rw [hq1]; exact Iff.rfl
  rw [← hq1]
  have C1 : Hid (Below ((((w.alloc (.cells #[.int .i64 t, .slice (some ⟨b1, 0, none⟩) gs.length gs.length, .slice (some ⟨b2, 0, none⟩) ps.length ps.length] 30))).alloc (.cells #[.func (.func 53) #[] #[], .func (.func 54) #[] #[], .func (.func 55) #[] #[], .func (.func 56) #[] #[]] 42)).alloc (.cells #[.int .i64 t, .slice (some ⟨b1, 0, none⟩) gs.length gs.length, .slice (some ⟨b2, 0, none⟩) ps.length ps.length] 30)).heap.size ((((w.alloc (.cells #[.int .i64 t, .slice (some ⟨b1, 0, none⟩) gs.length gs.length, .slice (some ⟨b2, 0, none⟩) ps.length ps.length] 30))).alloc (.cells #[.func (.func 53) #[] #[], .func (.func 54) #[] #[], .func (.func 55) #[] #[], .func (.func 56) #[] #[]] 42)).alloc (.cells #[.int .i64 t, .slice (some ⟨b1, 0, none⟩) gs.length gs.length, .slice (some ⟨b2, 0, none⟩) ps.length ps.length] 30)) w1) := c1
  clear hq1 c1
  obtain ⟨kf1, km1⟩ := three_land C1.out
  cases q1
  · go_wp2
    go_ret
    exact ⟨⟨false, rfl, saysL_no (fun h => by have := H1.out.2 h.1; cases this)⟩, bl_trans Hx0.out C1.out⟩
  have G1 : Hid (timeB t = true) := H1.out.1 rfl
  clear H1
  have ht0 : 0 ≤ t := by have := G1.out; simp [timeB, inB] at this; omega
  have ht1 : t ≤ 2000000 := by have := G1.out; simp [timeB, inB] at this; omega
  have HA1 : Hid (LandAt w1 gs ps b1 b2) := HA0.out.keep C1.out
  go_wp2_with fail
  rw [rounds_succ]
  go_wp2_with fail
  refine (grantsOk_any t gs ps b1 b2 _ HA1.out HF.out ht0 ht1).mono ?_
  rintro e w2 ⟨⟨q2, rfl, h2⟩, c2⟩
  have H2 : Hid (q2 = true ↔ GrantsSay t gs) := h2
  have C2 : Hid (Below ((((w.alloc (.cells #[.int .i64 t, .slice (some ⟨b1, 0, none⟩) gs.length gs.length, .slice (some ⟨b2, 0, none⟩) ps.length ps.length] 30))).alloc (.cells #[.func (.func 53) #[] #[], .func (.func 54) #[] #[], .func (.func 55) #[] #[], .func (.func 56) #[] #[]] 42)).alloc (.cells #[.int .i64 t, .slice (some ⟨b1, 0, none⟩) gs.length gs.length, .slice (some ⟨b2, 0, none⟩) ps.length ps.length] 30)).heap.size ((((w.alloc (.cells #[.int .i64 t, .slice (some ⟨b1, 0, none⟩) gs.length gs.length, .slice (some ⟨b2, 0, none⟩) ps.length ps.length] 30))).alloc (.cells #[.func (.func 53) #[] #[], .func (.func 54) #[] #[], .func (.func 55) #[] #[], .func (.func 56) #[] #[]] 42)).alloc (.cells #[.int .i64 t, .slice (some ⟨b1, 0, none⟩) gs.length gs.length, .slice (some ⟨b2, 0, none⟩) ps.length ps.length] 30)) w2) := bl_trans C1.out c2
  clear h2 c2 kf1 km1
  obtain ⟨kf2, km2⟩ := three_land C2.out
  cases q2
  · go_wp2
    go_ret
    exact ⟨⟨false, rfl, saysL_no (fun h => by have := H2.out.2 h.2.1; cases this)⟩, bl_trans Hx0.out C2.out⟩
  have G2 : Hid (GrantsSay t gs) := H2.out.1 rfl
  clear H2
  have HA2 : Hid (LandAt w2 gs ps b1 b2) := HA0.out.keep C2.out
  go_wp2_with fail
  rw [rounds_succ]
  go_wp2_with fail
  refine (placesOk_any t gs ps b1 b2 _ HA2.out HF.out).mono ?_
  rintro e w3 ⟨⟨q3, rfl, h3⟩, c3⟩
  have H3 : Hid (q3 = true ↔ PlacesSay ps) := h3
  have C3 : Hid (Below ((((w.alloc (.cells #[.int .i64 t, .slice (some ⟨b1, 0, none⟩) gs.length gs.length, .slice (some ⟨b2, 0, none⟩) ps.length ps.length] 30))).alloc (.cells #[.func (.func 53) #[] #[], .func (.func 54) #[] #[], .func (.func 55) #[] #[], .func (.func 56) #[] #[]] 42)).alloc (.cells #[.int .i64 t, .slice (some ⟨b1, 0, none⟩) gs.length gs.length, .slice (some ⟨b2, 0, none⟩) ps.length ps.length] 30)).heap.size ((((w.alloc (.cells #[.int .i64 t, .slice (some ⟨b1, 0, none⟩) gs.length gs.length, .slice (some ⟨b2, 0, none⟩) ps.length ps.length] 30))).alloc (.cells #[.func (.func 53) #[] #[], .func (.func 54) #[] #[], .func (.func 55) #[] #[], .func (.func 56) #[] #[]] 42)).alloc (.cells #[.int .i64 t, .slice (some ⟨b1, 0, none⟩) gs.length gs.length, .slice (some ⟨b2, 0, none⟩) ps.length ps.length] 30)) w3) := bl_trans C2.out c3
  clear h3 c3 kf2 km2
  obtain ⟨kf3, km3⟩ := three_land C3.out
  cases q3
  · go_wp2
    go_ret
    exact ⟨⟨false, rfl, saysL_no (fun h => by have := H3.out.2 h.2.2.1; cases this)⟩, bl_trans Hx0.out C3.out⟩
  have G3 : Hid (PlacesSay ps) := H3.out.1 rfl
  clear H3
  have HA3 : Hid (LandAt w3 gs ps b1 b2) := HA0.out.keep C3.out
  go_wp2_with fail
  rw [rounds_succ]
  go_wp2_with fail
  refine (holdApart_any t gs ps b1 b2 _ HA3.out HF.out G3.out.1 (fun p hp => (G3.out.2.2 p hp).2.2.1)).mono ?_
  rintro e w4 ⟨⟨q4, rfl, h4⟩, c4⟩
  have H4 : Hid (q4 = true ↔ Apart ps) := h4.trans (apart_iff ps G3.out.2.2)
  have C4 : Hid (Below ((((w.alloc (.cells #[.int .i64 t, .slice (some ⟨b1, 0, none⟩) gs.length gs.length, .slice (some ⟨b2, 0, none⟩) ps.length ps.length] 30))).alloc (.cells #[.func (.func 53) #[] #[], .func (.func 54) #[] #[], .func (.func 55) #[] #[], .func (.func 56) #[] #[]] 42)).alloc (.cells #[.int .i64 t, .slice (some ⟨b1, 0, none⟩) gs.length gs.length, .slice (some ⟨b2, 0, none⟩) ps.length ps.length] 30)).heap.size ((((w.alloc (.cells #[.int .i64 t, .slice (some ⟨b1, 0, none⟩) gs.length gs.length, .slice (some ⟨b2, 0, none⟩) ps.length ps.length] 30))).alloc (.cells #[.func (.func 53) #[] #[], .func (.func 54) #[] #[], .func (.func 55) #[] #[], .func (.func 56) #[] #[]] 42)).alloc (.cells #[.int .i64 t, .slice (some ⟨b1, 0, none⟩) gs.length gs.length, .slice (some ⟨b2, 0, none⟩) ps.length ps.length] 30)) w4) := bl_trans C3.out c4
  clear h4 c4 kf3 km3
  obtain ⟨kf4, km4⟩ := three_land C4.out
  cases q4
  · go_wp2
    go_ret
    exact ⟨⟨false, rfl, saysL_no (fun h => by have := H4.out.2 h.2.2.2; cases this)⟩, bl_trans Hx0.out C4.out⟩
  have G4 : Hid (Apart ps) := H4.out.1 rfl
  clear H4
  have HA4 : Hid (LandAt w4 gs ps b1 b2) := HA0.out.keep C4.out
  go_wp2_with fail
  rw [rounds_succ]
  go_wp2
  go_ret
  exact ⟨⟨true, rfl, ⟨fun _ => ⟨G1.out, G2.out, G3.out, G4.out⟩, fun _ => rfl⟩⟩, bl_trans Hx0.out C4.out⟩
end Go.Proofs.YtgehmpnlfnlboaaGreatDoor.P
/- change: a book that is not ok. -/
namespace Go.Proofs.YtgehmpnlfnlboaaGreatDoor
open Go.RowKit Go.Maps Go.WideMaps
set_option linter.unusedVariables false

set_option maxRecDepth 4000 in
set_option maxHeartbeats 2000000 in
theorem change_no (t : Int) (gs : List G.GrantD) (ps : List P.PlaceD) (b1 b2 : Nat) (w : World) (f : Value) (hA : P.LandAt w gs ps b1 b2) (hF : P.Fit gs ps) (hno : ¬ P.LandSay t gs ps) (ev : Value) (hev : w.cell? ⟨0, 0, none⟩ = some ev) (hev0 : 0 < w.heap.size) (hv : ∃ te pe, ev = .iface te pe) (hf : f = .func (.func 21) #[] #[]) :
    Calls Tryz.prog 20 #[.agg #[.int .i64 t, .slice (some ⟨b1, 0, none⟩) gs.length gs.length, .slice (some ⟨b2, 0, none⟩) ps.length ps.length], f] w fun e w' => e = .returned (.tuple #[.agg #[.int .i64 0, .slice none 0 0, .slice none 0 0], .slice none 0 0, ev]) ∧ Below w.heap.size w w' := by
  obtain ⟨te, pe, rfl⟩ := hv
  subst hf
  obtain ⟨W1, hW1⟩ : ∃ W1, W1 = (w.alloc (.cells #[.int .i64 t, .slice (some ⟨b1, 0, none⟩) gs.length gs.length, .slice (some ⟨b2, 0, none⟩) ps.length ps.length] 30)).alloc (.cells #[.int .i64 0, .slice none 0 0, .slice none 0 0] 30) := ⟨_, rfl⟩
  have HW1 : Hid (W1 = (w.alloc (.cells #[.int .i64 t, .slice (some ⟨b1, 0, none⟩) gs.length gs.length, .slice (some ⟨b2, 0, none⟩) ps.length ps.length] 30)).alloc (.cells #[.int .i64 0, .slice none 0 0, .slice none 0 0] 30)) := hW1
  have B1 : Hid (Below w.heap.size w W1) := by rw [hW1]; exact bl_alloc (bl_alloc (Below.refl _ _) _) _
  have OK : Hid (Calls Tryz.prog 41 #[.agg #[.int .i64 t, .slice (some ⟨b1, 0, none⟩) gs.length gs.length, .slice (some ⟨b2, 0, none⟩) ps.length ps.length]] W1 fun e w' => e = .returned (.bool false) ∧ Below W1.heap.size W1 w') := by
    refine (P.implLandOk t gs ps b1 b2 W1 (hA.keep B1.out) hF).mono ?_
    rintro e w' ⟨⟨q, rfl, hq⟩, hb⟩
    refine ⟨?_, hb⟩
    cases q with
    | false => rfl
    | true => exact (hno (hq.1 rfl)).elim
  have hz1 : W1.heap.size = w.heap.size + 2 := by rw [hW1]; simp
  have T1 : Hid (W1.heap[w.heap.size + 1]? = some (.cells #[.int .i64 0, .slice none 0 0, .slice none 0 0] 30 (0, 0))) := by
    rw [hW1]
    have h := heap_alloc_newL (w.alloc (.cells #[.int .i64 t, .slice (some ⟨b1, 0, none⟩) gs.length gs.length, .slice (some ⟨b2, 0, none⟩) ps.length ps.length] 30)) (.cells #[.int .i64 0, .slice none 0 0, .slice none 0 0] 30)
    rw [World.size_alloc] at h
    exact h
  clear hA hF hno hW1
  go_enter Tryz.func20, Tryz.ntmps20
  go_wp2_with fail
  rw [← HW1.out]
  refine OK.out.mono ?_
  rintro e w2 ⟨rfl, b2'⟩
  have he2 : w2.cell? ⟨0, 0, none⟩ = some (.iface te pe) := ((bl_trans B1.out b2').cell (p := ⟨0, 0, none⟩) hev0).trans hev
  have T3 : Hid (w2.heap[w.heap.size + 1]? = some (.cells #[.int .i64 0, .slice none 0 0, .slice none 0 0] 30 (0, 0))) := (b2'.block _ (by omega)).trans T1.out
  have T2 : Hid (w2.there (w.heap.size + 1) 0 3) := there_land ((b2'.block _ (by omega)).trans T1.out)
  have B2 : Hid (Below w.heap.size w w2) := bl_trans B1.out b2'
  clear b2' hev
  have hT := (T3.out)
  have t0 : w2.cell? ⟨w.heap.size + 1, 0, none⟩ = some (.int .i64 0) := by simp [World.cell?, hT]
  have t1 : w2.cell? ⟨w.heap.size + 1, 1, none⟩ = some (.slice none 0 0) := by simp [World.cell?, hT]
  have t2 : w2.cell? ⟨w.heap.size + 1, 2, none⟩ = some (.slice none 0 0) := by simp [World.cell?, hT]
  have z0 : w2.frozen? ⟨w.heap.size + 1, 0, none⟩ = false := by simp [World.frozen?, hT]
  have z1 : w2.frozen? ⟨w.heap.size + 1, 1, none⟩ = false := by simp [World.frozen?, hT]
  have z2 : w2.frozen? ⟨w.heap.size + 1, 2, none⟩ = false := by simp [World.frozen?, hT]
  have BF : Hid (∀ n, Below w.heap.size w ((((w2.drewN n).setCell ⟨w.heap.size + 1, 0, none⟩ (.int .i64 0)).setCell ⟨w.heap.size + 1, 1, none⟩ (.slice none 0 0)).setCell ⟨w.heap.size + 1, 2, none⟩ (.slice none 0 0))) := fun n => bl_set (bl_set (bl_set (⟨B2.out.os, B2.out.tape, B2.out.output, B2.out.size, B2.out.block⟩ : Below w.heap.size w (w2.drewN n)) (by show w.heap.size ≤ w.heap.size + 1; omega) _) (by show w.heap.size ≤ w.heap.size + 1; omega) _) (by show w.heap.size ≤ w.heap.size + 1; omega) _
  clear hT T2
  go_wp2_with fail
  go_region
  all_goals go_wp2
  all_goals exact bodyPost_ret (v := .tuple #[.agg #[.int .i64 0, .slice none 0 0, .slice none 0 0], .slice none 0 0, .iface te pe]) (by simp [results, Tryz.results20, go_sem, t0, t1, t2]) rfl ⟨rfl, BF.out _⟩
end Go.Proofs.YtgehmpnlfnlboaaGreatDoor
