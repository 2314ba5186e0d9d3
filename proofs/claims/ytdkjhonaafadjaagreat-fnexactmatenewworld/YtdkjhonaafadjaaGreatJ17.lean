import Derived.Test.YtdkjhonaafadjaaGreatJ16
import Derived.Laws.EntriesVeiled
/- MateLandOk: the program's side. -/
namespace Go.Proofs.YtdkjhonaafadjaaGreat.P
open Go.RowKit
set_option linter.unusedVariables false

theorem build_land (w : World) : Sem.run Tryz.prog (Instr.buildSlice 136 4 #[(0, .func (.func 104) #[] #[]), (1, .func (.func 105) #[] #[]), (2, .func (.func 106) #[] #[]), (3, .func (.func 107) #[] #[])]) w = .ok (.slice (some ⟨w.heap.size, 0, none⟩) 4 4) (w.alloc (.cells #[.func (.func 104) #[] #[], .func (.func 105) #[] #[], .func (.func 106) #[] #[], .func (.func 107) #[] #[]] 60)) := by kernel_rfl
theorem saysL_no {t : Int} {gs : List G.GrantD} {ps : List PlaceD} (h : LandSay t gs ps → False) : SaysL false t gs ps := ⟨fun h' => (by cases h'), fun h' => (h h').elim⟩
theorem three_land {w w' : World} {t : Int} {gs : List G.GrantD} {ps : List PlaceD} {b1 b2 : Nat} (hb : Below ((((w.alloc (.cells #[.int .i64 t, .slice (some ⟨b1, 0, none⟩) gs.length gs.length, .slice (some ⟨b2, 0, none⟩) ps.length ps.length] 27))).alloc (.cells #[.func (.func 104) #[] #[], .func (.func 105) #[] #[], .func (.func 106) #[] #[], .func (.func 107) #[] #[]] 60)).alloc (.cells #[.int .i64 t, .slice (some ⟨b1, 0, none⟩) gs.length gs.length, .slice (some ⟨b2, 0, none⟩) ps.length ps.length] 27)).heap.size ((((w.alloc (.cells #[.int .i64 t, .slice (some ⟨b1, 0, none⟩) gs.length gs.length, .slice (some ⟨b2, 0, none⟩) ps.length ps.length] 27))).alloc (.cells #[.func (.func 104) #[] #[], .func (.func 105) #[] #[], .func (.func 106) #[] #[], .func (.func 107) #[] #[]] 60)).alloc (.cells #[.int .i64 t, .slice (some ⟨b1, 0, none⟩) gs.length gs.length, .slice (some ⟨b2, 0, none⟩) ps.length ps.length] 27)) w') :
    (∀ k, w'.cell? ⟨w.heap.size + 1, k, none⟩ = (#[.func (.func 104) #[] #[], .func (.func 105) #[] #[], .func (.func 106) #[] #[], .func (.func 107) #[] #[]] : Array Value)[k]?) ∧ (∀ k, w'.cell? ⟨w.heap.size + 1 + 1, k, none⟩ = (#[.int .i64 t, .slice (some ⟨b1, 0, none⟩) gs.length gs.length, .slice (some ⟨b2, 0, none⟩) ps.length ps.length] : Array Value)[k]?) := by
  constructor
  · intro k
    rw [hb.cell (p := ⟨w.heap.size + 1, k, none⟩) (by simp)]
    simp [go_sem, World.cell?_alloc_past]
  · intro k
    rw [hb.cell (p := ⟨w.heap.size + 1 + 1, k, none⟩) (by simp)]
    simp [go_sem]

set_option maxRecDepth 4000 in
set_option maxHeartbeats 2000000 in
theorem implLandOk (t : Int) (gs : List G.GrantD) (ps : List PlaceD) (b1 b2 : Nat) (w : World) (hA : LandAt w gs ps b1 b2) (hF : Fit gs ps) :
    Calls Tryz.prog 80 #[.agg #[.int .i64 t, .slice (some ⟨b1, 0, none⟩) gs.length gs.length, .slice (some ⟨b2, 0, none⟩) ps.length ps.length]] w fun e w' => (∃ q : Bool, e = .returned (.bool q) ∧ SaysL q t gs ps) ∧ Below w.heap.size w w' := by
  have Hx0 : Hid (Below w.heap.size w ((((w.alloc (.cells #[.int .i64 t, .slice (some ⟨b1, 0, none⟩) gs.length gs.length, .slice (some ⟨b2, 0, none⟩) ps.length ps.length] 27))).alloc (.cells #[.func (.func 104) #[] #[], .func (.func 105) #[] #[], .func (.func 106) #[] #[], .func (.func 107) #[] #[]] 60)).alloc (.cells #[.int .i64 t, .slice (some ⟨b1, 0, none⟩) gs.length gs.length, .slice (some ⟨b2, 0, none⟩) ps.length ps.length] 27))) := bl_alloc (bl_alloc (bl_alloc (Below.refl _ _) _) _) _
  have HA0 : Hid (LandAt ((((w.alloc (.cells #[.int .i64 t, .slice (some ⟨b1, 0, none⟩) gs.length gs.length, .slice (some ⟨b2, 0, none⟩) ps.length ps.length] 27))).alloc (.cells #[.func (.func 104) #[] #[], .func (.func 105) #[] #[], .func (.func 106) #[] #[], .func (.func 107) #[] #[]] 60)).alloc (.cells #[.int .i64 t, .slice (some ⟨b1, 0, none⟩) gs.length gs.length, .slice (some ⟨b2, 0, none⟩) ps.length ps.length] 27)) gs ps b1 b2) := hA.keep Hx0.out
  have HF : Hid (Fit gs ps) := hF
  clear hA hF
  have hbv := build_land
  go_enter Tryz.func80, Tryz.ntmps80
  go_wp2_with go_in
  clear hbv
  refine wp_loop_rounds 5 ?_
  rw [rounds_succ]
  go_wp2_with fail
  refine (timeOk_any t _ _ _ _ _ _ _).mono ?_
  rintro e w1 ⟨rfl, c1⟩
  obtain ⟨q1, hq1⟩ : ∃ q, q = timeB t := ⟨_, rfl⟩
  have H1 : Hid (q1 = true ↔ timeB t = true) := by rw [hq1]; exact Iff.rfl
  rw [← hq1]
  have C1 : Hid (Below ((((w.alloc (.cells #[.int .i64 t, .slice (some ⟨b1, 0, none⟩) gs.length gs.length, .slice (some ⟨b2, 0, none⟩) ps.length ps.length] 27))).alloc (.cells #[.func (.func 104) #[] #[], .func (.func 105) #[] #[], .func (.func 106) #[] #[], .func (.func 107) #[] #[]] 60)).alloc (.cells #[.int .i64 t, .slice (some ⟨b1, 0, none⟩) gs.length gs.length, .slice (some ⟨b2, 0, none⟩) ps.length ps.length] 27)).heap.size ((((w.alloc (.cells #[.int .i64 t, .slice (some ⟨b1, 0, none⟩) gs.length gs.length, .slice (some ⟨b2, 0, none⟩) ps.length ps.length] 27))).alloc (.cells #[.func (.func 104) #[] #[], .func (.func 105) #[] #[], .func (.func 106) #[] #[], .func (.func 107) #[] #[]] 60)).alloc (.cells #[.int .i64 t, .slice (some ⟨b1, 0, none⟩) gs.length gs.length, .slice (some ⟨b2, 0, none⟩) ps.length ps.length] 27)) w1) := c1
  clear hq1 c1
  obtain ⟨kf1, km1⟩ := three_land C1.out
  cases q1
  · go_wp2
    go_ret
    exact ⟨⟨false, rfl, saysL_no (fun h => by have := H1.out.2 h.1; cases this)⟩, bl_trans Hx0.out C1.out⟩
  have G1 : Hid (timeB t = true) := H1.out.1 rfl
  clear H1
  have ht0 : 0 ≤ t := by have := G1.out; simp [timeB, inB] at this; omega
  have ht1 : t ≤ 2000000 := by have := G1.out; simp [timeB, inB] at this; omega
  have HA1 : Hid (LandAt w1 gs ps b1 b2) := HA0.out.keep C1.out
  go_wp2_with fail
  rw [rounds_succ]
  go_wp2_with fail
  refine (grantsOk_any t gs ps b1 b2 _ HA1.out HF.out ht0 ht1).mono ?_
  rintro e w2 ⟨⟨q2, rfl, h2⟩, c2⟩
  have H2 : Hid (q2 = true ↔ GrantsSay t gs) := h2
  have C2 : Hid (Below ((((w.alloc (.cells #[.int .i64 t, .slice (some ⟨b1, 0, none⟩) gs.length gs.length, .slice (some ⟨b2, 0, none⟩) ps.length ps.length] 27))).alloc (.cells #[.func (.func 104) #[] #[], .func (.func 105) #[] #[], .func (.func 106) #[] #[], .func (.func 107) #[] #[]] 60)).alloc (.cells #[.int .i64 t, .slice (some ⟨b1, 0, none⟩) gs.length gs.length, .slice (some ⟨b2, 0, none⟩) ps.length ps.length] 27)).heap.size ((((w.alloc (.cells #[.int .i64 t, .slice (some ⟨b1, 0, none⟩) gs.length gs.length, .slice (some ⟨b2, 0, none⟩) ps.length ps.length] 27))).alloc (.cells #[.func (.func 104) #[] #[], .func (.func 105) #[] #[], .func (.func 106) #[] #[], .func (.func 107) #[] #[]] 60)).alloc (.cells #[.int .i64 t, .slice (some ⟨b1, 0, none⟩) gs.length gs.length, .slice (some ⟨b2, 0, none⟩) ps.length ps.length] 27)) w2) := bl_trans C1.out c2
  clear h2 c2 kf1 km1
  obtain ⟨kf2, km2⟩ := three_land C2.out
  cases q2
  · go_wp2
    go_ret
    exact ⟨⟨false, rfl, saysL_no (fun h => by have := H2.out.2 h.2.1; cases this)⟩, bl_trans Hx0.out C2.out⟩
  have G2 : Hid (GrantsSay t gs) := H2.out.1 rfl
  clear H2
  have HA2 : Hid (LandAt w2 gs ps b1 b2) := HA0.out.keep C2.out
  go_wp2_with fail
  rw [rounds_succ]
  go_wp2_with fail
  refine (placesOk_any t gs ps b1 b2 _ HA2.out HF.out).mono ?_
  rintro e w3 ⟨⟨q3, rfl, h3⟩, c3⟩
  have H3 : Hid (q3 = true ↔ PlacesSay ps) := h3
  have C3 : Hid (Below ((((w.alloc (.cells #[.int .i64 t, .slice (some ⟨b1, 0, none⟩) gs.length gs.length, .slice (some ⟨b2, 0, none⟩) ps.length ps.length] 27))).alloc (.cells #[.func (.func 104) #[] #[], .func (.func 105) #[] #[], .func (.func 106) #[] #[], .func (.func 107) #[] #[]] 60)).alloc (.cells #[.int .i64 t, .slice (some ⟨b1, 0, none⟩) gs.length gs.length, .slice (some ⟨b2, 0, none⟩) ps.length ps.length] 27)).heap.size ((((w.alloc (.cells #[.int .i64 t, .slice (some ⟨b1, 0, none⟩) gs.length gs.length, .slice (some ⟨b2, 0, none⟩) ps.length ps.length] 27))).alloc (.cells #[.func (.func 104) #[] #[], .func (.func 105) #[] #[], .func (.func 106) #[] #[], .func (.func 107) #[] #[]] 60)).alloc (.cells #[.int .i64 t, .slice (some ⟨b1, 0, none⟩) gs.length gs.length, .slice (some ⟨b2, 0, none⟩) ps.length ps.length] 27)) w3) := bl_trans C2.out c3
  clear h3 c3 kf2 km2
  obtain ⟨kf3, km3⟩ := three_land C3.out
  cases q3
  · go_wp2
    go_ret
    exact ⟨⟨false, rfl, saysL_no (fun h => by have := H3.out.2 h.2.2.1; cases this)⟩, bl_trans Hx0.out C3.out⟩
  have G3 : Hid (PlacesSay ps) := H3.out.1 rfl
  clear H3
  have HA3 : Hid (LandAt w3 gs ps b1 b2) := HA0.out.keep C3.out
  go_wp2_with fail
  rw [rounds_succ]
  go_wp2_with fail
  refine (holdApart_any t gs ps b1 b2 _ HA3.out HF.out G3.out.1 (fun p hp => (G3.out.2.2 p hp).2.2.1)).mono ?_
  rintro e w4 ⟨⟨q4, rfl, h4⟩, c4⟩
  have H4 : Hid (q4 = true ↔ Apart ps) := h4.trans (apart_iff ps G3.out.2.2)
  have C4 : Hid (Below ((((w.alloc (.cells #[.int .i64 t, .slice (some ⟨b1, 0, none⟩) gs.length gs.length, .slice (some ⟨b2, 0, none⟩) ps.length ps.length] 27))).alloc (.cells #[.func (.func 104) #[] #[], .func (.func 105) #[] #[], .func (.func 106) #[] #[], .func (.func 107) #[] #[]] 60)).alloc (.cells #[.int .i64 t, .slice (some ⟨b1, 0, none⟩) gs.length gs.length, .slice (some ⟨b2, 0, none⟩) ps.length ps.length] 27)).heap.size ((((w.alloc (.cells #[.int .i64 t, .slice (some ⟨b1, 0, none⟩) gs.length gs.length, .slice (some ⟨b2, 0, none⟩) ps.length ps.length] 27))).alloc (.cells #[.func (.func 104) #[] #[], .func (.func 105) #[] #[], .func (.func 106) #[] #[], .func (.func 107) #[] #[]] 60)).alloc (.cells #[.int .i64 t, .slice (some ⟨b1, 0, none⟩) gs.length gs.length, .slice (some ⟨b2, 0, none⟩) ps.length ps.length] 27)) w4) := bl_trans C3.out c4
  clear h4 c4 kf3 km3
  obtain ⟨kf4, km4⟩ := three_land C4.out
  cases q4
  · go_wp2
    go_ret
    exact ⟨⟨false, rfl, saysL_no (fun h => by have := H4.out.2 h.2.2.2; cases this)⟩, bl_trans Hx0.out C4.out⟩
  have G4 : Hid (Apart ps) := H4.out.1 rfl
  clear H4
  have HA4 : Hid (LandAt w4 gs ps b1 b2) := HA0.out.keep C4.out
  go_wp2_with fail
  rw [rounds_succ]
  go_wp2
  go_ret
  exact ⟨⟨true, rfl, ⟨fun _ => ⟨G1.out, G2.out, G3.out, G4.out⟩, fun _ => rfl⟩⟩, bl_trans Hx0.out C4.out⟩
end Go.Proofs.YtdkjhonaafadjaaGreat.P
