/- FnExactMateForm: the law. -/
import Derived.Test.YteebdpnpeglimaaDoorFormP
import Derived.Test.YteebdpnpeglimaaDoorFormI
import Derived.Test.YteebdpnpeglimaaDoorFormS
namespace Go.Proofs.YteebdpnpeglimaaDoor
open Go.RowKit
set_option linter.unusedVariables false

theorem W.Sl.low {w : World} {v : Value} {l : List W.WantD} {B : Nat} (h : W.Sl w v l B) : W.Sl w v l 0 := by
  rcases h with h | ⟨g, cap, h1, h2, h3⟩
  · exact Or.inl h
  · exact Or.inr ⟨g, cap, h1, Nat.zero_le _, h3⟩
theorem W.Sl.row {w : World} {g n c : Nat} {l : List W.WantD} {B : Nat} (h : W.Sl w (.slice (some ⟨g, 0, none⟩) n c) l B) : W.RowsAt w g 0 l ∧ g < w.heap.size := by
  rcases h with ⟨h, -⟩ | ⟨g', cap, h1, h2, h3, h4, h5⟩
  · cases h
  · cases h1; exact ⟨h4, h3⟩
theorem par_in {w : World} {p : ParD} {g n c B : Nat} (h : W.Sl w (.slice (some ⟨g, 0, none⟩) n c) p.ws B) (hf : ∀ r ∈ p.ws, r.fits) (hl : p.ws.length ≤ 1048576 ∧ p.b.size ≤ 1048576 ∧ p.h.size ≤ 1048576 ∧ p.c.size ≤ 1048576) : ParIn w ⟨p.k, p.b, p.se, p.ws, p.h, p.c, p.t⟩ g :=
  ⟨hl.2.1, hl.2.2.1, hl.2.2.2, hl.1, hf, h.row.1, h.row.2⟩
/-- A parcel in a slot. -/
def ParV (p : ParD) (w : World) (v : Value) : Prop := ∃ b6, v = .agg #[.int .i64 p.k, .string p.b, .int .i64 p.se, .slice (some ⟨b6, 0, none⟩) p.ws.length p.ws.length, .string p.h, .string p.c, .int .i64 p.t] ∧ W.Sl w (.slice (some ⟨b6, 0, none⟩) p.ws.length p.ws.length) p.ws 0
theorem ParV.keep {p : ParD} {w w' : World} {v : Value} (h : ParV p w v) (hb : Below w.heap.size w w') : ParV p w' v := by
  obtain ⟨b, h1, h2⟩ := h
  exact ⟨b, h1, h2.keep hb⟩
def slL : Nat → Nat
  | 0 => 22
  | 1 => 23
  | 2 => 24
  | 3 => 25
  | 4 => 26
  | _ => 0
theorem slL_inj {i : Nat} (hi : i < 5) : ∀ j, j < 5 → slL j = slL i → j = i := by
  have h : ∀ a : Fin 5, ∀ b : Fin 5, slL b.val = slL a.val → b.val = a.val := by decide
  intro j hj e
  exact h ⟨i, hi⟩ ⟨j, hj⟩ e
theorem slL_out (k : Nat) (h : (List.range 5).all (fun i => slL i != k) = true) : ∀ i, i < 5 → slL i ≠ k := fun i hi e => by
  have h1 := List.all_eq_true.1 h i (List.mem_range.2 hi)
  rw [e] at h1
  simp at h1
theorem slL_far (j : Nat) (h2 : j < 22 ∨ 22 + 5 ≤ j) : ∀ i, i < 5 → slL i ≠ j := by
  have h : ∀ a : Fin 5, 22 ≤ slL a.val ∧ slL a.val < 22 + 5 := by decide
  intro i hi e
  have h3 := h ⟨i, hi⟩
  simp only [e] at h3
  omega
def GLf (p : ParD) (b2 : Nat) (v5 : Value) (w : World) : Nat → Value → Prop
  | 0, v => v = .agg #[.int .i64 p.k, .string p.b, .int .i64 p.se, .slice (some ⟨b2, 0, none⟩) p.ws.length p.ws.length, .string p.h, .string p.c, .int .i64 p.t]
  | 1, v => v = .agg #[.int .i64 p.k, .string p.b, .int .i64 p.se, v5, .string p.h, .string p.c, .int .i64 p.t]
  | 2, v => ParV p w v
  | 3, v => v = .bool true
  | 4, v => v = .bool false
  | _, _ => True
theorem GLf.keep {p : ParD} {b2 : Nat} {v5 : Value} {w w' : World} (hb : Below w.heap.size w w') : ∀ i v, GLf p b2 v5 w i v → GLf p b2 v5 w' i v
  | 0, _, h => h
  | 1, _, h => h
  | 2, _, h => ParV.keep h hb
  | 3, _, h => h
  | 4, _, h => h
  | _ + 5, _, h => h
set_option maxRecDepth 4000 in
set_option maxHeartbeats 8000000 in
theorem lawForm (p : ParD) (v5 : Value) (w : World) (i5 : W.In w v5 p.ws) (hb : p.b.size ≤ maxLen) (hh : p.h.size ≤ maxLen) (hc : p.c.size ≤ maxLen) (ht : Tab w) :
    Calls Tryd.prog 3 #[.agg #[.int .i64 p.k, .string p.b, .int .i64 p.se, v5, .string p.h, .string p.c, .int .i64 p.t]] w fun e w' => e = .returned (.bool true) ∧ Below w.heap.size w w' := by
  obtain ⟨W1, hW1⟩ : ∃ W1, W1 = w.alloc (.cells #[.int .i64 p.k, .string p.b, .int .i64 p.se, v5, .string p.h, .string p.c, .int .i64 p.t] 24) := ⟨_, rfl⟩
  have HB : Hid (Below w.heap.size w W1) := by rw [hW1]; exact bl_alloc (Below.refl _ _) _
  have H5 : Hid (W.In W1 v5 p.ws) := i5.keep HB.out
  have HTab : Hid (∀ y, Below W1.heap.size W1 y → Tab y) := fun y hb => (ht.keep HB.out).keep hb
  have KX : Hid (∀ y, Below W1.heap.size W1 y → ∀ k', y.cell? ⟨w.heap.size, k', none⟩ = (#[.int .i64 p.k, .string p.b, .int .i64 p.se, v5, .string p.h, .string p.c, .int .i64 p.t] : Array Value)[k']?) := by
    intro y hb k'
    rw [hW1] at hb
    rw [box_keep hb k']
    simp [go_sem]
  have HL1 : Hid (w.heap.size < W1.heap.size) := by rw [hW1]; show _ < _; simp
  have HW1 : Hid (W1 = w.alloc (.cells #[.int .i64 p.k, .string p.b, .int .i64 p.se, v5, .string p.h, .string p.c, .int .i64 p.t] 24)) := hW1
  have HF : Hid (∀ r ∈ p.ws, r.fits) := i5.fits
  have kb0 := KX.out W1 (Below.refl _ _) 0
  have kb1 := KX.out W1 (Below.refl _ _) 1
  clear hW1 ht i5
  go_enter Tryd.func3, Tryd.ntmps3
  go_wp2_with fail
  rw [← HW1.out]
  refine (szParcel_any p v5 1048576 W1 H5.out (by omega) (by omega) hb hh hc).mono ?_
  clear kb0 kb1
  rintro e w1 ⟨hx1, c1⟩
  have Y1 : Hid (Below W1.heap.size W1 w1) := c1
  clear c1
  have kc0 := KX.out w1 Y1.out 0
  have kc1 := KX.out w1 Y1.out 1
  have kc2 := KX.out w1 Y1.out 2
  have kc3 := KX.out w1 Y1.out 3
  have kc4 := KX.out w1 Y1.out 4
  have kc5 := KX.out w1 Y1.out 5
  have kc6 := KX.out w1 Y1.out 6
  rcases hx1 with rfl | ⟨x1, rfl, p1, hLL⟩
  · go_wp2_with fail
    go_ret
    exact ⟨rfl, bl_trans HB.out Y1.out⟩
  have LE : Hid (p.ws.length ≤ 1048576 ∧ p.b.size ≤ 1048576 ∧ p.h.size ≤ 1048576 ∧ p.c.size ≤ 1048576) := hLL
  have LL : Hid (p.ws.length ≤ 1048576) := hLL.1
  clear hLL hb hh hc
  obtain ⟨TX, hTX⟩ : ∃ TX, TX = formT ⟨p.k, p.b, p.se, p.ws, p.h, p.c, p.t⟩ := ⟨_, rfl⟩
  have HTX : Hid (TX = formT ⟨p.k, p.b, p.se, p.ws, p.h, p.c, p.t⟩) := hTX
  clear hTX
  go_wp2_with fail
  refine (toParcel_sl p v5 w1 (H5.out.keep Y1.out) LL.out).mono ?_
  clear kc0 kc1 kc2 kc3 kc4 kc5 kc6
  rintro e w2 ⟨b1, rfl, s1, c2⟩
  have S1 : Hid (W.Sl w2 (.slice (some ⟨b1, 0, none⟩) p.ws.length p.ws.length) p.ws w1.heap.size) := s1
  have Y2 : Hid (Below W1.heap.size W1 w2) := bl_trans Y1.out c2
  clear s1 c2
  go_wp2_with fail
  refine (specForm p.k p.b p.se p.ws p.h p.c p.t b1 p.ws.length w2 (par_in S1.out HF.out LE.out)).mono ?_
  rw [← HTX.out]
  rintro e w3 ⟨rfl, c3⟩
  have Y3 : Hid (Below W1.heap.size W1 w3) := bl_trans Y2.out c3
  clear c3
  have kd0 := KX.out w3 Y3.out 0
  have kd1 := KX.out w3 Y3.out 1
  have kd2 := KX.out w3 Y3.out 2
  have kd3 := KX.out w3 Y3.out 3
  have kd4 := KX.out w3 Y3.out 4
  have kd5 := KX.out w3 Y3.out 5
  have kd6 := KX.out w3 Y3.out 6
  go_wp2_with fail
  refine (toParcel_sl p v5 w3 (H5.out.keep Y3.out) LL.out).mono ?_
  clear kd0 kd1 kd2 kd3 kd4 kd5 kd6
  rintro e w4 ⟨b2, rfl, s2, c4⟩
  have Y4 : Hid (Below W1.heap.size W1 w4) := bl_trans Y3.out c4
  obtain ⟨w5, hw5⟩ : ∃ w5, w5 = w4.alloc (.cells #[.int .i64 p.k, .string p.b, .int .i64 p.se, .slice (some ⟨b2, 0, none⟩) p.ws.length p.ws.length, .string p.h, .string p.c, .int .i64 p.t] 29) := ⟨_, rfl⟩
  have B5 : Hid (Below w4.heap.size w4 w5) := by rw [hw5]; exact bl_alloc (Below.refl _ _) _
  have Y5 : Hid (Below W1.heap.size W1 w5) := bl_trans Y4.out B5.out
  have S5 : Hid (W.Sl w5 (.slice (some ⟨b2, 0, none⟩) p.ws.length p.ws.length) p.ws 0) := (s2.keep B5.out).low
  have K55 : Hid (∀ y, Below w5.heap.size w5 y → ∀ k', y.cell? ⟨w4.heap.size, k', none⟩ = (#[.int .i64 p.k, .string p.b, .int .i64 p.se, .slice (some ⟨b2, 0, none⟩) p.ws.length p.ws.length, .string p.h, .string p.c, .int .i64 p.t] : Array Value)[k']?) := by
    intro y hb k'
    rw [hw5] at hb
    rw [box_keep hb k']
    simp [go_sem]
  have HW5 : Hid (w5 = w4.alloc (.cells #[.int .i64 p.k, .string p.b, .int .i64 p.se, .slice (some ⟨b2, 0, none⟩) p.ws.length p.ws.length, .string p.h, .string p.c, .int .i64 p.t] 29)) := hw5
  clear hw5 c4 s2
  go_wp2_with fail
  rw [← HW5.out]
  refine (implForm p.k p.b p.se p.ws p.h p.c p.t b2 w5 (par_in S5.out HF.out LE.out) (HTab.out _ Y5.out)).mono ?_
  rw [← HTX.out]
  rintro e w6 ⟨rfl, c6⟩
  have B6 : Hid (Below w5.heap.size w5 w6) := c6
  have Y6 : Hid (Below W1.heap.size W1 w6) := bl_trans Y5.out c6
  clear c6
  have K5 : Hid (∀ y, Below w6.heap.size w6 y → ∀ k', y.cell? ⟨w4.heap.size, k', none⟩ = (#[.int .i64 p.k, .string p.b, .int .i64 p.se, .slice (some ⟨b2, 0, none⟩) p.ws.length p.ws.length, .string p.h, .string p.c, .int .i64 p.t] : Array Value)[k']?) := fun y hb => K55.out y (bl_trans B6.out hb)
  have K1 : Hid (∀ y, Below w6.heap.size w6 y → ∀ k', y.cell? ⟨w.heap.size, k', none⟩ = (#[.int .i64 p.k, .string p.b, .int .i64 p.se, v5, .string p.h, .string p.c, .int .i64 p.t] : Array Value)[k']?) := fun y hb => KX.out y (bl_trans Y6.out hb)
  have I5 : Hid (∀ y, Below w6.heap.size w6 y → W.In y v5 p.ws) := fun y hb => H5.out.keep (bl_trans Y6.out hb)
  have S2 : Hid (∀ y, Below w6.heap.size w6 y → W.Sl y (.slice (some ⟨b2, 0, none⟩) p.ws.length p.ws.length) p.ws 0) := fun y hb => S5.out.keep (bl_trans B6.out hb)
  go_wp2_with fail
  refine wp_region_any (by kernel_rfl) ?_
  refine reg_invP slL 5 (GLf p b2 v5) (fun y => Below w6.heap.size w6 y) (by decide) rfl (bl_drew (Below.refl _ _)) ?donelf ?steplf
  case donelf =>
    intro a y hI
    have r26 : a.tmps.getD 26 undef = .bool false := hI.all 4 (by omega)
    obtain ⟨l, hl, ha⟩ := frameP_of (lo := 22) (n := 5) hI.df hI.sz (fun j hj => hI.out j (fun i hi => slL_far j hj i hi)) (Nat.le_of_ble_eq_true rfl)
    have HY : Hid (Below w6.heap.size w6 y) := hI.d
    clear hI
    subst ha
    obtain ⟨q0, l0, rfl, hl0⟩ := lenP_succ hl
    obtain ⟨q1, l1, rfl, hl1⟩ := lenP_succ hl0
    obtain ⟨q2, l2, rfl, hl2⟩ := lenP_succ hl1
    obtain ⟨q3, l3, rfl, hl3⟩ := lenP_succ hl2
    obtain ⟨q4, l4, rfl, hl4⟩ := lenP_succ hl3
    obtain rfl := lenP_zero hl4
    simp only [List.take_succ_cons, List.take_zero, List.drop_succ_cons, List.drop_zero, List.cons_append, List.nil_append, Nat.reduceAdd] at r26 ⊢
    obtain rfl : q4 = .bool false := r26
    go_wp2_with fail
    go_ret
    exact ⟨rfl, bl_trans HB.out (bl_trans Y6.out HY.out)⟩
  case steplf =>
    intro listed x y i hI hi hlt
    obtain rfl | rfl | rfl | rfl | rfl : i = 0 ∨ i = 1 ∨ i = 2 ∨ i = 3 ∨ i = 4 := by omega
    · clear hi
      refine wpOp_plain rfl rfl ?_
      refine wp_cover (fun K hK => ?_)
      have i5 : x.tmps[5]?.getD undef = _ := ev_tmp (hI.out 5 (slL_out 5 (by decide)))
      have x0 := K5.out y hI.d 0
      have x1 := K5.out y hI.d 1
      have x2 := K5.out y hI.d 2
      have x3 := K5.out y hI.d 3
      have x4 := K5.out y hI.d 4
      have x5 := K5.out y hI.d 5
      have x6 := K5.out y hI.d 6
      have HJ : Hid (Ip _ _ _ _ _ _ _ _) := hI
      clear hI
      go_simp
      exact hK.out _ _ (HJ.out.put (by omega) (Nat.le_of_ble_eq_true rfl) (slL_inj (by omega)) (rfl) (fun j u _ h => h) HJ.out.d)
    · clear hi
      refine wpOp_plain rfl rfl ?_
      refine wp_cover (fun K hK => ?_)
      have i1 : x.tmps[1]?.getD undef = _ := ev_tmp (hI.out 1 (slL_out 1 (by decide)))
      have x0 := K1.out y hI.d 0
      have x1 := K1.out y hI.d 1
      have x2 := K1.out y hI.d 2
      have x3 := K1.out y hI.d 3
      have x4 := K1.out y hI.d 4
      have x5 := K1.out y hI.d 5
      have x6 := K1.out y hI.d 6
      have HJ : Hid (Ip _ _ _ _ _ _ _ _) := hI
      clear hI
      go_simp
      exact hK.out _ _ (HJ.out.put (by omega) (Nat.le_of_ble_eq_true rfl) (slL_inj (by omega)) (rfl) (fun j u _ h => h) HJ.out.d)
    · have gd1 := hI.good 1 (by omega) (waits_of hi (j := 1) (by rfl))
      clear hi
      refine wpOp_plain rfl rfl ?_
      refine wp_cover (fun K hK => ?_)
      have ed1 : x.tmps[23]?.getD undef = _ := ev_tmp gd1
      have HJ : Hid (Ip _ _ _ _ _ _ _ _) := hI
      clear hI gd1
      go_simp
      refine (toParcel_sl p v5 y (I5.out y HJ.out.d) LL.out).mono ?_
      rintro e y' ⟨b6, rfl, hs, hb⟩
      exact hK.out _ _ (HJ.out.put (by omega) (Nat.le_of_ble_eq_true rfl) (slL_inj (by omega)) (⟨b6, rfl, W.Sl.low hs⟩) (fun j u _ h => GLf.keep hb j u h) (bl_trans HJ.out.d hb))
    · have gd0 := hI.good 0 (by omega) (waits_of hi (j := 0) (by rfl))
      have gd2 := hI.good 2 (by omega) (waits_of hi (j := 2) (by rfl))
      clear hi
      refine wpOp_plain rfl rfl ?_
      refine wp_cover (fun K hK => ?_)
      have ed0 : x.tmps[22]?.getD undef = _ := ev_tmp gd0
      obtain ⟨b6, g4, g5⟩ := gd2
      have ed2 : x.tmps[24]?.getD undef = _ := ev_tmp g4
      clear g4
      have G5 : Hid (W.Sl y (.slice (some ⟨b6, 0, none⟩) p.ws.length p.ws.length) p.ws 0) := g5
      clear g5
      have HJ : Hid (Ip _ _ _ _ _ _ _ _) := hI
      clear hI gd0
      go_simp
      refine (eqParcel_sl p _ _ 0 0 y (S2.out y HJ.out.d) G5.out LL.out).mono ?_
      rintro e y' ⟨rfl, hb⟩
      exact hK.out _ _ (HJ.out.put (by omega) (Nat.le_of_ble_eq_true rfl) (slL_inj (by omega)) (rfl) (fun j u _ h => GLf.keep hb j u h) (bl_trans HJ.out.d hb))
    · have gd3 := hI.good 3 (by omega) (waits_of hi (j := 3) (by rfl))
      clear hi
      refine wpOp_plain rfl rfl ?_
      refine wp_cover (fun K hK => ?_)
      have ed3 : x.tmps[25]?.getD undef = _ := ev_tmp gd3
      have HJ : Hid (Ip _ _ _ _ _ _ _ _) := hI
      clear hI gd3
      go_simp
      exact hK.out _ _ (HJ.out.put (by omega) (Nat.le_of_ble_eq_true rfl) (slL_inj (by omega)) (rfl) (fun j u _ h => h) HJ.out.d)
end Go.Proofs.YteebdpnpeglimaaDoor
