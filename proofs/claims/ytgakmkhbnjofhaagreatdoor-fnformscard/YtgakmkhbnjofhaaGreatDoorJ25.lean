import Derived.Test.YtgakmkhbnjofhaaGreatDoorJ20
namespace Go.Proofs.YtgakmkhbnjofhaaGreatDoor
open Go.RowKit
set_option linter.unusedVariables false
set_option linter.unusedSimpArgs false
set_option maxRecDepth 4000 in
set_option maxHeartbeats 8000000 in
theorem implN2g (b : ByteArray) (se : Int) (ws : List W.WantD) (h c : ByteArray) (t : Int) (A : Option Addr) (cp : Nat) (w : World) (hP : ParSz ⟨2, b, se, ws, h, c, t⟩) (ht : Tab w) (hf : (namesB b h c t && noWantsB se ws.length) = false) :
  Calls Tryz.prog 5 #[.agg #[.int .i64 2, .string b, .int .i64 se, .slice A ws.length cp, .string h, .string c, .int .i64 t]] w fun e w' => e = .returned (.string ⟨#[]⟩) ∧ Below w.heap.size w w' := by
 obtain ⟨W1, hW1⟩ : ∃ W1, W1 = (w.alloc (.cells #[.int .i64 2, .string b, .int .i64 se, .slice A ws.length cp, .string h, .string c, .int .i64 t] 25)) := ⟨_, rfl⟩
 have HB : Hid (Below w.heap.size w W1) := by rw [hW1]; exact bl_alloc (Below.refl _ _) _
 have HL : Hid (w.heap.size < W1.heap.size) := by rw [hW1]; show _ < _; simp
 have HTab : Hid (∀ y, Below W1.heap.size W1 y → Tab y) := fun y hb => (ht.keep HB.out).keep hb
 have ZB : Hid (b.size ≤ maxLen) := Nat.le_trans hP.b (by unfold maxLen; decide)
 have ZH : Hid (h.size ≤ maxLen) := Nat.le_trans hP.h (by unfold maxLen; decide)
 have ZC : Hid (c.size ≤ maxLen) := Nat.le_trans hP.c (by unfold maxLen; decide)
 have SB : Hid (b.size ≤ 1048576) := hP.b
 have SH : Hid (h.size ≤ 1048576) := hP.h
 have SC : Hid (c.size ≤ 1048576) := hP.c
 have SL : ws.length ≤ 1048576 := hP.l
 have KX : Hid (∀ y, Below W1.heap.size W1 y → ∀ k', y.cell? ⟨w.heap.size, k', none⟩ = (#[.int .i64 2, .string b, .int .i64 se, .slice A ws.length cp, .string h, .string c, .int .i64 t] : Array Value)[k']?) := by
  intro y hb k'
  rw [hW1] at hb
  rw [box_keep hb k']
  simp [go_sem]
 have HW1 : Hid (W1 = (w.alloc (.cells #[.int .i64 2, .string b, .int .i64 se, .slice A ws.length cp, .string h, .string c, .int .i64 t] 25))) := hW1
 clear hW1 ht hP
 go_enter Tryz.func5, Tryz.ntmps5
 go_wp2_with (first | (go_at_call 20; rw [← HW1.out]; refine (find2 w.heap.size W1 (KX.out W1 (Below.refl _ _) 0) HL.out).mono ?_; rintro e w2 ⟨rfl, b2⟩; have Y : Hid (Below W1.heap.size W1 (w2.alloc (.cells #[.int .i64 2, .string ⟨#[97, 115, 107, 101, 100]⟩, .func (.func 76) #[] #[], .func (.func 77) #[] #[], .func (.func 78) #[] #[]] 51))) := bl_alloc b2 _; have Y2 : Hid (Below W1.heap.size W1 w2) := b2; clear b2; have kb0 := KX.out _ Y.out 0; have kb1 := KX.out _ Y.out 1; have kb2 := KX.out _ Y.out 2; have kb3 := KX.out _ Y.out 3; have kb4 := KX.out _ Y.out 4; have kb5 := KX.out _ Y.out 5; have kb6 := KX.out _ Y.out 6) | (go_at_call 76; refine (fitsHold_any 2 b se _ ws.length cp h c t _ ZB.out ZH.out ZC.out).mono ?_; rintro e w4 ⟨rfl, b4⟩; rw [hf]; obtain ⟨KF, Y4⟩ := form_keep Y.out b4; clear b4 kb0 kb1 kb2 kb3 kb4 kb5 kb6; have kc0 := KX.out _ Y4.out 0; have kc1 := KX.out _ Y4.out 1; have kc2 := KX.out _ Y4.out 2; have kc3 := KX.out _ Y4.out 3; have kc4 := KX.out _ Y4.out 4; have kc5 := KX.out _ Y4.out 5; have kc6 := KX.out _ Y4.out 6))
 go_ret
 exact ⟨rfl, bl_trans HB.out Y4.out⟩
def GY2g (bf : Nat) (b h c : ByteArray) (se t : Int) (ws : List W.WantD) (A : Option Addr) (cp : Nat) (w : World) : Nat → Value → Prop
 | 0, v => v = .pointer (some ⟨bf, 1, none⟩)
 | 1, v => v = .string ⟨#[97, 115, 107, 101, 100]⟩
 | 2, v => v = .pointer (some ⟨bf, 3, none⟩)
 | 3, v => v = .func (.func 77) #[] #[]
 | 4, v => v = .agg #[.int .i64 2, .string b, .int .i64 se, .slice A 0 cp, .string h, .string c, .int .i64 t]
 | 5, v => RowS [b, h, c, decT t] w v
 | 6, v => v = .string (lineT { data := #[97, 115, 107, 101, 100] } [b, h, c, decT t])
 | 7, v => v = .string (lineT { data := #[97, 115, 107, 101, 100] } [b, h, c, decT t])
 | _, _ => True
theorem GY2g.keep {bf : Nat} {b h c : ByteArray} {se t : Int} {ws : List W.WantD} {A : Option Addr} {cp : Nat} {w w' : World} (hb : Below w.heap.size w w') : ∀ i v, GY2g bf b h c se t ws A cp w i v → GY2g bf b h c se t ws A cp w' i v
 | 0, _, h => h
 | 1, _, h => h
 | 2, _, h => h
 | 3, _, h => h
 | 4, _, h => h
 | 5, _, h => RowS.keep h hb
 | 6, _, h => h
 | 7, _, h => h
 | _ + 8, _, h => h
set_option maxRecDepth 4000 in
set_option maxHeartbeats 8000000 in
theorem implY2g (b : ByteArray) (se : Int) (h c : ByteArray) (t : Int) (A : Option Addr) (cp : Nat) (w : World) (hP : ParSz ⟨2, b, se, [], h, c, t⟩) (ht : Tab w) (hf : (namesB b h c t && noWantsB se 0) = true) :
  Calls Tryz.prog 5 #[.agg #[.int .i64 2, .string b, .int .i64 se, .slice A 0 cp, .string h, .string c, .int .i64 t]] w fun e w' => e = .returned (.string (lineT { data := #[97, 115, 107, 101, 100] } [b, h, c, decT t])) ∧ Below w.heap.size w w' := by
 obtain ⟨W1, hW1⟩ : ∃ W1, W1 = (w.alloc (.cells #[.int .i64 2, .string b, .int .i64 se, .slice A 0 cp, .string h, .string c, .int .i64 t] 25)) := ⟨_, rfl⟩
 have HB : Hid (Below w.heap.size w W1) := by rw [hW1]; exact bl_alloc (Below.refl _ _) _
 have HL : Hid (w.heap.size < W1.heap.size) := by rw [hW1]; show _ < _; simp
 have HTab : Hid (∀ y, Below W1.heap.size W1 y → Tab y) := fun y hb => (ht.keep HB.out).keep hb
 have ZB : Hid (b.size ≤ maxLen) := Nat.le_trans hP.b (by unfold maxLen; decide)
 have ZH : Hid (h.size ≤ maxLen) := Nat.le_trans hP.h (by unfold maxLen; decide)
 have ZC : Hid (c.size ≤ maxLen) := Nat.le_trans hP.c (by unfold maxLen; decide)
 have SB : Hid (b.size ≤ 1048576) := hP.b
 have SH : Hid (h.size ≤ 1048576) := hP.h
 have SC : Hid (c.size ≤ 1048576) := hP.c
 have KX : Hid (∀ y, Below W1.heap.size W1 y → ∀ k', y.cell? ⟨w.heap.size, k', none⟩ = (#[.int .i64 2, .string b, .int .i64 se, .slice A 0 cp, .string h, .string c, .int .i64 t] : Array Value)[k']?) := by
  intro y hb k'
  rw [hW1] at hb
  rw [box_keep hb k']
  simp [go_sem]
 have HW1 : Hid (W1 = (w.alloc (.cells #[.int .i64 2, .string b, .int .i64 se, .slice A 0 cp, .string h, .string c, .int .i64 t] 25))) := hW1
 clear hW1 ht hP
 have FACT : (0 ≤ se ∧ se ≤ 1000000) ∧ (0 ≤ t ∧ t ≤ 1000000) := by
  have hh := hf
  unfold namesB noWantsB inB at hh
  simp only [Bool.and_eq_true, beq_iff_eq, decide_eq_true_eq] at hh
  omega
 have HS : Hid (0 ≤ se ∧ se ≤ 1000000) := FACT.1
 have HT : Hid (0 ≤ t ∧ t ≤ 1000000) := FACT.2
 clear FACT
 have HZ : Hid (∀ x ∈ [b, h, c, decT t], x.size ≤ 1000000000) := by
  have z1 := SB.out
  have z2 := SH.out
  have z3 := SC.out
  have z4 := decT_le se HS.out.1 (by have := HS.out.2; omega)
  have z5 := decT_le t HT.out.1 (by have := HT.out.2; omega)
  intro x hx
  simp only [List.mem_cons, List.not_mem_nil, or_false] at hx
  rcases hx with rfl | rfl | rfl | rfl
  all_goals omega
 go_enter Tryz.func5, Tryz.ntmps5
 go_wp2_with (first | (go_at_call 20; rw [← HW1.out]; refine (find2 w.heap.size W1 (KX.out W1 (Below.refl _ _) 0) HL.out).mono ?_; rintro e w2 ⟨rfl, b2⟩; have Y : Hid (Below W1.heap.size W1 (w2.alloc (.cells #[.int .i64 2, .string ⟨#[97, 115, 107, 101, 100]⟩, .func (.func 76) #[] #[], .func (.func 77) #[] #[], .func (.func 78) #[] #[]] 51))) := bl_alloc b2 _; have Y2 : Hid (Below W1.heap.size W1 w2) := b2; clear b2; have kb0 := KX.out _ Y.out 0; have kb1 := KX.out _ Y.out 1; have kb2 := KX.out _ Y.out 2; have kb3 := KX.out _ Y.out 3; have kb4 := KX.out _ Y.out 4; have kb5 := KX.out _ Y.out 5; have kb6 := KX.out _ Y.out 6) | (go_at_call 76; refine (fitsHold_any 2 b se _ 0 cp h c t _ ZB.out ZH.out ZC.out).mono ?_; rintro e w4 ⟨rfl, b4⟩; rw [hf]; obtain ⟨KF, Y4⟩ := form_keep Y.out b4; clear b4 kb0 kb1 kb2 kb3 kb4 kb5 kb6; have kc0 := KX.out _ Y4.out 0; have kc1 := KX.out _ Y4.out 1; have kc2 := KX.out _ Y4.out 2; have kc3 := KX.out _ Y4.out 3; have kc4 := KX.out _ Y4.out 4; have kc5 := KX.out _ Y4.out 5; have kc6 := KX.out _ Y4.out 6))
 refine wp_region_any (by kernel_rfl) ?_
 refine reg_invP slY 8 (GY2g w2.heap.size b h c se t [] A cp) (fun y => Below w4.heap.size w4 y) (by decide) rfl (bl_drew (Below.refl _ _)) ?doney2 ?stepy2
 case doney2 =>
  intro a y hI
  have r5 : a.tmps.getD 5 undef = .string (lineT { data := #[97, 115, 107, 101, 100] } [b, h, c, decT t]) := hI.all 7 (by omega)
  obtain ⟨l, hl, ha⟩ := frameP_two (lo := 22) (n := 7) (se := 5) hI.df hI.sz (lb rfl) (lb rfl) (fun j hj1 hj2 => hI.out j (fun i hi => slY_far j hj1 hj2 i hi))
  rw [r5] at ha
  have HY : Hid (Below w4.heap.size w4 y) := hI.d
  clear r5 hI
  subst ha
  obtain ⟨q0, l0, rfl, hl0⟩ := lenP_succ hl
  obtain ⟨q1, l1, rfl, hl1⟩ := lenP_succ hl0
  obtain ⟨q2, l2, rfl, hl2⟩ := lenP_succ hl1
  obtain ⟨q3, l3, rfl, hl3⟩ := lenP_succ hl2
  obtain ⟨q4, l4, rfl, hl4⟩ := lenP_succ hl3
  obtain ⟨q5, l5, rfl, hl5⟩ := lenP_succ hl4
  obtain ⟨q6, l6, rfl, hl6⟩ := lenP_succ hl5
  obtain rfl := lenP_zero hl6
  simp only [List.setIfInBounds_toArray, List.set_cons_succ, List.set_cons_zero, List.take_succ_cons, List.take_zero, List.drop_succ_cons, List.drop_zero, List.cons_append, List.nil_append, Nat.reduceAdd]
  have kd3 := KX.out y (bl_trans Y4.out HY.out) 3
  go_wp2_with fail
  refine wp_loop_rounds 1 ?_
  rw [rounds_succ]
  go_wp2_with fail
  go_ret
  exact ⟨rfl, bl_trans HB.out (bl_trans Y4.out HY.out)⟩
 case stepy2 =>
  intro listed x y i hI hi hlt
  obtain rfl | rfl | rfl | rfl | rfl | rfl | rfl | rfl : i = 0 ∨ i = 1 ∨ i = 2 ∨ i = 3 ∨ i = 4 ∨ i = 5 ∨ i = 6 ∨ i = 7 := by omega
  ·
   clear hi
   refine wpOp_plain rfl rfl (wp_cover fun K hK => ?_)
   have i3 : x.tmps[3]?.getD undef = _ := ev_tmp (hI.out 3 (slY_out 3 (by decide)))
   have HJ := hidP hI
   clear hI
   go_simp
   exact HJ.out.sm hK (by omega) (lb rfl) (slY_inj (by omega)) rfl
  ·
   have gd0 := hI.good 0 (by omega) (waits_of hi (j := 0) (by rfl))
   clear hi
   refine wpOp_plain rfl rfl (wp_cover fun K hK => ?_)
   have ed0 : x.tmps[22]?.getD undef = _ := ev_tmp gd0
   have k9 : y.cell? ⟨w2.heap.size, 1, none⟩ = some (.string ⟨#[97, 115, 107, 101, 100]⟩) := KF.out y hI.d 1
   have HJ := hidP hI
   clear hI gd0
   go_simp
   exact HJ.out.sm hK (by omega) (lb rfl) (slY_inj (by omega)) rfl
  ·
   clear hi
   refine wpOp_plain rfl rfl (wp_cover fun K hK => ?_)
   have i3 : x.tmps[3]?.getD undef = _ := ev_tmp (hI.out 3 (slY_out 3 (by decide)))
   have HJ := hidP hI
   clear hI
   go_simp
   exact HJ.out.sm hK (by omega) (lb rfl) (slY_inj (by omega)) rfl
  ·
   have gd2 := hI.good 2 (by omega) (waits_of hi (j := 2) (by rfl))
   clear hi
   refine wpOp_plain rfl rfl (wp_cover fun K hK => ?_)
   have ed2 : x.tmps[24]?.getD undef = _ := ev_tmp gd2
   have k9 : y.cell? ⟨w2.heap.size, 3, none⟩ = some (.func (.func 77) #[] #[]) := KF.out y hI.d 3
   have HJ := hidP hI
   clear hI gd2
   go_simp
   exact HJ.out.sm hK (by omega) (lb rfl) (slY_inj (by omega)) rfl
  ·
   clear hi
   refine wpOp_plain rfl rfl (wp_cover fun K hK => ?_)
   have i1 : x.tmps[1]?.getD undef = _ := ev_tmp (hI.out 1 (slY_out 1 (by decide)))
   have x0 := KX.out y (bl_trans Y4.out hI.d) 0
   have x1 := KX.out y (bl_trans Y4.out hI.d) 1
   have x2 := KX.out y (bl_trans Y4.out hI.d) 2
   have x3 := KX.out y (bl_trans Y4.out hI.d) 3
   have x4 := KX.out y (bl_trans Y4.out hI.d) 4
   have x5 := KX.out y (bl_trans Y4.out hI.d) 5
   have x6 := KX.out y (bl_trans Y4.out hI.d) 6
   have HJ := hidP hI
   clear hI
   go_simp
   exact HJ.out.sm hK (by omega) (lb rfl) (slY_inj (by omega)) rfl
  ·
   have gd3 := hI.good 3 (by omega) (waits_of hi (j := 3) (by rfl))
   have gd4 := hI.good 4 (by omega) (waits_of hi (j := 4) (by rfl))
   clear hi
   refine wpOp_plain rfl rfl (wp_cover fun K hK => ?_)
   have ed3 : x.tmps[25]?.getD undef = _ := ev_tmp gd3
   have ed4 : x.tmps[26]?.getD undef = _ := ev_tmp gd4
   have HJ := hidP hI
   clear hI gd3 gd4
   go_simp
   refine (writeHold 2 b se _ h c t y rfl HS.out HT.out (HTab.out y (bl_trans Y4.out HJ.out.d))).mono ?_
   rintro e y' ⟨⟨v7, rfl, hrow⟩, hb⟩
   exact hK.out _ _ (HJ.out.put (by omega) (lb rfl) (slY_inj (by omega)) (hrow) (fun j u _ h => GY2g.keep hb j u h) (bl_trans HJ.out.d hb))
  ·
   have gd1 := hI.good 1 (by omega) (waits_of hi (j := 1) (by rfl))
   have gd5 := hI.good 5 (by omega) (waits_of hi (j := 5) (by rfl))
   clear hi
   refine wpOp_plain rfl rfl (wp_cover fun K hK => ?_)
   have ed1 : x.tmps[23]?.getD undef = _ := ev_tmp gd1
   obtain ⟨g3, g4, g5, g6⟩ := gd5
   have ed5 : x.tmps[27]?.getD undef = _ := ev_tmp g4
   clear g4
   have G6 : Hid (∀ (j : Nat) x, ([b, h, c, decT t] : List ByteArray)[j]? = some x → y.cell? ⟨g3, j, none⟩ = some (.string x)) := g6
   clear g6
   have HJ := hidP hI
   clear hI gd1
   go_simp
   refine (implLine { data := #[97, 115, 107, 101, 100] } g3 4 [b, h, c, decT t] y G6.out g5 (lb rfl) (lb rfl) HZ.out (by decide)).mono ?_
   rintro e y' ⟨rfl, hb⟩
   exact hK.out _ _ (HJ.out.put (by omega) (lb rfl) (slY_inj (by omega)) (rfl) (fun j u _ h => GY2g.keep hb j u h) (bl_trans HJ.out.d hb))
  ·
   have gd6 := hI.good 6 (by omega) (waits_of hi (j := 6) (by rfl))
   clear hi
   refine wpOp_plain rfl rfl (wp_cover fun K hK => ?_)
   have ed6 : x.tmps[28]?.getD undef = _ := ev_tmp gd6
   have HJ := hidP hI
   clear hI gd6
   go_simp
   exact HJ.out.sm hK (by omega) (lb rfl) (slY_inj (by omega)) rfl
set_option maxRecDepth 4000 in
set_option maxHeartbeats 8000000 in
theorem implF2g (b : ByteArray) (se : Int) (ws : List W.WantD) (h c : ByteArray) (t : Int) (A : Option Addr) (cp : Nat) (w : World) (hP : ParSz ⟨2, b, se, ws, h, c, t⟩) (ht : Tab w) :
  Calls Tryz.prog 5 #[.agg #[.int .i64 2, .string b, .int .i64 se, .slice A ws.length cp, .string h, .string c, .int .i64 t]] w fun e w' => e = .returned (.string (formT ⟨2, b, se, ws, h, c, t⟩)) ∧ Below w.heap.size w w' := by
 cases hf : (namesB b h c t && noWantsB se ws.length)
 ·
  rw [hold_no (Or.inl rfl) hf]
  exact implN2g b se ws h c t A cp w hP ht hf
 ·
  rw [hold_yes (Or.inl rfl) [97, 115, 107, 101, 100] rfl hf]
  have hw : ws.length = 0 := by
   have hh := hf
   unfold namesB noWantsB at hh
   simp only [Bool.and_eq_true, beq_iff_eq] at hh
   omega
  obtain rfl : ws = [] := List.eq_nil_of_length_eq_zero hw
  exact implY2g b se h c t A cp w hP ht hf
set_option linter.unusedSimpArgs false
set_option maxRecDepth 4000 in
set_option maxHeartbeats 8000000 in
theorem implN3g (b : ByteArray) (se : Int) (ws : List W.WantD) (h c : ByteArray) (t : Int) (A : Option Addr) (cp : Nat) (w : World) (hP : ParSz ⟨3, b, se, ws, h, c, t⟩) (ht : Tab w) (hf : (namesB b h c t && noWantsB se ws.length) = false) :
  Calls Tryz.prog 5 #[.agg #[.int .i64 3, .string b, .int .i64 se, .slice A ws.length cp, .string h, .string c, .int .i64 t]] w fun e w' => e = .returned (.string ⟨#[]⟩) ∧ Below w.heap.size w w' := by
 obtain ⟨W1, hW1⟩ : ∃ W1, W1 = (w.alloc (.cells #[.int .i64 3, .string b, .int .i64 se, .slice A ws.length cp, .string h, .string c, .int .i64 t] 25)) := ⟨_, rfl⟩
 have HB : Hid (Below w.heap.size w W1) := by rw [hW1]; exact bl_alloc (Below.refl _ _) _
 have HL : Hid (w.heap.size < W1.heap.size) := by rw [hW1]; show _ < _; simp
 have HTab : Hid (∀ y, Below W1.heap.size W1 y → Tab y) := fun y hb => (ht.keep HB.out).keep hb
 have ZB : Hid (b.size ≤ maxLen) := Nat.le_trans hP.b (by unfold maxLen; decide)
 have ZH : Hid (h.size ≤ maxLen) := Nat.le_trans hP.h (by unfold maxLen; decide)
 have ZC : Hid (c.size ≤ maxLen) := Nat.le_trans hP.c (by unfold maxLen; decide)
 have SB : Hid (b.size ≤ 1048576) := hP.b
 have SH : Hid (h.size ≤ 1048576) := hP.h
 have SC : Hid (c.size ≤ 1048576) := hP.c
 have SL : ws.length ≤ 1048576 := hP.l
 have KX : Hid (∀ y, Below W1.heap.size W1 y → ∀ k', y.cell? ⟨w.heap.size, k', none⟩ = (#[.int .i64 3, .string b, .int .i64 se, .slice A ws.length cp, .string h, .string c, .int .i64 t] : Array Value)[k']?) := by
  intro y hb k'
  rw [hW1] at hb
  rw [box_keep hb k']
  simp [go_sem]
 have HW1 : Hid (W1 = (w.alloc (.cells #[.int .i64 3, .string b, .int .i64 se, .slice A ws.length cp, .string h, .string c, .int .i64 t] 25))) := hW1
 clear hW1 ht hP
 go_enter Tryz.func5, Tryz.ntmps5
 go_wp2_with (first | (go_at_call 20; rw [← HW1.out]; refine (find3 w.heap.size W1 (KX.out W1 (Below.refl _ _) 0) HL.out).mono ?_; rintro e w2 ⟨rfl, b2⟩; have Y : Hid (Below W1.heap.size W1 (w2.alloc (.cells #[.int .i64 3, .string ⟨#[103, 105, 118, 101, 110]⟩, .func (.func 76) #[] #[], .func (.func 77) #[] #[], .func (.func 78) #[] #[]] 51))) := bl_alloc b2 _; have Y2 : Hid (Below W1.heap.size W1 w2) := b2; clear b2; have kb0 := KX.out _ Y.out 0; have kb1 := KX.out _ Y.out 1; have kb2 := KX.out _ Y.out 2; have kb3 := KX.out _ Y.out 3; have kb4 := KX.out _ Y.out 4; have kb5 := KX.out _ Y.out 5; have kb6 := KX.out _ Y.out 6) | (go_at_call 76; refine (fitsHold_any 3 b se _ ws.length cp h c t _ ZB.out ZH.out ZC.out).mono ?_; rintro e w4 ⟨rfl, b4⟩; rw [hf]; obtain ⟨KF, Y4⟩ := form_keep Y.out b4; clear b4 kb0 kb1 kb2 kb3 kb4 kb5 kb6; have kc0 := KX.out _ Y4.out 0; have kc1 := KX.out _ Y4.out 1; have kc2 := KX.out _ Y4.out 2; have kc3 := KX.out _ Y4.out 3; have kc4 := KX.out _ Y4.out 4; have kc5 := KX.out _ Y4.out 5; have kc6 := KX.out _ Y4.out 6))
 go_ret
 exact ⟨rfl, bl_trans HB.out Y4.out⟩
def GY3g (bf : Nat) (b h c : ByteArray) (se t : Int) (ws : List W.WantD) (A : Option Addr) (cp : Nat) (w : World) : Nat → Value → Prop
 | 0, v => v = .pointer (some ⟨bf, 1, none⟩)
 | 1, v => v = .string ⟨#[103, 105, 118, 101, 110]⟩
 | 2, v => v = .pointer (some ⟨bf, 3, none⟩)
 | 3, v => v = .func (.func 77) #[] #[]
 | 4, v => v = .agg #[.int .i64 3, .string b, .int .i64 se, .slice A 0 cp, .string h, .string c, .int .i64 t]
 | 5, v => RowS [b, h, c, decT t] w v
 | 6, v => v = .string (lineT { data := #[103, 105, 118, 101, 110] } [b, h, c, decT t])
 | 7, v => v = .string (lineT { data := #[103, 105, 118, 101, 110] } [b, h, c, decT t])
 | _, _ => True
theorem GY3g.keep {bf : Nat} {b h c : ByteArray} {se t : Int} {ws : List W.WantD} {A : Option Addr} {cp : Nat} {w w' : World} (hb : Below w.heap.size w w') : ∀ i v, GY3g bf b h c se t ws A cp w i v → GY3g bf b h c se t ws A cp w' i v
 | 0, _, h => h
 | 1, _, h => h
 | 2, _, h => h
 | 3, _, h => h
 | 4, _, h => h
 | 5, _, h => RowS.keep h hb
 | 6, _, h => h
 | 7, _, h => h
 | _ + 8, _, h => h
set_option maxRecDepth 4000 in
set_option maxHeartbeats 8000000 in
theorem implY3g (b : ByteArray) (se : Int) (h c : ByteArray) (t : Int) (A : Option Addr) (cp : Nat) (w : World) (hP : ParSz ⟨3, b, se, [], h, c, t⟩) (ht : Tab w) (hf : (namesB b h c t && noWantsB se 0) = true) :
  Calls Tryz.prog 5 #[.agg #[.int .i64 3, .string b, .int .i64 se, .slice A 0 cp, .string h, .string c, .int .i64 t]] w fun e w' => e = .returned (.string (lineT { data := #[103, 105, 118, 101, 110] } [b, h, c, decT t])) ∧ Below w.heap.size w w' := by
 obtain ⟨W1, hW1⟩ : ∃ W1, W1 = (w.alloc (.cells #[.int .i64 3, .string b, .int .i64 se, .slice A 0 cp, .string h, .string c, .int .i64 t] 25)) := ⟨_, rfl⟩
 have HB : Hid (Below w.heap.size w W1) := by rw [hW1]; exact bl_alloc (Below.refl _ _) _
 have HL : Hid (w.heap.size < W1.heap.size) := by rw [hW1]; show _ < _; simp
 have HTab : Hid (∀ y, Below W1.heap.size W1 y → Tab y) := fun y hb => (ht.keep HB.out).keep hb
 have ZB : Hid (b.size ≤ maxLen) := Nat.le_trans hP.b (by unfold maxLen; decide)
 have ZH : Hid (h.size ≤ maxLen) := Nat.le_trans hP.h (by unfold maxLen; decide)
 have ZC : Hid (c.size ≤ maxLen) := Nat.le_trans hP.c (by unfold maxLen; decide)
 have SB : Hid (b.size ≤ 1048576) := hP.b
 have SH : Hid (h.size ≤ 1048576) := hP.h
 have SC : Hid (c.size ≤ 1048576) := hP.c
 have KX : Hid (∀ y, Below W1.heap.size W1 y → ∀ k', y.cell? ⟨w.heap.size, k', none⟩ = (#[.int .i64 3, .string b, .int .i64 se, .slice A 0 cp, .string h, .string c, .int .i64 t] : Array Value)[k']?) := by
  intro y hb k'
  rw [hW1] at hb
  rw [box_keep hb k']
  simp [go_sem]
 have HW1 : Hid (W1 = (w.alloc (.cells #[.int .i64 3, .string b, .int .i64 se, .slice A 0 cp, .string h, .string c, .int .i64 t] 25))) := hW1
 clear hW1 ht hP
 have FACT : (0 ≤ se ∧ se ≤ 1000000) ∧ (0 ≤ t ∧ t ≤ 1000000) := by
  have hh := hf
  unfold namesB noWantsB inB at hh
  simp only [Bool.and_eq_true, beq_iff_eq, decide_eq_true_eq] at hh
  omega
 have HS : Hid (0 ≤ se ∧ se ≤ 1000000) := FACT.1
 have HT : Hid (0 ≤ t ∧ t ≤ 1000000) := FACT.2
 clear FACT
 have HZ : Hid (∀ x ∈ [b, h, c, decT t], x.size ≤ 1000000000) := by
  have z1 := SB.out
  have z2 := SH.out
  have z3 := SC.out
  have z4 := decT_le se HS.out.1 (by have := HS.out.2; omega)
  have z5 := decT_le t HT.out.1 (by have := HT.out.2; omega)
  intro x hx
  simp only [List.mem_cons, List.not_mem_nil, or_false] at hx
  rcases hx with rfl | rfl | rfl | rfl
  all_goals omega
 go_enter Tryz.func5, Tryz.ntmps5
 go_wp2_with (first | (go_at_call 20; rw [← HW1.out]; refine (find3 w.heap.size W1 (KX.out W1 (Below.refl _ _) 0) HL.out).mono ?_; rintro e w2 ⟨rfl, b2⟩; have Y : Hid (Below W1.heap.size W1 (w2.alloc (.cells #[.int .i64 3, .string ⟨#[103, 105, 118, 101, 110]⟩, .func (.func 76) #[] #[], .func (.func 77) #[] #[], .func (.func 78) #[] #[]] 51))) := bl_alloc b2 _; have Y2 : Hid (Below W1.heap.size W1 w2) := b2; clear b2; have kb0 := KX.out _ Y.out 0; have kb1 := KX.out _ Y.out 1; have kb2 := KX.out _ Y.out 2; have kb3 := KX.out _ Y.out 3; have kb4 := KX.out _ Y.out 4; have kb5 := KX.out _ Y.out 5; have kb6 := KX.out _ Y.out 6) | (go_at_call 76; refine (fitsHold_any 3 b se _ 0 cp h c t _ ZB.out ZH.out ZC.out).mono ?_; rintro e w4 ⟨rfl, b4⟩; rw [hf]; obtain ⟨KF, Y4⟩ := form_keep Y.out b4; clear b4 kb0 kb1 kb2 kb3 kb4 kb5 kb6; have kc0 := KX.out _ Y4.out 0; have kc1 := KX.out _ Y4.out 1; have kc2 := KX.out _ Y4.out 2; have kc3 := KX.out _ Y4.out 3; have kc4 := KX.out _ Y4.out 4; have kc5 := KX.out _ Y4.out 5; have kc6 := KX.out _ Y4.out 6))
 refine wp_region_any (by kernel_rfl) ?_
 refine reg_invP slY 8 (GY3g w2.heap.size b h c se t [] A cp) (fun y => Below w4.heap.size w4 y) (by decide) rfl (bl_drew (Below.refl _ _)) ?doney3 ?stepy3
 case doney3 =>
  intro a y hI
  have r5 : a.tmps.getD 5 undef = .string (lineT { data := #[103, 105, 118, 101, 110] } [b, h, c, decT t]) := hI.all 7 (by omega)
  obtain ⟨l, hl, ha⟩ := frameP_two (lo := 22) (n := 7) (se := 5) hI.df hI.sz (lb rfl) (lb rfl) (fun j hj1 hj2 => hI.out j (fun i hi => slY_far j hj1 hj2 i hi))
  rw [r5] at ha
  have HY : Hid (Below w4.heap.size w4 y) := hI.d
  clear r5 hI
  subst ha
  obtain ⟨q0, l0, rfl, hl0⟩ := lenP_succ hl
  obtain ⟨q1, l1, rfl, hl1⟩ := lenP_succ hl0
  obtain ⟨q2, l2, rfl, hl2⟩ := lenP_succ hl1
  obtain ⟨q3, l3, rfl, hl3⟩ := lenP_succ hl2
  obtain ⟨q4, l4, rfl, hl4⟩ := lenP_succ hl3
  obtain ⟨q5, l5, rfl, hl5⟩ := lenP_succ hl4
  obtain ⟨q6, l6, rfl, hl6⟩ := lenP_succ hl5
  obtain rfl := lenP_zero hl6
  simp only [List.setIfInBounds_toArray, List.set_cons_succ, List.set_cons_zero, List.take_succ_cons, List.take_zero, List.drop_succ_cons, List.drop_zero, List.cons_append, List.nil_append, Nat.reduceAdd]
  have kd3 := KX.out y (bl_trans Y4.out HY.out) 3
  go_wp2_with fail
  refine wp_loop_rounds 1 ?_
  rw [rounds_succ]
  go_wp2_with fail
  go_ret
  exact ⟨rfl, bl_trans HB.out (bl_trans Y4.out HY.out)⟩
 case stepy3 =>
  intro listed x y i hI hi hlt
  obtain rfl | rfl | rfl | rfl | rfl | rfl | rfl | rfl : i = 0 ∨ i = 1 ∨ i = 2 ∨ i = 3 ∨ i = 4 ∨ i = 5 ∨ i = 6 ∨ i = 7 := by omega
  ·
   clear hi
   refine wpOp_plain rfl rfl (wp_cover fun K hK => ?_)
   have i3 : x.tmps[3]?.getD undef = _ := ev_tmp (hI.out 3 (slY_out 3 (by decide)))
   have HJ := hidP hI
   clear hI
   go_simp
   exact HJ.out.sm hK (by omega) (lb rfl) (slY_inj (by omega)) rfl
  ·
   have gd0 := hI.good 0 (by omega) (waits_of hi (j := 0) (by rfl))
   clear hi
   refine wpOp_plain rfl rfl (wp_cover fun K hK => ?_)
   have ed0 : x.tmps[22]?.getD undef = _ := ev_tmp gd0
   have k9 : y.cell? ⟨w2.heap.size, 1, none⟩ = some (.string ⟨#[103, 105, 118, 101, 110]⟩) := KF.out y hI.d 1
   have HJ := hidP hI
   clear hI gd0
   go_simp
   exact HJ.out.sm hK (by omega) (lb rfl) (slY_inj (by omega)) rfl
  ·
   clear hi
   refine wpOp_plain rfl rfl (wp_cover fun K hK => ?_)
   have i3 : x.tmps[3]?.getD undef = _ := ev_tmp (hI.out 3 (slY_out 3 (by decide)))
   have HJ := hidP hI
   clear hI
   go_simp
   exact HJ.out.sm hK (by omega) (lb rfl) (slY_inj (by omega)) rfl
  ·
   have gd2 := hI.good 2 (by omega) (waits_of hi (j := 2) (by rfl))
   clear hi
   refine wpOp_plain rfl rfl (wp_cover fun K hK => ?_)
   have ed2 : x.tmps[24]?.getD undef = _ := ev_tmp gd2
   have k9 : y.cell? ⟨w2.heap.size, 3, none⟩ = some (.func (.func 77) #[] #[]) := KF.out y hI.d 3
   have HJ := hidP hI
   clear hI gd2
   go_simp
   exact HJ.out.sm hK (by omega) (lb rfl) (slY_inj (by omega)) rfl
  ·
   clear hi
   refine wpOp_plain rfl rfl (wp_cover fun K hK => ?_)
   have i1 : x.tmps[1]?.getD undef = _ := ev_tmp (hI.out 1 (slY_out 1 (by decide)))
   have x0 := KX.out y (bl_trans Y4.out hI.d) 0
   have x1 := KX.out y (bl_trans Y4.out hI.d) 1
   have x2 := KX.out y (bl_trans Y4.out hI.d) 2
   have x3 := KX.out y (bl_trans Y4.out hI.d) 3
   have x4 := KX.out y (bl_trans Y4.out hI.d) 4
   have x5 := KX.out y (bl_trans Y4.out hI.d) 5
   have x6 := KX.out y (bl_trans Y4.out hI.d) 6
   have HJ := hidP hI
   clear hI
   go_simp
   exact HJ.out.sm hK (by omega) (lb rfl) (slY_inj (by omega)) rfl
  ·
   have gd3 := hI.good 3 (by omega) (waits_of hi (j := 3) (by rfl))
   have gd4 := hI.good 4 (by omega) (waits_of hi (j := 4) (by rfl))
   clear hi
   refine wpOp_plain rfl rfl (wp_cover fun K hK => ?_)
   have ed3 : x.tmps[25]?.getD undef = _ := ev_tmp gd3
   have ed4 : x.tmps[26]?.getD undef = _ := ev_tmp gd4
   have HJ := hidP hI
   clear hI gd3 gd4
   go_simp
   refine (writeHold 3 b se _ h c t y rfl HS.out HT.out (HTab.out y (bl_trans Y4.out HJ.out.d))).mono ?_
   rintro e y' ⟨⟨v7, rfl, hrow⟩, hb⟩
   exact hK.out _ _ (HJ.out.put (by omega) (lb rfl) (slY_inj (by omega)) (hrow) (fun j u _ h => GY3g.keep hb j u h) (bl_trans HJ.out.d hb))
  ·
   have gd1 := hI.good 1 (by omega) (waits_of hi (j := 1) (by rfl))
   have gd5 := hI.good 5 (by omega) (waits_of hi (j := 5) (by rfl))
   clear hi
   refine wpOp_plain rfl rfl (wp_cover fun K hK => ?_)
   have ed1 : x.tmps[23]?.getD undef = _ := ev_tmp gd1
   obtain ⟨g3, g4, g5, g6⟩ := gd5
   have ed5 : x.tmps[27]?.getD undef = _ := ev_tmp g4
   clear g4
   have G6 : Hid (∀ (j : Nat) x, ([b, h, c, decT t] : List ByteArray)[j]? = some x → y.cell? ⟨g3, j, none⟩ = some (.string x)) := g6
   clear g6
   have HJ := hidP hI
   clear hI gd1
   go_simp
   refine (implLine { data := #[103, 105, 118, 101, 110] } g3 4 [b, h, c, decT t] y G6.out g5 (lb rfl) (lb rfl) HZ.out (by decide)).mono ?_
   rintro e y' ⟨rfl, hb⟩
   exact hK.out _ _ (HJ.out.put (by omega) (lb rfl) (slY_inj (by omega)) (rfl) (fun j u _ h => GY3g.keep hb j u h) (bl_trans HJ.out.d hb))
  ·
   have gd6 := hI.good 6 (by omega) (waits_of hi (j := 6) (by rfl))
   clear hi
   refine wpOp_plain rfl rfl (wp_cover fun K hK => ?_)
   have ed6 : x.tmps[28]?.getD undef = _ := ev_tmp gd6
   have HJ := hidP hI
   clear hI gd6
   go_simp
   exact HJ.out.sm hK (by omega) (lb rfl) (slY_inj (by omega)) rfl
set_option maxRecDepth 4000 in
set_option maxHeartbeats 8000000 in
theorem implF3g (b : ByteArray) (se : Int) (ws : List W.WantD) (h c : ByteArray) (t : Int) (A : Option Addr) (cp : Nat) (w : World) (hP : ParSz ⟨3, b, se, ws, h, c, t⟩) (ht : Tab w) :
  Calls Tryz.prog 5 #[.agg #[.int .i64 3, .string b, .int .i64 se, .slice A ws.length cp, .string h, .string c, .int .i64 t]] w fun e w' => e = .returned (.string (formT ⟨3, b, se, ws, h, c, t⟩)) ∧ Below w.heap.size w w' := by
 cases hf : (namesB b h c t && noWantsB se ws.length)
 ·
  rw [hold_no (Or.inr (Or.inl rfl)) hf]
  exact implN3g b se ws h c t A cp w hP ht hf
 ·
  rw [hold_yes (Or.inr (Or.inl rfl)) [103, 105, 118, 101, 110] rfl hf]
  have hw : ws.length = 0 := by
   have hh := hf
   unfold namesB noWantsB at hh
   simp only [Bool.and_eq_true, beq_iff_eq] at hh
   omega
  obtain rfl : ws = [] := List.eq_nil_of_length_eq_zero hw
  exact implY3g b se h c t A cp w hP ht hf
end Go.Proofs.YtgakmkhbnjofhaaGreatDoor
