import Derived.Test.YtgakmkhbnjofhaaGreatDoorJ20
import Derived.Test.YtgakmkhbnjofhaaGreatDoorJ24
import Derived.Test.YtgakmkhbnjofhaaGreatDoorJ25
import Derived.Test.YtgakmkhbnjofhaaGreatDoorJ26
import Derived.Test.YtgakmkhbnjofhaaGreatDoorJ21
namespace Go.Proofs.YtgakmkhbnjofhaaGreatDoor
open Go.RowKit
set_option linter.unusedVariables false
set_option linter.unusedSimpArgs false
set_option maxRecDepth 4000 in
set_option maxHeartbeats 8000000 in
theorem implN6g (b : ByteArray) (se : Int) (ws : List W.WantD) (h c : ByteArray) (t : Int) (A : Option Addr) (cp : Nat) (w : World) (hP : ParSz ⟨6, b, se, ws, h, c, t⟩) (ht : Tab w) (hf : hereB b h c se t ws.length = false) :
  Calls Tryz.prog 5 #[.agg #[.int .i64 6, .string b, .int .i64 se, .slice A ws.length cp, .string h, .string c, .int .i64 t]] w fun e w' => e = .returned (.string ⟨#[]⟩) ∧ Below w.heap.size w w' := by
 obtain ⟨W1, hW1⟩ : ∃ W1, W1 = (w.alloc (.cells #[.int .i64 6, .string b, .int .i64 se, .slice A ws.length cp, .string h, .string c, .int .i64 t] 25)) := ⟨_, rfl⟩
 have HB : Hid (Below w.heap.size w W1) := by rw [hW1]; exact bl_alloc (Below.refl _ _) _
 have HL : Hid (w.heap.size < W1.heap.size) := by rw [hW1]; show _ < _; simp
 have HTab : Hid (∀ y, Below W1.heap.size W1 y → Tab y) := fun y hb => (ht.keep HB.out).keep hb
 have ZB : Hid (b.size ≤ maxLen) := Nat.le_trans hP.b (by unfold maxLen; decide)
 have ZH : Hid (h.size ≤ maxLen) := Nat.le_trans hP.h (by unfold maxLen; decide)
 have ZC : Hid (c.size ≤ maxLen) := Nat.le_trans hP.c (by unfold maxLen; decide)
 have SB : Hid (b.size ≤ 1048576) := hP.b
 have SH : Hid (h.size ≤ 1048576) := hP.h
 have SC : Hid (c.size ≤ 1048576) := hP.c
 have SL : ws.length ≤ 1048576 := hP.l
 have KX : Hid (∀ y, Below W1.heap.size W1 y → ∀ k', y.cell? ⟨w.heap.size, k', none⟩ = (#[.int .i64 6, .string b, .int .i64 se, .slice A ws.length cp, .string h, .string c, .int .i64 t] : Array Value)[k']?) := by
  intro y hb k'
  rw [hW1] at hb
  rw [box_keep hb k']
  simp [go_sem]
 have HW1 : Hid (W1 = (w.alloc (.cells #[.int .i64 6, .string b, .int .i64 se, .slice A ws.length cp, .string h, .string c, .int .i64 t] 25))) := hW1
 clear hW1 ht hP
 go_enter Tryz.func5, Tryz.ntmps5
 go_wp2_with (first | (go_at_call 20; rw [← HW1.out]; refine (find6 w.heap.size W1 (KX.out W1 (Below.refl _ _) 0) HL.out).mono ?_; rintro e w2 ⟨rfl, b2⟩; have Y : Hid (Below W1.heap.size W1 (w2.alloc (.cells #[.int .i64 6, .string ⟨#[104, 101, 114, 101]⟩, .func (.func 82) #[] #[], .func (.func 74) #[] #[], .func (.func 75) #[] #[]] 51))) := bl_alloc b2 _; have Y2 : Hid (Below W1.heap.size W1 w2) := b2; clear b2; have kb0 := KX.out _ Y.out 0; have kb1 := KX.out _ Y.out 1; have kb2 := KX.out _ Y.out 2; have kb3 := KX.out _ Y.out 3; have kb4 := KX.out _ Y.out 4; have kb5 := KX.out _ Y.out 5; have kb6 := KX.out _ Y.out 6) | (go_at_call 82; refine (fitsHere_any 6 b se _ ws.length cp h c t _ ZB.out ZH.out ZC.out).mono ?_; rintro e w4 ⟨rfl, b4⟩; rw [hf]; obtain ⟨KF, Y4⟩ := form_keep Y.out b4; clear b4 kb0 kb1 kb2 kb3 kb4 kb5 kb6; have kc0 := KX.out _ Y4.out 0; have kc1 := KX.out _ Y4.out 1; have kc2 := KX.out _ Y4.out 2; have kc3 := KX.out _ Y4.out 3; have kc4 := KX.out _ Y4.out 4; have kc5 := KX.out _ Y4.out 5; have kc6 := KX.out _ Y4.out 6))
 go_ret
 exact ⟨rfl, bl_trans HB.out Y4.out⟩
def GY6g (bf : Nat) (b h c : ByteArray) (se t : Int) (ws : List W.WantD) (A : Option Addr) (cp : Nat) (w : World) : Nat → Value → Prop
 | 0, v => v = .pointer (some ⟨bf, 1, none⟩)
 | 1, v => v = .string ⟨#[104, 101, 114, 101]⟩
 | 2, v => v = .pointer (some ⟨bf, 3, none⟩)
 | 3, v => v = .func (.func 74) #[] #[]
 | 4, v => v = .agg #[.int .i64 6, .string b, .int .i64 se, .slice A 0 cp, .string h, .string c, .int .i64 t]
 | 5, v => RowS [b, decT se] w v
 | 6, v => v = .string (lineT { data := #[104, 101, 114, 101] } [b, decT se])
 | 7, v => v = .string (lineT { data := #[104, 101, 114, 101] } [b, decT se])
 | _, _ => True
theorem GY6g.keep {bf : Nat} {b h c : ByteArray} {se t : Int} {ws : List W.WantD} {A : Option Addr} {cp : Nat} {w w' : World} (hb : Below w.heap.size w w') : ∀ i v, GY6g bf b h c se t ws A cp w i v → GY6g bf b h c se t ws A cp w' i v
 | 0, _, h => h
 | 1, _, h => h
 | 2, _, h => h
 | 3, _, h => h
 | 4, _, h => h
 | 5, _, h => RowS.keep h hb
 | 6, _, h => h
 | 7, _, h => h
 | _ + 8, _, h => h
set_option maxRecDepth 4000 in
set_option maxHeartbeats 8000000 in
theorem implY6g (b : ByteArray) (se : Int) (h c : ByteArray) (t : Int) (A : Option Addr) (cp : Nat) (w : World) (hP : ParSz ⟨6, b, se, [], h, c, t⟩) (ht : Tab w) (hf : hereB b h c se t 0 = true) :
  Calls Tryz.prog 5 #[.agg #[.int .i64 6, .string b, .int .i64 se, .slice A 0 cp, .string h, .string c, .int .i64 t]] w fun e w' => e = .returned (.string (lineT { data := #[104, 101, 114, 101] } [b, decT se])) ∧ Below w.heap.size w w' := by
 obtain ⟨W1, hW1⟩ : ∃ W1, W1 = (w.alloc (.cells #[.int .i64 6, .string b, .int .i64 se, .slice A 0 cp, .string h, .string c, .int .i64 t] 25)) := ⟨_, rfl⟩
 have HB : Hid (Below w.heap.size w W1) := by rw [hW1]; exact bl_alloc (Below.refl _ _) _
 have HL : Hid (w.heap.size < W1.heap.size) := by rw [hW1]; show _ < _; simp
 have HTab : Hid (∀ y, Below W1.heap.size W1 y → Tab y) := fun y hb => (ht.keep HB.out).keep hb
 have ZB : Hid (b.size ≤ maxLen) := Nat.le_trans hP.b (by unfold maxLen; decide)
 have ZH : Hid (h.size ≤ maxLen) := Nat.le_trans hP.h (by unfold maxLen; decide)
 have ZC : Hid (c.size ≤ maxLen) := Nat.le_trans hP.c (by unfold maxLen; decide)
 have SB : Hid (b.size ≤ 1048576) := hP.b
 have SH : Hid (h.size ≤ 1048576) := hP.h
 have SC : Hid (c.size ≤ 1048576) := hP.c
 have KX : Hid (∀ y, Below W1.heap.size W1 y → ∀ k', y.cell? ⟨w.heap.size, k', none⟩ = (#[.int .i64 6, .string b, .int .i64 se, .slice A 0 cp, .string h, .string c, .int .i64 t] : Array Value)[k']?) := by
  intro y hb k'
  rw [hW1] at hb
  rw [box_keep hb k']
  simp [go_sem]
 have HW1 : Hid (W1 = (w.alloc (.cells #[.int .i64 6, .string b, .int .i64 se, .slice A 0 cp, .string h, .string c, .int .i64 t] 25))) := hW1
 clear hW1 ht hP
 have FACT : (0 ≤ se ∧ se ≤ 1000000) ∧ (0 ≤ t ∧ t ≤ 1000000) := by
  have hh := hf
  unfold hereB noHoldB inB at hh
  simp only [Bool.and_eq_true, beq_iff_eq, decide_eq_true_eq] at hh
  omega
 have HS : Hid (0 ≤ se ∧ se ≤ 1000000) := FACT.1
 have HT : Hid (0 ≤ t ∧ t ≤ 1000000) := FACT.2
 clear FACT
 have HZ : Hid (∀ x ∈ [b, decT se], x.size ≤ 1000000000) := by
  have z1 := SB.out
  have z2 := SH.out
  have z3 := SC.out
  have z4 := decT_le se HS.out.1 (by have := HS.out.2; omega)
  have z5 := decT_le t HT.out.1 (by have := HT.out.2; omega)
  intro x hx
  simp only [List.mem_cons, List.not_mem_nil, or_false] at hx
  rcases hx with rfl | rfl
  all_goals omega
 go_enter Tryz.func5, Tryz.ntmps5
 go_wp2_with (first | (go_at_call 20; rw [← HW1.out]; refine (find6 w.heap.size W1 (KX.out W1 (Below.refl _ _) 0) HL.out).mono ?_; rintro e w2 ⟨rfl, b2⟩; have Y : Hid (Below W1.heap.size W1 (w2.alloc (.cells #[.int .i64 6, .string ⟨#[104, 101, 114, 101]⟩, .func (.func 82) #[] #[], .func (.func 74) #[] #[], .func (.func 75) #[] #[]] 51))) := bl_alloc b2 _; have Y2 : Hid (Below W1.heap.size W1 w2) := b2; clear b2; have kb0 := KX.out _ Y.out 0; have kb1 := KX.out _ Y.out 1; have kb2 := KX.out _ Y.out 2; have kb3 := KX.out _ Y.out 3; have kb4 := KX.out _ Y.out 4; have kb5 := KX.out _ Y.out 5; have kb6 := KX.out _ Y.out 6) | (go_at_call 82; refine (fitsHere_any 6 b se _ 0 cp h c t _ ZB.out ZH.out ZC.out).mono ?_; rintro e w4 ⟨rfl, b4⟩; rw [hf]; obtain ⟨KF, Y4⟩ := form_keep Y.out b4; clear b4 kb0 kb1 kb2 kb3 kb4 kb5 kb6; have kc0 := KX.out _ Y4.out 0; have kc1 := KX.out _ Y4.out 1; have kc2 := KX.out _ Y4.out 2; have kc3 := KX.out _ Y4.out 3; have kc4 := KX.out _ Y4.out 4; have kc5 := KX.out _ Y4.out 5; have kc6 := KX.out _ Y4.out 6))
 refine wp_region_any (by kernel_rfl) ?_
 refine reg_invP slY 8 (GY6g w2.heap.size b h c se t [] A cp) (fun y => Below w4.heap.size w4 y) (by decide) rfl (bl_drew (Below.refl _ _)) ?doney6 ?stepy6
 case doney6 =>
  intro a y hI
  have r5 : a.tmps.getD 5 undef = .string (lineT { data := #[104, 101, 114, 101] } [b, decT se]) := hI.all 7 (by omega)
  obtain ⟨l, hl, ha⟩ := frameP_two (lo := 22) (n := 7) (se := 5) hI.df hI.sz (lb rfl) (lb rfl) (fun j hj1 hj2 => hI.out j (fun i hi => slY_far j hj1 hj2 i hi))
  rw [r5] at ha
  have HY : Hid (Below w4.heap.size w4 y) := hI.d
  clear r5 hI
  subst ha
  obtain ⟨q0, l0, rfl, hl0⟩ := lenP_succ hl
  obtain ⟨q1, l1, rfl, hl1⟩ := lenP_succ hl0
  obtain ⟨q2, l2, rfl, hl2⟩ := lenP_succ hl1
  obtain ⟨q3, l3, rfl, hl3⟩ := lenP_succ hl2
  obtain ⟨q4, l4, rfl, hl4⟩ := lenP_succ hl3
  obtain ⟨q5, l5, rfl, hl5⟩ := lenP_succ hl4
  obtain ⟨q6, l6, rfl, hl6⟩ := lenP_succ hl5
  obtain rfl := lenP_zero hl6
  simp only [List.setIfInBounds_toArray, List.set_cons_succ, List.set_cons_zero, List.take_succ_cons, List.take_zero, List.drop_succ_cons, List.drop_zero, List.cons_append, List.nil_append, Nat.reduceAdd]
  have kd3 := KX.out y (bl_trans Y4.out HY.out) 3
  go_wp2_with fail
  refine wp_loop_rounds 1 ?_
  rw [rounds_succ]
  go_wp2_with fail
  go_ret
  exact ⟨rfl, bl_trans HB.out (bl_trans Y4.out HY.out)⟩
 case stepy6 =>
  intro listed x y i hI hi hlt
  obtain rfl | rfl | rfl | rfl | rfl | rfl | rfl | rfl : i = 0 ∨ i = 1 ∨ i = 2 ∨ i = 3 ∨ i = 4 ∨ i = 5 ∨ i = 6 ∨ i = 7 := by omega
  ·
   clear hi
   refine wpOp_plain rfl rfl (wp_cover fun K hK => ?_)
   have i3 : x.tmps[3]?.getD undef = _ := ev_tmp (hI.out 3 (slY_out 3 (by decide)))
   have HJ := hidP hI
   clear hI
   go_simp
   exact HJ.out.sm hK (by omega) (lb rfl) (slY_inj (by omega)) rfl
  ·
   have gd0 := hI.good 0 (by omega) (waits_of hi (j := 0) (by rfl))
   clear hi
   refine wpOp_plain rfl rfl (wp_cover fun K hK => ?_)
   have ed0 : x.tmps[22]?.getD undef = _ := ev_tmp gd0
   have k9 : y.cell? ⟨w2.heap.size, 1, none⟩ = some (.string ⟨#[104, 101, 114, 101]⟩) := KF.out y hI.d 1
   have HJ := hidP hI
   clear hI gd0
   go_simp
   exact HJ.out.sm hK (by omega) (lb rfl) (slY_inj (by omega)) rfl
  ·
   clear hi
   refine wpOp_plain rfl rfl (wp_cover fun K hK => ?_)
   have i3 : x.tmps[3]?.getD undef = _ := ev_tmp (hI.out 3 (slY_out 3 (by decide)))
   have HJ := hidP hI
   clear hI
   go_simp
   exact HJ.out.sm hK (by omega) (lb rfl) (slY_inj (by omega)) rfl
  ·
   have gd2 := hI.good 2 (by omega) (waits_of hi (j := 2) (by rfl))
   clear hi
   refine wpOp_plain rfl rfl (wp_cover fun K hK => ?_)
   have ed2 : x.tmps[24]?.getD undef = _ := ev_tmp gd2
   have k9 : y.cell? ⟨w2.heap.size, 3, none⟩ = some (.func (.func 74) #[] #[]) := KF.out y hI.d 3
   have HJ := hidP hI
   clear hI gd2
   go_simp
   exact HJ.out.sm hK (by omega) (lb rfl) (slY_inj (by omega)) rfl
  ·
   clear hi
   refine wpOp_plain rfl rfl (wp_cover fun K hK => ?_)
   have i1 : x.tmps[1]?.getD undef = _ := ev_tmp (hI.out 1 (slY_out 1 (by decide)))
   have x0 := KX.out y (bl_trans Y4.out hI.d) 0
   have x1 := KX.out y (bl_trans Y4.out hI.d) 1
   have x2 := KX.out y (bl_trans Y4.out hI.d) 2
   have x3 := KX.out y (bl_trans Y4.out hI.d) 3
   have x4 := KX.out y (bl_trans Y4.out hI.d) 4
   have x5 := KX.out y (bl_trans Y4.out hI.d) 5
   have x6 := KX.out y (bl_trans Y4.out hI.d) 6
   have HJ := hidP hI
   clear hI
   go_simp
   exact HJ.out.sm hK (by omega) (lb rfl) (slY_inj (by omega)) rfl
  ·
   have gd3 := hI.good 3 (by omega) (waits_of hi (j := 3) (by rfl))
   have gd4 := hI.good 4 (by omega) (waits_of hi (j := 4) (by rfl))
   clear hi
   refine wpOp_plain rfl rfl (wp_cover fun K hK => ?_)
   have ed3 : x.tmps[25]?.getD undef = _ := ev_tmp gd3
   have ed4 : x.tmps[26]?.getD undef = _ := ev_tmp gd4
   have HJ := hidP hI
   clear hI gd3 gd4
   go_simp
   refine (writeSeen 6 b se _ h c t y rfl HS.out HT.out (HTab.out y (bl_trans Y4.out HJ.out.d))).mono ?_
   rintro e y' ⟨⟨v7, rfl, hrow⟩, hb⟩
   exact hK.out _ _ (HJ.out.put (by omega) (lb rfl) (slY_inj (by omega)) (hrow) (fun j u _ h => GY6g.keep hb j u h) (bl_trans HJ.out.d hb))
  ·
   have gd1 := hI.good 1 (by omega) (waits_of hi (j := 1) (by rfl))
   have gd5 := hI.good 5 (by omega) (waits_of hi (j := 5) (by rfl))
   clear hi
   refine wpOp_plain rfl rfl (wp_cover fun K hK => ?_)
   have ed1 : x.tmps[23]?.getD undef = _ := ev_tmp gd1
   obtain ⟨g3, g4, g5, g6⟩ := gd5
   have ed5 : x.tmps[27]?.getD undef = _ := ev_tmp g4
   clear g4
   have G6 : Hid (∀ (j : Nat) x, ([b, decT se] : List ByteArray)[j]? = some x → y.cell? ⟨g3, j, none⟩ = some (.string x)) := g6
   clear g6
   have HJ := hidP hI
   clear hI gd1
   go_simp
   refine (implLine { data := #[104, 101, 114, 101] } g3 2 [b, decT se] y G6.out g5 (lb rfl) (lb rfl) HZ.out (by decide)).mono ?_
   rintro e y' ⟨rfl, hb⟩
   exact hK.out _ _ (HJ.out.put (by omega) (lb rfl) (slY_inj (by omega)) (rfl) (fun j u _ h => GY6g.keep hb j u h) (bl_trans HJ.out.d hb))
  ·
   have gd6 := hI.good 6 (by omega) (waits_of hi (j := 6) (by rfl))
   clear hi
   refine wpOp_plain rfl rfl (wp_cover fun K hK => ?_)
   have ed6 : x.tmps[28]?.getD undef = _ := ev_tmp gd6
   have HJ := hidP hI
   clear hI gd6
   go_simp
   exact HJ.out.sm hK (by omega) (lb rfl) (slY_inj (by omega)) rfl
set_option maxRecDepth 4000 in
set_option maxHeartbeats 8000000 in
theorem implF6g (b : ByteArray) (se : Int) (ws : List W.WantD) (h c : ByteArray) (t : Int) (A : Option Addr) (cp : Nat) (w : World) (hP : ParSz ⟨6, b, se, ws, h, c, t⟩) (ht : Tab w) :
  Calls Tryz.prog 5 #[.agg #[.int .i64 6, .string b, .int .i64 se, .slice A ws.length cp, .string h, .string c, .int .i64 t]] w fun e w' => e = .returned (.string (formT ⟨6, b, se, ws, h, c, t⟩)) ∧ Below w.heap.size w w' := by
 cases hf : hereB b h c se t ws.length
 ·
  rw [here_no hf]
  exact implN6g b se ws h c t A cp w hP ht hf
 ·
  rw [here_yes hf]
  have hw : ws.length = 0 := by
   have hh := hf
   unfold hereB noHoldB at hh
   simp only [Bool.and_eq_true, beq_iff_eq] at hh
   omega
  obtain rfl : ws = [] := List.eq_nil_of_length_eq_zero hw
  exact implY6g b se h c t A cp w hP ht hf
set_option linter.unusedSimpArgs false
set_option maxRecDepth 4000 in
set_option maxHeartbeats 8000000 in
theorem implN1g (b : ByteArray) (se : Int) (h c : ByteArray) (t : Int) (A : Option Addr) (cp : Nat) (w : World) (hP : ParSz ⟨1, b, se, [], h, c, t⟩) (ht : Tab w) (hf : toldB b h c se t [] = false) :
  Calls Tryz.prog 5 #[.agg #[.int .i64 1, .string b, .int .i64 se, .slice A 0 cp, .string h, .string c, .int .i64 t]] w fun e w' => e = .returned (.string ⟨#[]⟩) ∧ Below w.heap.size w w' := by
 obtain ⟨W1, hW1⟩ : ∃ W1, W1 = (w.alloc (.cells #[.int .i64 1, .string b, .int .i64 se, .slice A 0 cp, .string h, .string c, .int .i64 t] 25)) := ⟨_, rfl⟩
 have HB : Hid (Below w.heap.size w W1) := by rw [hW1]; exact bl_alloc (Below.refl _ _) _
 have HL : Hid (w.heap.size < W1.heap.size) := by rw [hW1]; show _ < _; simp
 have HTab : Hid (∀ y, Below W1.heap.size W1 y → Tab y) := fun y hb => (ht.keep HB.out).keep hb
 have ZB : Hid (b.size ≤ maxLen) := Nat.le_trans hP.b (by unfold maxLen; decide)
 have ZH : Hid (h.size ≤ maxLen) := Nat.le_trans hP.h (by unfold maxLen; decide)
 have ZC : Hid (c.size ≤ maxLen) := Nat.le_trans hP.c (by unfold maxLen; decide)
 have SB : Hid (b.size ≤ 1048576) := hP.b
 have SH : Hid (h.size ≤ 1048576) := hP.h
 have SC : Hid (c.size ≤ 1048576) := hP.c
 have KX : Hid (∀ y, Below W1.heap.size W1 y → ∀ k', y.cell? ⟨w.heap.size, k', none⟩ = (#[.int .i64 1, .string b, .int .i64 se, .slice A 0 cp, .string h, .string c, .int .i64 t] : Array Value)[k']?) := by
  intro y hb k'
  rw [hW1] at hb
  rw [box_keep hb k']
  simp [go_sem]
 have HW1 : Hid (W1 = (w.alloc (.cells #[.int .i64 1, .string b, .int .i64 se, .slice A 0 cp, .string h, .string c, .int .i64 t] 25))) := hW1
 clear hW1 ht hP
 go_enter Tryz.func5, Tryz.ntmps5
 go_wp2_with (first | (go_at_call 20; rw [← HW1.out]; refine (find1 w.heap.size W1 (KX.out W1 (Below.refl _ _) 0) HL.out).mono ?_; rintro e w2 ⟨rfl, b2⟩; have Y : Hid (Below W1.heap.size W1 (w2.alloc (.cells #[.int .i64 1, .string ⟨#[116, 111, 108, 100]⟩, .func (.func 73) #[] #[], .func (.func 74) #[] #[], .func (.func 75) #[] #[]] 51))) := bl_alloc b2 _; have Y2 : Hid (Below W1.heap.size W1 w2) := b2; clear b2; have kb0 := KX.out _ Y.out 0; have kb1 := KX.out _ Y.out 1; have kb2 := KX.out _ Y.out 2; have kb3 := KX.out _ Y.out 3; have kb4 := KX.out _ Y.out 4; have kb5 := KX.out _ Y.out 5; have kb6 := KX.out _ Y.out 6) | (go_at_call 73; refine (fitsTold0 1 b se h c t A cp _ SB.out).mono ?_; rintro e w4 ⟨rfl, b4⟩; rw [hf]; obtain ⟨KF, Y4⟩ := form_keep Y.out b4; clear b4 kb0 kb1 kb2 kb3 kb4 kb5 kb6; have kc0 := KX.out _ Y4.out 0; have kc1 := KX.out _ Y4.out 1; have kc2 := KX.out _ Y4.out 2; have kc3 := KX.out _ Y4.out 3; have kc4 := KX.out _ Y4.out 4; have kc5 := KX.out _ Y4.out 5; have kc6 := KX.out _ Y4.out 6))
 go_ret
 exact ⟨rfl, bl_trans HB.out Y4.out⟩
def GY1g (bf : Nat) (b h c : ByteArray) (se t : Int) (ws : List W.WantD) (A : Option Addr) (cp : Nat) (w : World) : Nat → Value → Prop
 | 0, v => v = .pointer (some ⟨bf, 1, none⟩)
 | 1, v => v = .string ⟨#[116, 111, 108, 100]⟩
 | 2, v => v = .pointer (some ⟨bf, 3, none⟩)
 | 3, v => v = .func (.func 74) #[] #[]
 | 4, v => v = .agg #[.int .i64 1, .string b, .int .i64 se, .slice A 0 cp, .string h, .string c, .int .i64 t]
 | 5, v => RowS [b, decT se] w v
 | 6, v => v = .string (lineT { data := #[116, 111, 108, 100] } [b, decT se])
 | 7, v => v = .string (lineT { data := #[116, 111, 108, 100] } [b, decT se])
 | _, _ => True
theorem GY1g.keep {bf : Nat} {b h c : ByteArray} {se t : Int} {ws : List W.WantD} {A : Option Addr} {cp : Nat} {w w' : World} (hb : Below w.heap.size w w') : ∀ i v, GY1g bf b h c se t ws A cp w i v → GY1g bf b h c se t ws A cp w' i v
 | 0, _, h => h
 | 1, _, h => h
 | 2, _, h => h
 | 3, _, h => h
 | 4, _, h => h
 | 5, _, h => RowS.keep h hb
 | 6, _, h => h
 | 7, _, h => h
 | _ + 8, _, h => h
set_option maxRecDepth 4000 in
set_option maxHeartbeats 8000000 in
theorem implY1g (b : ByteArray) (se : Int) (h c : ByteArray) (t : Int) (A : Option Addr) (cp : Nat) (w : World) (hP : ParSz ⟨1, b, se, [], h, c, t⟩) (ht : Tab w) (hf : toldB b h c se t [] = true) :
  Calls Tryz.prog 5 #[.agg #[.int .i64 1, .string b, .int .i64 se, .slice A 0 cp, .string h, .string c, .int .i64 t]] w fun e w' => e = .returned (.string (lineT { data := #[116, 111, 108, 100] } [b, decT se])) ∧ Below w.heap.size w w' := by
 obtain ⟨W1, hW1⟩ : ∃ W1, W1 = (w.alloc (.cells #[.int .i64 1, .string b, .int .i64 se, .slice A 0 cp, .string h, .string c, .int .i64 t] 25)) := ⟨_, rfl⟩
 have HB : Hid (Below w.heap.size w W1) := by rw [hW1]; exact bl_alloc (Below.refl _ _) _
 have HL : Hid (w.heap.size < W1.heap.size) := by rw [hW1]; show _ < _; simp
 have HTab : Hid (∀ y, Below W1.heap.size W1 y → Tab y) := fun y hb => (ht.keep HB.out).keep hb
 have ZB : Hid (b.size ≤ maxLen) := Nat.le_trans hP.b (by unfold maxLen; decide)
 have ZH : Hid (h.size ≤ maxLen) := Nat.le_trans hP.h (by unfold maxLen; decide)
 have ZC : Hid (c.size ≤ maxLen) := Nat.le_trans hP.c (by unfold maxLen; decide)
 have SB : Hid (b.size ≤ 1048576) := hP.b
 have SH : Hid (h.size ≤ 1048576) := hP.h
 have SC : Hid (c.size ≤ 1048576) := hP.c
 have KX : Hid (∀ y, Below W1.heap.size W1 y → ∀ k', y.cell? ⟨w.heap.size, k', none⟩ = (#[.int .i64 1, .string b, .int .i64 se, .slice A 0 cp, .string h, .string c, .int .i64 t] : Array Value)[k']?) := by
  intro y hb k'
  rw [hW1] at hb
  rw [box_keep hb k']
  simp [go_sem]
 have HW1 : Hid (W1 = (w.alloc (.cells #[.int .i64 1, .string b, .int .i64 se, .slice A 0 cp, .string h, .string c, .int .i64 t] 25))) := hW1
 clear hW1 ht hP
 have FACT : (0 ≤ se ∧ se ≤ 1000000) ∧ (0 ≤ t ∧ t ≤ 1000000) := by
  have hh := hf
  unfold toldB noHoldB inB at hh
  simp only [Bool.and_eq_true, beq_iff_eq, decide_eq_true_eq] at hh
  omega
 have HS : Hid (0 ≤ se ∧ se ≤ 1000000) := FACT.1
 have HT : Hid (0 ≤ t ∧ t ≤ 1000000) := FACT.2
 clear FACT
 have HZ : Hid (∀ x ∈ [b, decT se], x.size ≤ 1000000000) := by
  have z1 := SB.out
  have z2 := SH.out
  have z3 := SC.out
  have z4 := decT_le se HS.out.1 (by have := HS.out.2; omega)
  have z5 := decT_le t HT.out.1 (by have := HT.out.2; omega)
  intro x hx
  simp only [List.mem_cons, List.not_mem_nil, or_false] at hx
  rcases hx with rfl | rfl
  all_goals omega
 go_enter Tryz.func5, Tryz.ntmps5
 go_wp2_with (first | (go_at_call 20; rw [← HW1.out]; refine (find1 w.heap.size W1 (KX.out W1 (Below.refl _ _) 0) HL.out).mono ?_; rintro e w2 ⟨rfl, b2⟩; have Y : Hid (Below W1.heap.size W1 (w2.alloc (.cells #[.int .i64 1, .string ⟨#[116, 111, 108, 100]⟩, .func (.func 73) #[] #[], .func (.func 74) #[] #[], .func (.func 75) #[] #[]] 51))) := bl_alloc b2 _; have Y2 : Hid (Below W1.heap.size W1 w2) := b2; clear b2; have kb0 := KX.out _ Y.out 0; have kb1 := KX.out _ Y.out 1; have kb2 := KX.out _ Y.out 2; have kb3 := KX.out _ Y.out 3; have kb4 := KX.out _ Y.out 4; have kb5 := KX.out _ Y.out 5; have kb6 := KX.out _ Y.out 6) | (go_at_call 73; refine (fitsTold0 1 b se h c t A cp _ SB.out).mono ?_; rintro e w4 ⟨rfl, b4⟩; rw [hf]; obtain ⟨KF, Y4⟩ := form_keep Y.out b4; clear b4 kb0 kb1 kb2 kb3 kb4 kb5 kb6; have kc0 := KX.out _ Y4.out 0; have kc1 := KX.out _ Y4.out 1; have kc2 := KX.out _ Y4.out 2; have kc3 := KX.out _ Y4.out 3; have kc4 := KX.out _ Y4.out 4; have kc5 := KX.out _ Y4.out 5; have kc6 := KX.out _ Y4.out 6))
 refine wp_region_any (by kernel_rfl) ?_
 refine reg_invP slY 8 (GY1g w2.heap.size b h c se t [] A cp) (fun y => Below w4.heap.size w4 y) (by decide) rfl (bl_drew (Below.refl _ _)) ?doney6 ?stepy6
 case doney6 =>
  intro a y hI
  have r5 : a.tmps.getD 5 undef = .string (lineT { data := #[116, 111, 108, 100] } [b, decT se]) := hI.all 7 (by omega)
  obtain ⟨l, hl, ha⟩ := frameP_two (lo := 22) (n := 7) (se := 5) hI.df hI.sz (lb rfl) (lb rfl) (fun j hj1 hj2 => hI.out j (fun i hi => slY_far j hj1 hj2 i hi))
  rw [r5] at ha
  have HY : Hid (Below w4.heap.size w4 y) := hI.d
  clear r5 hI
  subst ha
  obtain ⟨q0, l0, rfl, hl0⟩ := lenP_succ hl
  obtain ⟨q1, l1, rfl, hl1⟩ := lenP_succ hl0
  obtain ⟨q2, l2, rfl, hl2⟩ := lenP_succ hl1
  obtain ⟨q3, l3, rfl, hl3⟩ := lenP_succ hl2
  obtain ⟨q4, l4, rfl, hl4⟩ := lenP_succ hl3
  obtain ⟨q5, l5, rfl, hl5⟩ := lenP_succ hl4
  obtain ⟨q6, l6, rfl, hl6⟩ := lenP_succ hl5
  obtain rfl := lenP_zero hl6
  simp only [List.setIfInBounds_toArray, List.set_cons_succ, List.set_cons_zero, List.take_succ_cons, List.take_zero, List.drop_succ_cons, List.drop_zero, List.cons_append, List.nil_append, Nat.reduceAdd]
  have kd3 := KX.out y (bl_trans Y4.out HY.out) 3
  go_wp2_with fail
  refine wp_loop_rounds 1 ?_
  rw [rounds_succ]
  go_wp2_with fail
  go_ret
  exact ⟨rfl, bl_trans HB.out (bl_trans Y4.out HY.out)⟩
 case stepy6 =>
  intro listed x y i hI hi hlt
  obtain rfl | rfl | rfl | rfl | rfl | rfl | rfl | rfl : i = 0 ∨ i = 1 ∨ i = 2 ∨ i = 3 ∨ i = 4 ∨ i = 5 ∨ i = 6 ∨ i = 7 := by omega
  ·
   clear hi
   refine wpOp_plain rfl rfl (wp_cover fun K hK => ?_)
   have i3 : x.tmps[3]?.getD undef = _ := ev_tmp (hI.out 3 (slY_out 3 (by decide)))
   have HJ := hidP hI
   clear hI
   go_simp
   exact HJ.out.sm hK (by omega) (lb rfl) (slY_inj (by omega)) rfl
  ·
   have gd0 := hI.good 0 (by omega) (waits_of hi (j := 0) (by rfl))
   clear hi
   refine wpOp_plain rfl rfl (wp_cover fun K hK => ?_)
   have ed0 : x.tmps[22]?.getD undef = _ := ev_tmp gd0
   have k9 : y.cell? ⟨w2.heap.size, 1, none⟩ = some (.string ⟨#[116, 111, 108, 100]⟩) := KF.out y hI.d 1
   have HJ := hidP hI
   clear hI gd0
   go_simp
   exact HJ.out.sm hK (by omega) (lb rfl) (slY_inj (by omega)) rfl
  ·
   clear hi
   refine wpOp_plain rfl rfl (wp_cover fun K hK => ?_)
   have i3 : x.tmps[3]?.getD undef = _ := ev_tmp (hI.out 3 (slY_out 3 (by decide)))
   have HJ := hidP hI
   clear hI
   go_simp
   exact HJ.out.sm hK (by omega) (lb rfl) (slY_inj (by omega)) rfl
  ·
   have gd2 := hI.good 2 (by omega) (waits_of hi (j := 2) (by rfl))
   clear hi
   refine wpOp_plain rfl rfl (wp_cover fun K hK => ?_)
   have ed2 : x.tmps[24]?.getD undef = _ := ev_tmp gd2
   have k9 : y.cell? ⟨w2.heap.size, 3, none⟩ = some (.func (.func 74) #[] #[]) := KF.out y hI.d 3
   have HJ := hidP hI
   clear hI gd2
   go_simp
   exact HJ.out.sm hK (by omega) (lb rfl) (slY_inj (by omega)) rfl
  ·
   clear hi
   refine wpOp_plain rfl rfl (wp_cover fun K hK => ?_)
   have i1 : x.tmps[1]?.getD undef = _ := ev_tmp (hI.out 1 (slY_out 1 (by decide)))
   have x0 := KX.out y (bl_trans Y4.out hI.d) 0
   have x1 := KX.out y (bl_trans Y4.out hI.d) 1
   have x2 := KX.out y (bl_trans Y4.out hI.d) 2
   have x3 := KX.out y (bl_trans Y4.out hI.d) 3
   have x4 := KX.out y (bl_trans Y4.out hI.d) 4
   have x5 := KX.out y (bl_trans Y4.out hI.d) 5
   have x6 := KX.out y (bl_trans Y4.out hI.d) 6
   have HJ := hidP hI
   clear hI
   go_simp
   exact HJ.out.sm hK (by omega) (lb rfl) (slY_inj (by omega)) rfl
  ·
   have gd3 := hI.good 3 (by omega) (waits_of hi (j := 3) (by rfl))
   have gd4 := hI.good 4 (by omega) (waits_of hi (j := 4) (by rfl))
   clear hi
   refine wpOp_plain rfl rfl (wp_cover fun K hK => ?_)
   have ed3 : x.tmps[25]?.getD undef = _ := ev_tmp gd3
   have ed4 : x.tmps[26]?.getD undef = _ := ev_tmp gd4
   have HJ := hidP hI
   clear hI gd3 gd4
   go_simp
   refine (writeSeen 1 b se _ h c t y rfl HS.out HT.out (HTab.out y (bl_trans Y4.out HJ.out.d))).mono ?_
   rintro e y' ⟨⟨v7, rfl, hrow⟩, hb⟩
   exact hK.out _ _ (HJ.out.put (by omega) (lb rfl) (slY_inj (by omega)) (hrow) (fun j u _ h => GY1g.keep hb j u h) (bl_trans HJ.out.d hb))
  ·
   have gd1 := hI.good 1 (by omega) (waits_of hi (j := 1) (by rfl))
   have gd5 := hI.good 5 (by omega) (waits_of hi (j := 5) (by rfl))
   clear hi
   refine wpOp_plain rfl rfl (wp_cover fun K hK => ?_)
   have ed1 : x.tmps[23]?.getD undef = _ := ev_tmp gd1
   obtain ⟨g3, g4, g5, g6⟩ := gd5
   have ed5 : x.tmps[27]?.getD undef = _ := ev_tmp g4
   clear g4
   have G6 : Hid (∀ (j : Nat) x, ([b, decT se] : List ByteArray)[j]? = some x → y.cell? ⟨g3, j, none⟩ = some (.string x)) := g6
   clear g6
   have HJ := hidP hI
   clear hI gd1
   go_simp
   refine (implLine { data := #[116, 111, 108, 100] } g3 2 [b, decT se] y G6.out g5 (lb rfl) (lb rfl) HZ.out (by decide)).mono ?_
   rintro e y' ⟨rfl, hb⟩
   exact hK.out _ _ (HJ.out.put (by omega) (lb rfl) (slY_inj (by omega)) (rfl) (fun j u _ h => GY1g.keep hb j u h) (bl_trans HJ.out.d hb))
  ·
   have gd6 := hI.good 6 (by omega) (waits_of hi (j := 6) (by rfl))
   clear hi
   refine wpOp_plain rfl rfl (wp_cover fun K hK => ?_)
   have ed6 : x.tmps[28]?.getD undef = _ := ev_tmp gd6
   have HJ := hidP hI
   clear hI gd6
   go_simp
   exact HJ.out.sm hK (by omega) (lb rfl) (slY_inj (by omega)) rfl
set_option maxRecDepth 4000 in
set_option maxHeartbeats 8000000 in
theorem implF1g (b : ByteArray) (se : Int) (h c : ByteArray) (t : Int) (A : Option Addr) (cp : Nat) (w : World) (hP : ParSz ⟨1, b, se, [], h, c, t⟩) (ht : Tab w) :
  Calls Tryz.prog 5 #[.agg #[.int .i64 1, .string b, .int .i64 se, .slice A 0 cp, .string h, .string c, .int .i64 t]] w fun e w' => e = .returned (.string (formT ⟨1, b, se, [], h, c, t⟩)) ∧ Below w.heap.size w w' := by
 cases hf : toldB b h c se t []
 ·
  rw [told_no hf]
  exact implN1g b se h c t A cp w hP ht hf
 ·
  rw [told_yes hf]
  exact implY1g b se h c t A cp w hP ht hf
set_option linter.unusedSimpArgs false
def WsIn (w : World) (v : Value) (ws : List W.WantD) : Prop := (∃ A cp, v = .slice A 0 cp ∧ ws = []) ∨ ∃ g cp, v = .slice (some ⟨g, 0, none⟩) ws.length cp ∧ ws.length ≤ cp ∧ W.RowsAt w g 0 ws ∧ g < w.heap.size
theorem implFormG (k : Int) (b : ByteArray) (se : Int) (ws : List W.WantD) (h c : ByteArray) (t : Int) (v : Value) (w : World) (hz : ParSz ⟨k, b, se, ws, h, c, t⟩) (hf : ∀ r ∈ ws, r.fits) (hv : WsIn w v ws) (ht : Tab w) :
  Calls Tryz.prog 5 #[.agg #[.int .i64 k, .string b, .int .i64 se, v, .string h, .string c, .int .i64 t]] w fun e w' => e = .returned (.string (formT ⟨k, b, se, ws, h, c, t⟩)) ∧ Below w.heap.size w w' := by
 obtain ⟨A, n, cp, rfl, hn, hor⟩ : ∃ A n cp, v = .slice A n cp ∧ n = ws.length ∧ ((ws = []) ∨ ∃ g, A = some ⟨g, 0, none⟩ ∧ ws.length ≤ cp ∧ W.RowsAt w g 0 ws ∧ g < w.heap.size) := by
  rcases hv with ⟨A, cp, rfl, rfl⟩ | ⟨g, cp, rfl, h1, h2, h3⟩
  ·
   exact ⟨A, 0, cp, rfl, rfl, Or.inl rfl⟩
  ·
   exact ⟨_, _, cp, rfl, rfl, Or.inr ⟨g, rfl, h1, h2, h3⟩⟩
 subst hn
 by_cases h1 : k = 1
 ·
  subst h1
  rcases hor with rfl | ⟨g, rfl, q1, q2, q3⟩
  ·
   exact implF1g b se h c t A cp w hz ht
  ·
   exact implF1c b se ws h c t g cp w q1 ⟨hz.b, hz.h, hz.c, hz.l, hf, q2, q3⟩ ht
 by_cases h2 : k = 2
 ·
  subst h2; exact implF2g b se ws h c t A cp w hz ht
 by_cases h3 : k = 3
 ·
  subst h3; exact implF3g b se ws h c t A cp w hz ht
 by_cases h4 : k = 4
 ·
  subst h4; exact implF4g b se ws h c t A cp w hz ht
 by_cases h5 : k = 5
 ·
  subst h5; exact implF5g b se ws h c t A cp w hz ht
 by_cases h6 : k = 6
 ·
  subst h6; exact implF6g b se ws h c t A cp w hz ht
 exact implF7g k b se ws h c t A cp w (by omega) hz ht
set_option linter.unusedSimpArgs false
set_option maxRecDepth 4000 in
set_option maxHeartbeats 4000000 in
theorem specForm0 (k : Int) (b : ByteArray) (se : Int) (h c : ByteArray) (t : Int) (A : Option Addr) (cp : Nat) (w : World) (hP : ParSz ⟨k, b, se, [], h, c, t⟩) :
  Calls Tryz.prog 7 #[.agg #[.int .i64 k, .string b, .int .i64 se, .slice A 0 cp, .string h, .string c, .int .i64 t]] w fun e w' => e = .returned (.string (formT ⟨k, b, se, [], h, c, t⟩)) ∧ Below w.heap.size w w' := by
 cases hb : nameB b
 ·
  have zb : b.size ≤ maxLen := Nat.le_trans hP.b (by unfold maxLen; decide)
  have e0 : formT ⟨k, b, se, [], h, c, t⟩ = { data := #[] } := if_pos hb
  have HE0 : Hid (formT ⟨k, b, se, [], h, c, t⟩ = { data := #[] }) := e0
  clear e0 hP
  go_enter Tryz.func7, Tryz.ntmps7
  go_wp2_with (go_at_call 25; refine (specName_any b _ zb).mono ?_; rintro e w' ⟨rfl, rfl⟩; rw [hb])
  go_ret
  exact ⟨by rw [HE0.out]; rfl, bl_alloc (Below.refl _ _) _⟩
 by_cases h1 : k = 1
 ·
  subst h1; exact specN1 b se h c t A cp w hP hb
 by_cases h2 : k = 2
 ·
  subst h2; exact specK2 b se [] h c t A cp w hP hb
 by_cases h3 : k = 3
 ·
  subst h3; exact specK3 b se [] h c t A cp w hP hb
 by_cases h4 : k = 4
 ·
  subst h4; exact specK4 b se [] h c t A cp w hP hb
 by_cases h5 : k = 5
 ·
  subst h5; exact specK5 b se [] h c t A cp w hP hb
 by_cases h6 : k = 6
 ·
  subst h6; exact specK6 b se [] h c t A cp w hP hb
 exact specK7 k b se [] h c t A cp w hP hb h1 h2 h3 h4 h5 h6
theorem specFormG (k : Int) (b : ByteArray) (se : Int) (ws : List W.WantD) (h c : ByteArray) (t : Int) (v : Value) (w : World) (hz : ParSz ⟨k, b, se, ws, h, c, t⟩) (hf : ∀ r ∈ ws, r.fits) (hv : WsIn w v ws) :
  Calls Tryz.prog 7 #[.agg #[.int .i64 k, .string b, .int .i64 se, v, .string h, .string c, .int .i64 t]] w fun e w' => e = .returned (.string (formT ⟨k, b, se, ws, h, c, t⟩)) ∧ Below w.heap.size w w' := by
 rcases hv with ⟨A, cp, rfl, rfl⟩ | ⟨g, cp, rfl, h1, h2, h3⟩
 ·
  exact specForm0 k b se h c t A cp w hz
 ·
  exact specForm k b se ws h c t g cp w ⟨hz.b, hz.h, hz.c, hz.l, hf, h2, h3⟩
end Go.Proofs.YtgakmkhbnjofhaaGreatDoor
