import Derived.Test.YtgakmkhbnjofhaaGreatDoorJ28
namespace Go.Proofs.YtgakmkhbnjofhaaGreatDoor
open Go.RowKit
set_option linter.unusedVariables false
set_option maxRecDepth 4000 in
set_option maxHeartbeats 8000000 in
theorem specR3 (s : ByteArray) (w : World) (hs : s.size ≤ 1048576) (hW : atL (cutL 32 (atL (cutL 10 s.data.toList) 0)) 0 = wGiven) :
  Calls Tryz.prog 10 #[.string s] w fun e w' => RdPost s (specP s) w e w' := by
 have hse : s.toList.isEmpty = false := word_full hW (by decide)
 obtain ⟨w0, hw0⟩ : ∃ w0, w0 = w.alloc (.cells #[.int .i64 0, .string ⟨#[]⟩, .int .i64 0, .slice none 0 0, .string ⟨#[]⟩, .string ⟨#[]⟩, .int .i64 0] 25) := ⟨_, rfl⟩
 have HW0 : Hid (w0 = w.alloc (.cells #[.int .i64 0, .string ⟨#[]⟩, .int .i64 0, .slice none 0 0, .string ⟨#[]⟩, .string ⟨#[]⟩, .int .i64 0] 25)) := hw0
 have B0 : Hid (Below w.heap.size w w0) := by rw [hw0]; exact bl_alloc (Below.refl _ _) _
 have R0 : Hid (w0.heap[w.heap.size]? = some (.cells #[.int .i64 0, .string ⟨#[]⟩, .int .i64 0, .slice none 0 0, .string ⟨#[]⟩, .string ⟨#[]⟩, .int .i64 0] 25 (0, 0))) := by rw [hw0]; exact heap_alloc_new w _
 have L0 : Hid (w.heap.size < w0.heap.size) := by rw [hw0]; show _ < _; simp
 obtain ⟨l, hl⟩ : ∃ l, s.data.toList = l := ⟨_, rfl⟩
 have hll : l.length ≤ 1048576 := by rw [← hl, ← size_data]; exact hs
 rw [hl] at hW
 have HP0 : Hid (specP s = headS (kindL (atL (cutL 32 (atL (cutL 10 l) 0)) 0)) (cutL 32 (atL (cutL 10 l) 0)) ((((cutL 10 l).drop 1).take ((cutL 10 l).length - 2)).map wantS)) := by rw [← hl]; exact rfl
 obtain ⟨L, hL⟩ : ∃ L, cutL 10 l = L := ⟨_, rfl⟩
 have hLn : L.length ≤ 1048577 := by rw [← hL]; exact Nat.le_trans (cutL_len 10 l) (by omega)
 have hLp : 0 < L.length := by rw [← hL]; exact cutL_pos 10 l
 have hL0 : L[0]? = some (atL L 0) := by rw [← hL]; exact at0
 have hLm : ∀ x ∈ L, x.length ≤ 1048576 := fun x hx => Nat.le_trans (cutL_mem 10 l x (by rw [hL]; exact hx)) hll
 have hl0 : (atL L 0).length ≤ 1048576 := by rw [← hL]; exact Nat.le_trans (atL_len 10 l 0) hll
 rw [hL] at HP0 hW
 obtain ⟨l0, hl0'⟩ : ∃ l0, atL L 0 = l0 := ⟨_, rfl⟩
 rw [hl0'] at hL0 hl0 HP0 hW
 obtain ⟨WS, hWS⟩ : ∃ WS, cutL 32 l0 = WS := ⟨_, rfl⟩
 have hWn : WS.length ≤ 1048577 := by rw [← hWS]; exact Nat.le_trans (cutL_len 32 l0) (by omega)
 have hWp : 0 < WS.length := by rw [← hWS]; exact cutL_pos 32 l0
 have hW0 : WS[0]? = some (atL WS 0) := by rw [← hWS]; exact at0
 have HWl : Hid (∀ j, (wd (atL WS j)).size ≤ 1048576) := fun j => by rw [wd_size, ← hWS]; exact Nat.le_trans (atL_len 32 l0 j) hl0
 rw [hWS] at HP0 hW
 have HLn : Hid (L.length ≤ 1048577) := hLn
 have HWn : Hid (WS.length ≤ 1048577) := hWn
 have HLm : Hid (∀ x ∈ L, x.length ≤ 1048576) := hLm
 have HL : Hid (cutL 10 l = L) := hL
 have HWS : Hid (cutL 32 l0 = WS) := hWS
 have Hl : Hid (s.data.toList = l) := hl
 have Hll : Hid (l.length ≤ 1048576) := hll
 have Hl0 : Hid (l0.length ≤ 1048576) := hl0
 have HL0 : Hid (L[0]? = some l0) := hL0
 have hW0' : WS[0]? = some wGiven := by rw [hW0, hW]
 have HW0w : Hid (WS[0]? = some wGiven) := hW0'
 have lp : (0 : Int) < (L.length : Int) := by omega
 have wp : (0 : Int) < (WS.length : Int) := by omega
 obtain ⟨x0, hx0⟩ : ∃ x, wd l0 = x := ⟨_, rfl⟩
 have HX0 : Hid (wd l0 = x0) := hx0
 have HX0d : Hid (x0.data.toList = l0) := by rw [← hx0]; exact wd_list l0
 obtain ⟨xb, hxb⟩ : ∃ x, wd (atL WS 1) = x := ⟨_, rfl⟩
 have HXb : Hid (wd (atL WS 1) = xb) := hxb
 obtain ⟨x12, hx2⟩ : ∃ x, wd (atL WS 2) = x := ⟨_, rfl⟩
 have HX12 : Hid (wd (atL WS 2) = x12) := hx2
 have HX12l : Hid (x12.size ≤ 1048576) := by rw [← hx2]; exact HWl.out 2
 obtain ⟨x13, hx3⟩ : ∃ x, wd (atL WS 3) = x := ⟨_, rfl⟩
 have HX13 : Hid (wd (atL WS 3) = x13) := hx3
 have HX13l : Hid (x13.size ≤ 1048576) := by rw [← hx3]; exact HWl.out 3
 obtain ⟨x14, hx4⟩ : ∃ x, wd (atL WS 4) = x := ⟨_, rfl⟩
 have HX14 : Hid (wd (atL WS 4) = x14) := hx4
 have HX14l : Hid (x14.size ≤ 1048576) := by rw [← hx4]; exact HWl.out 4
 obtain ⟨n4, hn4⟩ : ∃ n, numS x14 = n := ⟨_, rfl⟩
 have HN4 : Hid (numS x14 = n4) := hn4
 clear hx2 hx3 hx4 hn4
 rw [hW] at HP0
 clear hl hll hL hLn hLm hL0 hl0 hl0' hWS hWn hW0 hW hW0' hx0 hxb hw0 hs hLp hWp
 obtain ⟨P, hP⟩ : ∃ P, specP s = P := ⟨_, rfl⟩
 rw [hP] at HP0
 rw [hP]
 clear hP
 go_enter Tryz.func10, Tryz.ntmps10
 go_wp2_with fail
 rw [← HW0.out]
 refine (l7CutE s l Hl.out 10 10 rfl w0 Hll.out L HL.out).mono ?_
 rintro e w1 ⟨⟨g1, cp1, rfl, q1, q2, q3⟩, b1⟩
 have BW1 : Hid (Below w0.heap.size w0 w1) := b1
 have KL : Hid (∀ y, Below w1.heap.size w1 y → ∀ (j : Nat) x, L[j]? = some x → y.cell? ⟨g1, j, none⟩ = some (.string (wd x))) := fun y hb j x hj => (hb.cell (p := ⟨g1, j, none⟩) q2).trans (q3 j x hj)
 have c10 : w1.cell? ⟨g1, 0, none⟩ = some (.string x0) := by rw [q3 0 l0 HL0.out, HX0.out]
 clear q1 q2 q3 b1
 go_wp2_with fail
 refine (l7CutE x0 l0 HX0d.out 32 32 rfl w1 Hl0.out WS HWS.out).mono ?_
 rintro e w2 ⟨⟨g2, cp2, rfl, q1, q2, q3⟩, b2⟩
 have BW2 : Hid (Below w1.heap.size w1 w2) := b2
 have KW : Hid (∀ y, Below w2.heap.size w2 y → ∀ (j : Nat) x, WS[j]? = some x → y.cell? ⟨g2, j, none⟩ = some (.string (wd x))) := fun y hb j x hj => (hb.cell (p := ⟨g2, j, none⟩) q2).trans (q3 j x hj)
 have B02 : Hid (Below w0.heap.size w0 w2) := bl_trans BW1.out b2
 have B22 : Hid (Below w.heap.size w w2) := bl_trans B0.out B02.out
 have R2 : Hid (w2.heap[w.heap.size]? = some (.cells #[.int .i64 0, .string ⟨#[]⟩, .int .i64 0, .slice none 0 0, .string ⟨#[]⟩, .string ⟨#[]⟩, .int .i64 0] 25 (0, 0))) := (B02.out.block _ L0.out).trans R0.out
 have L2 : Hid (w.heap.size < w2.heap.size) := Nat.lt_of_lt_of_le L0.out B02.out.size
 clear q1 q2 q3 b2 c10
 go_wp2_with fail
 refine (l7AtE g2 cp2 WS 1 xb HXb.out w2 (by decide) HWn.out (KW.out w2 (Below.refl _ _))).mono ?_
 rintro e w' ⟨rfl, e2⟩
 rw [e2]
 clear e2
 have k20 : ∀ o : Obj, (w2.alloc o).cell? ⟨g2, 0, none⟩ = some (.string ⟨#[103, 105, 118, 101, 110]⟩) := fun o => KW.out _ (bl_alloc (Below.refl _ _) _) 0 _ HW0w.out
 have HPe : Hid (P = ⟨3, xb, 0, [], x12, x13, n4⟩) := by
  rw [HP0.out, ← HXb.out, ← HN4.out, ← HX12.out, ← HX13.out, ← HX14.out]
  exact rfl
 have HSZ : Hid (ParSz ⟨3, xb, 0, [], x12, x13, n4⟩) := ⟨by rw [← HXb.out]; exact HWl.out 1, HX12l.out, HX13l.out, by simp⟩
 have HFT : Hid (∀ q ∈ (⟨3, xb, 0, [], x12, x13, n4⟩ : ParD).ws, q.fits) := fun q hq => by cases hq
 go_wp2_with fail
 refine (l7AtE g2 cp2 WS 2 x12 HX12.out _ (by decide) HWn.out (KW.out _ (bl_alloc (Below.refl _ _) _))).mono ?_
 rintro e w' ⟨rfl, e2⟩
 rw [e2]
 clear e2
 go_wp2_with fail
 refine (l7AtE g2 cp2 WS 3 x13 HX13.out _ (by decide) HWn.out (KW.out _ (bl_alloc (Below.refl _ _) _))).mono ?_
 rintro e w' ⟨rfl, e2⟩
 rw [e2]
 clear e2
 go_wp2_with fail
 refine (l7AtE g2 cp2 WS 4 x14 HX14.out _ (by decide) HWn.out (KW.out _ (bl_alloc (Below.refl _ _) _))).mono ?_
 rintro e w' ⟨rfl, e2⟩
 rw [e2]
 clear e2
 go_wp2_with fail
 refine (l7NumE x14 n4 HN4.out _ HX14l.out).mono ?_
 rintro e w3 ⟨rfl, b3⟩
 have RD3 : Hid (Rda w2 #[.int .i64 3, .string xb, .int .i64 0, .slice none 0 0, .string x12, .string x13, .int .i64 0] w3) := (Rda.new w2 _ _).below b3
 obtain ⟨w4, hw4⟩ : ∃ w4, w4 = w3.setCell ⟨w2.heap.size, 6, none⟩ (.int .i64 n4) := ⟨_, rfl⟩
 have HW4 : Hid (w4 = w3.setCell ⟨w2.heap.size, 6, none⟩ (.int .i64 n4)) := hw4
 have RD : Hid (Rda w2 #[.int .i64 3, .string xb, .int .i64 0, .slice none 0 0, .string x12, .string x13, .int .i64 n4] w4) := by rw [hw4]; exact RD3.out.set 6 (lb rfl) _
 have kc := RD3.out.b
 have kf := RD3.out.c
 have kz := RD3.out.f
 clear b3 hw4 k20
 have HZ : Hid (ParSz ⟨3, xb, 0, [], x12, x13, n4⟩) := HSZ.out
 have HF : Hid (∀ q ∈ (⟨3, xb, 0, [], x12, x13, n4⟩ : ParD).ws, q.fits) := HFT.out
 obtain ⟨TX, hTX⟩ : ∃ TX, formT ⟨3, xb, 0, [], x12, x13, n4⟩ = TX := ⟨_, rfl⟩
 have HTX : Hid (formT ⟨3, xb, 0, [], x12, x13, n4⟩ = TX) := hTX
 cases hq : (TX.toList == s.toList)
 ·
  have HOK : Hid (okP s P = false) := by rw [HPe.out]; exact okP_ne (by rw [hTX]; exact hq)
  clear hTX
  go_wp2_with fail
  rw [← HW4.out]
  refine (specFormG 3 xb 0 [] x12 x13 n4 (.slice none 0 0) w4 HZ.out HF.out (Or.inl ⟨none, 0, rfl, rfl⟩)).mono ?_
  rw [HTX.out]
  rintro e w5 ⟨rfl, b5⟩
  have BW5 : Hid (Below w.heap.size w w5) := bl_trans (bl_trans B22.out RD.out.e) b5
  have R5 : Hid (w5.heap[w.heap.size]? = some (.cells #[.int .i64 0, .string ⟨#[]⟩, .int .i64 0, .slice none 0 0, .string ⟨#[]⟩, .string ⟨#[]⟩, .int .i64 0] 25 (0, 0))) := ((bl_trans RD.out.e b5).block _ L2.out).trans R2.out
  have kz5 : w.heap.size < w5.heap.size := Nat.lt_of_lt_of_le L2.out (bl_trans RD.out.e b5).size
  clear b5 kc kf kz
  obtain ⟨F1, F2, F3⟩ := ans_set (w := w) (y := w5) (cs := #[.int .i64 0, .string ⟨#[]⟩, .int .i64 0, .slice none 0 0, .string ⟨#[]⟩, .string ⟨#[]⟩, .int .i64 0]) R5.out BW5.out
  go_wp2_with (refine wpList_store_row (by rfl) 25 _ _ (by rfl) w.heap.size #[.int .i64 0, .string ⟨#[]⟩, .int .i64 0, .slice none 0 0, .string ⟨#[]⟩, .string ⟨#[]⟩, .int .i64 0] (by rfl) (by rfl) 25 #[.int .i64 0, .string ⟨#[]⟩, .int .i64 0, .slice none 0 0, .string ⟨#[]⟩, .string ⟨#[]⟩, .int .i64 0] R5.out (by kernel_rfl) rfl (by simp [Value.oneCell']) ?_)
  have s0 := F1.out 0; have s1 := F1.out 1; have s2 := F1.out 2; have s3 := F1.out 3; have s4 := F1.out 4; have s5 := F1.out 5; have s6 := F1.out 6
  exact bodyPost_ret (v := .tuple #[.agg #[.int .i64 0, .string ⟨#[]⟩, .int .i64 0, .slice none 0 0, .string ⟨#[]⟩, .string ⟨#[]⟩, .int .i64 0], .bool false]) (by simp [results, Tryz.results10, go_sem, s0, s1, s2, s3, s4, s5, s6]) rfl (post_no HOK.out rfl F2.out)
 ·
  have HOK : Hid (okP s P = true) := by rw [HPe.out]; exact okP_yes hse (by rw [hTX]; exact hq)
  clear hTX
  go_wp2_with fail
  rw [← HW4.out]
  refine (specFormG 3 xb 0 [] x12 x13 n4 (.slice none 0 0) w4 HZ.out HF.out (Or.inl ⟨none, 0, rfl, rfl⟩)).mono ?_
  rw [HTX.out]
  rintro e w5 ⟨rfl, b5⟩
  have BW5 : Hid (Below w.heap.size w w5) := bl_trans (bl_trans B22.out RD.out.e) b5
  have R5 : Hid (w5.heap[w.heap.size]? = some (.cells #[.int .i64 0, .string ⟨#[]⟩, .int .i64 0, .slice none 0 0, .string ⟨#[]⟩, .string ⟨#[]⟩, .int .i64 0] 25 (0, 0))) := ((bl_trans RD.out.e b5).block _ L2.out).trans R2.out
  have kz5 : w.heap.size < w5.heap.size := Nat.lt_of_lt_of_le L2.out (bl_trans RD.out.e b5).size
  have kd0 := (RD.out.below b5).b 0
  have kd1 := (RD.out.below b5).b 1
  have kd2 := (RD.out.below b5).b 2
  have kd3 := (RD.out.below b5).b 3
  have kd4 := (RD.out.below b5).b 4
  have kd5 := (RD.out.below b5).b 5
  have kd6 := (RD.out.below b5).b 6
  have HS5 : Hid (W.Sl w5 (.slice none 0 0) [] w2.heap.size) := W.Sl.keep (Or.inl ⟨rfl, rfl⟩) b5
  clear b5 kc kf kz
  obtain ⟨F1, F2, F3⟩ := ans_set (w := w) (y := w5) (cs := #[.int .i64 3, .string xb, .int .i64 0, .slice none 0 0, .string x12, .string x13, .int .i64 n4]) R5.out BW5.out
  have HS6 : Hid (W.Sl (w5.setRow w.heap.size #[.int .i64 3, .string xb, .int .i64 0, .slice none 0 0, .string x12, .string x13, .int .i64 n4]) (.slice none 0 0) [] w.heap.size) := by
   refine Sl_lowS (HS5.out.grown F3.out ?_) (Nat.le_of_lt L2.out)
   cases hv : (.slice none 0 0 : Value).ownBlock with
   | none => exact Or.inl rfl
   | some g =>
    right
    intro e
    have h2 := (HS5.out.lt g hv).1
    have h3 := L2.out
    have e2 := Option.some.inj e
    omega
  go_wp2_with (refine wpList_store_row (by rfl) 25 _ _ (by rfl) w.heap.size #[.int .i64 3, .string xb, .int .i64 0, .slice none 0 0, .string x12, .string x13, .int .i64 n4] (by rfl) (by rfl) 25 #[.int .i64 0, .string ⟨#[]⟩, .int .i64 0, .slice none 0 0, .string ⟨#[]⟩, .string ⟨#[]⟩, .int .i64 0] R5.out (by kernel_rfl) rfl (by simp [Value.oneCell']) ?_)
  have s0 := F1.out 0; have s1 := F1.out 1; have s2 := F1.out 2; have s3 := F1.out 3; have s4 := F1.out 4; have s5 := F1.out 5; have s6 := F1.out 6
  exact bodyPost_ret (v := .tuple #[.agg #[.int .i64 3, .string xb, .int .i64 0, .slice none 0 0, .string x12, .string x13, .int .i64 n4], .bool true]) (by simp [results, Tryz.results10, go_sem, s0, s1, s2, s3, s4, s5, s6]) rfl (post_yes (v := .slice none 0 0) HOK.out (by rw [HPe.out]; rfl) (by rw [HPe.out]; exact HS6.out) F2.out)
set_option maxRecDepth 4000 in
set_option maxHeartbeats 8000000 in
theorem specR4 (s : ByteArray) (w : World) (hs : s.size ≤ 1048576) (hW : atL (cutL 32 (atL (cutL 10 s.data.toList) 0)) 0 = wBack) :
  Calls Tryz.prog 10 #[.string s] w fun e w' => RdPost s (specP s) w e w' := by
 have hse : s.toList.isEmpty = false := word_full hW (by decide)
 obtain ⟨w0, hw0⟩ : ∃ w0, w0 = w.alloc (.cells #[.int .i64 0, .string ⟨#[]⟩, .int .i64 0, .slice none 0 0, .string ⟨#[]⟩, .string ⟨#[]⟩, .int .i64 0] 25) := ⟨_, rfl⟩
 have HW0 : Hid (w0 = w.alloc (.cells #[.int .i64 0, .string ⟨#[]⟩, .int .i64 0, .slice none 0 0, .string ⟨#[]⟩, .string ⟨#[]⟩, .int .i64 0] 25)) := hw0
 have B0 : Hid (Below w.heap.size w w0) := by rw [hw0]; exact bl_alloc (Below.refl _ _) _
 have R0 : Hid (w0.heap[w.heap.size]? = some (.cells #[.int .i64 0, .string ⟨#[]⟩, .int .i64 0, .slice none 0 0, .string ⟨#[]⟩, .string ⟨#[]⟩, .int .i64 0] 25 (0, 0))) := by rw [hw0]; exact heap_alloc_new w _
 have L0 : Hid (w.heap.size < w0.heap.size) := by rw [hw0]; show _ < _; simp
 obtain ⟨l, hl⟩ : ∃ l, s.data.toList = l := ⟨_, rfl⟩
 have hll : l.length ≤ 1048576 := by rw [← hl, ← size_data]; exact hs
 rw [hl] at hW
 have HP0 : Hid (specP s = headS (kindL (atL (cutL 32 (atL (cutL 10 l) 0)) 0)) (cutL 32 (atL (cutL 10 l) 0)) ((((cutL 10 l).drop 1).take ((cutL 10 l).length - 2)).map wantS)) := by rw [← hl]; exact rfl
 obtain ⟨L, hL⟩ : ∃ L, cutL 10 l = L := ⟨_, rfl⟩
 have hLn : L.length ≤ 1048577 := by rw [← hL]; exact Nat.le_trans (cutL_len 10 l) (by omega)
 have hLp : 0 < L.length := by rw [← hL]; exact cutL_pos 10 l
 have hL0 : L[0]? = some (atL L 0) := by rw [← hL]; exact at0
 have hLm : ∀ x ∈ L, x.length ≤ 1048576 := fun x hx => Nat.le_trans (cutL_mem 10 l x (by rw [hL]; exact hx)) hll
 have hl0 : (atL L 0).length ≤ 1048576 := by rw [← hL]; exact Nat.le_trans (atL_len 10 l 0) hll
 rw [hL] at HP0 hW
 obtain ⟨l0, hl0'⟩ : ∃ l0, atL L 0 = l0 := ⟨_, rfl⟩
 rw [hl0'] at hL0 hl0 HP0 hW
 obtain ⟨WS, hWS⟩ : ∃ WS, cutL 32 l0 = WS := ⟨_, rfl⟩
 have hWn : WS.length ≤ 1048577 := by rw [← hWS]; exact Nat.le_trans (cutL_len 32 l0) (by omega)
 have hWp : 0 < WS.length := by rw [← hWS]; exact cutL_pos 32 l0
 have hW0 : WS[0]? = some (atL WS 0) := by rw [← hWS]; exact at0
 have HWl : Hid (∀ j, (wd (atL WS j)).size ≤ 1048576) := fun j => by rw [wd_size, ← hWS]; exact Nat.le_trans (atL_len 32 l0 j) hl0
 rw [hWS] at HP0 hW
 have HLn : Hid (L.length ≤ 1048577) := hLn
 have HWn : Hid (WS.length ≤ 1048577) := hWn
 have HLm : Hid (∀ x ∈ L, x.length ≤ 1048576) := hLm
 have HL : Hid (cutL 10 l = L) := hL
 have HWS : Hid (cutL 32 l0 = WS) := hWS
 have Hl : Hid (s.data.toList = l) := hl
 have Hll : Hid (l.length ≤ 1048576) := hll
 have Hl0 : Hid (l0.length ≤ 1048576) := hl0
 have HL0 : Hid (L[0]? = some l0) := hL0
 have hW0' : WS[0]? = some wBack := by rw [hW0, hW]
 have HW0w : Hid (WS[0]? = some wBack) := hW0'
 have lp : (0 : Int) < (L.length : Int) := by omega
 have wp : (0 : Int) < (WS.length : Int) := by omega
 obtain ⟨x0, hx0⟩ : ∃ x, wd l0 = x := ⟨_, rfl⟩
 have HX0 : Hid (wd l0 = x0) := hx0
 have HX0d : Hid (x0.data.toList = l0) := by rw [← hx0]; exact wd_list l0
 obtain ⟨xb, hxb⟩ : ∃ x, wd (atL WS 1) = x := ⟨_, rfl⟩
 have HXb : Hid (wd (atL WS 1) = xb) := hxb
 obtain ⟨x12, hx2⟩ : ∃ x, wd (atL WS 2) = x := ⟨_, rfl⟩
 have HX12 : Hid (wd (atL WS 2) = x12) := hx2
 have HX12l : Hid (x12.size ≤ 1048576) := by rw [← hx2]; exact HWl.out 2
 obtain ⟨x13, hx3⟩ : ∃ x, wd (atL WS 3) = x := ⟨_, rfl⟩
 have HX13 : Hid (wd (atL WS 3) = x13) := hx3
 have HX13l : Hid (x13.size ≤ 1048576) := by rw [← hx3]; exact HWl.out 3
 obtain ⟨x14, hx4⟩ : ∃ x, wd (atL WS 4) = x := ⟨_, rfl⟩
 have HX14 : Hid (wd (atL WS 4) = x14) := hx4
 have HX14l : Hid (x14.size ≤ 1048576) := by rw [← hx4]; exact HWl.out 4
 obtain ⟨n4, hn4⟩ : ∃ n, numS x14 = n := ⟨_, rfl⟩
 have HN4 : Hid (numS x14 = n4) := hn4
 clear hx2 hx3 hx4 hn4
 rw [hW] at HP0
 clear hl hll hL hLn hLm hL0 hl0 hl0' hWS hWn hW0 hW hW0' hx0 hxb hw0 hs hLp hWp
 obtain ⟨P, hP⟩ : ∃ P, specP s = P := ⟨_, rfl⟩
 rw [hP] at HP0
 rw [hP]
 clear hP
 go_enter Tryz.func10, Tryz.ntmps10
 go_wp2_with fail
 rw [← HW0.out]
 refine (l7CutE s l Hl.out 10 10 rfl w0 Hll.out L HL.out).mono ?_
 rintro e w1 ⟨⟨g1, cp1, rfl, q1, q2, q3⟩, b1⟩
 have BW1 : Hid (Below w0.heap.size w0 w1) := b1
 have KL : Hid (∀ y, Below w1.heap.size w1 y → ∀ (j : Nat) x, L[j]? = some x → y.cell? ⟨g1, j, none⟩ = some (.string (wd x))) := fun y hb j x hj => (hb.cell (p := ⟨g1, j, none⟩) q2).trans (q3 j x hj)
 have c10 : w1.cell? ⟨g1, 0, none⟩ = some (.string x0) := by rw [q3 0 l0 HL0.out, HX0.out]
 clear q1 q2 q3 b1
 go_wp2_with fail
 refine (l7CutE x0 l0 HX0d.out 32 32 rfl w1 Hl0.out WS HWS.out).mono ?_
 rintro e w2 ⟨⟨g2, cp2, rfl, q1, q2, q3⟩, b2⟩
 have BW2 : Hid (Below w1.heap.size w1 w2) := b2
 have KW : Hid (∀ y, Below w2.heap.size w2 y → ∀ (j : Nat) x, WS[j]? = some x → y.cell? ⟨g2, j, none⟩ = some (.string (wd x))) := fun y hb j x hj => (hb.cell (p := ⟨g2, j, none⟩) q2).trans (q3 j x hj)
 have B02 : Hid (Below w0.heap.size w0 w2) := bl_trans BW1.out b2
 have B22 : Hid (Below w.heap.size w w2) := bl_trans B0.out B02.out
 have R2 : Hid (w2.heap[w.heap.size]? = some (.cells #[.int .i64 0, .string ⟨#[]⟩, .int .i64 0, .slice none 0 0, .string ⟨#[]⟩, .string ⟨#[]⟩, .int .i64 0] 25 (0, 0))) := (B02.out.block _ L0.out).trans R0.out
 have L2 : Hid (w.heap.size < w2.heap.size) := Nat.lt_of_lt_of_le L0.out B02.out.size
 clear q1 q2 q3 b2 c10
 go_wp2_with fail
 refine (l7AtE g2 cp2 WS 1 xb HXb.out w2 (by decide) HWn.out (KW.out w2 (Below.refl _ _))).mono ?_
 rintro e w' ⟨rfl, e2⟩
 rw [e2]
 clear e2
 have k20 : ∀ o : Obj, (w2.alloc o).cell? ⟨g2, 0, none⟩ = some (.string ⟨#[98, 97, 99, 107]⟩) := fun o => KW.out _ (bl_alloc (Below.refl _ _) _) 0 _ HW0w.out
 have HPe : Hid (P = ⟨4, xb, 0, [], x12, x13, n4⟩) := by
  rw [HP0.out, ← HXb.out, ← HN4.out, ← HX12.out, ← HX13.out, ← HX14.out]
  exact rfl
 have HSZ : Hid (ParSz ⟨4, xb, 0, [], x12, x13, n4⟩) := ⟨by rw [← HXb.out]; exact HWl.out 1, HX12l.out, HX13l.out, by simp⟩
 have HFT : Hid (∀ q ∈ (⟨4, xb, 0, [], x12, x13, n4⟩ : ParD).ws, q.fits) := fun q hq => by cases hq
 go_wp2_with fail
 refine (l7AtE g2 cp2 WS 2 x12 HX12.out _ (by decide) HWn.out (KW.out _ (bl_alloc (Below.refl _ _) _))).mono ?_
 rintro e w' ⟨rfl, e2⟩
 rw [e2]
 clear e2
 go_wp2_with fail
 refine (l7AtE g2 cp2 WS 3 x13 HX13.out _ (by decide) HWn.out (KW.out _ (bl_alloc (Below.refl _ _) _))).mono ?_
 rintro e w' ⟨rfl, e2⟩
 rw [e2]
 clear e2
 go_wp2_with fail
 refine (l7AtE g2 cp2 WS 4 x14 HX14.out _ (by decide) HWn.out (KW.out _ (bl_alloc (Below.refl _ _) _))).mono ?_
 rintro e w' ⟨rfl, e2⟩
 rw [e2]
 clear e2
 go_wp2_with fail
 refine (l7NumE x14 n4 HN4.out _ HX14l.out).mono ?_
 rintro e w3 ⟨rfl, b3⟩
 have RD3 : Hid (Rda w2 #[.int .i64 4, .string xb, .int .i64 0, .slice none 0 0, .string x12, .string x13, .int .i64 0] w3) := (Rda.new w2 _ _).below b3
 obtain ⟨w4, hw4⟩ : ∃ w4, w4 = w3.setCell ⟨w2.heap.size, 6, none⟩ (.int .i64 n4) := ⟨_, rfl⟩
 have HW4 : Hid (w4 = w3.setCell ⟨w2.heap.size, 6, none⟩ (.int .i64 n4)) := hw4
 have RD : Hid (Rda w2 #[.int .i64 4, .string xb, .int .i64 0, .slice none 0 0, .string x12, .string x13, .int .i64 n4] w4) := by rw [hw4]; exact RD3.out.set 6 (lb rfl) _
 have kc := RD3.out.b
 have kf := RD3.out.c
 have kz := RD3.out.f
 clear b3 hw4 k20
 have HZ : Hid (ParSz ⟨4, xb, 0, [], x12, x13, n4⟩) := HSZ.out
 have HF : Hid (∀ q ∈ (⟨4, xb, 0, [], x12, x13, n4⟩ : ParD).ws, q.fits) := HFT.out
 obtain ⟨TX, hTX⟩ : ∃ TX, formT ⟨4, xb, 0, [], x12, x13, n4⟩ = TX := ⟨_, rfl⟩
 have HTX : Hid (formT ⟨4, xb, 0, [], x12, x13, n4⟩ = TX) := hTX
 cases hq : (TX.toList == s.toList)
 ·
  have HOK : Hid (okP s P = false) := by rw [HPe.out]; exact okP_ne (by rw [hTX]; exact hq)
  clear hTX
  go_wp2_with fail
  rw [← HW4.out]
  refine (specFormG 4 xb 0 [] x12 x13 n4 (.slice none 0 0) w4 HZ.out HF.out (Or.inl ⟨none, 0, rfl, rfl⟩)).mono ?_
  rw [HTX.out]
  rintro e w5 ⟨rfl, b5⟩
  have BW5 : Hid (Below w.heap.size w w5) := bl_trans (bl_trans B22.out RD.out.e) b5
  have R5 : Hid (w5.heap[w.heap.size]? = some (.cells #[.int .i64 0, .string ⟨#[]⟩, .int .i64 0, .slice none 0 0, .string ⟨#[]⟩, .string ⟨#[]⟩, .int .i64 0] 25 (0, 0))) := ((bl_trans RD.out.e b5).block _ L2.out).trans R2.out
  have kz5 : w.heap.size < w5.heap.size := Nat.lt_of_lt_of_le L2.out (bl_trans RD.out.e b5).size
  clear b5 kc kf kz
  obtain ⟨F1, F2, F3⟩ := ans_set (w := w) (y := w5) (cs := #[.int .i64 0, .string ⟨#[]⟩, .int .i64 0, .slice none 0 0, .string ⟨#[]⟩, .string ⟨#[]⟩, .int .i64 0]) R5.out BW5.out
  go_wp2_with (refine wpList_store_row (by rfl) 25 _ _ (by rfl) w.heap.size #[.int .i64 0, .string ⟨#[]⟩, .int .i64 0, .slice none 0 0, .string ⟨#[]⟩, .string ⟨#[]⟩, .int .i64 0] (by rfl) (by rfl) 25 #[.int .i64 0, .string ⟨#[]⟩, .int .i64 0, .slice none 0 0, .string ⟨#[]⟩, .string ⟨#[]⟩, .int .i64 0] R5.out (by kernel_rfl) rfl (by simp [Value.oneCell']) ?_)
  have s0 := F1.out 0; have s1 := F1.out 1; have s2 := F1.out 2; have s3 := F1.out 3; have s4 := F1.out 4; have s5 := F1.out 5; have s6 := F1.out 6
  exact bodyPost_ret (v := .tuple #[.agg #[.int .i64 0, .string ⟨#[]⟩, .int .i64 0, .slice none 0 0, .string ⟨#[]⟩, .string ⟨#[]⟩, .int .i64 0], .bool false]) (by simp [results, Tryz.results10, go_sem, s0, s1, s2, s3, s4, s5, s6]) rfl (post_no HOK.out rfl F2.out)
 ·
  have HOK : Hid (okP s P = true) := by rw [HPe.out]; exact okP_yes hse (by rw [hTX]; exact hq)
  clear hTX
  go_wp2_with fail
  rw [← HW4.out]
  refine (specFormG 4 xb 0 [] x12 x13 n4 (.slice none 0 0) w4 HZ.out HF.out (Or.inl ⟨none, 0, rfl, rfl⟩)).mono ?_
  rw [HTX.out]
  rintro e w5 ⟨rfl, b5⟩
  have BW5 : Hid (Below w.heap.size w w5) := bl_trans (bl_trans B22.out RD.out.e) b5
  have R5 : Hid (w5.heap[w.heap.size]? = some (.cells #[.int .i64 0, .string ⟨#[]⟩, .int .i64 0, .slice none 0 0, .string ⟨#[]⟩, .string ⟨#[]⟩, .int .i64 0] 25 (0, 0))) := ((bl_trans RD.out.e b5).block _ L2.out).trans R2.out
  have kz5 : w.heap.size < w5.heap.size := Nat.lt_of_lt_of_le L2.out (bl_trans RD.out.e b5).size
  have kd0 := (RD.out.below b5).b 0
  have kd1 := (RD.out.below b5).b 1
  have kd2 := (RD.out.below b5).b 2
  have kd3 := (RD.out.below b5).b 3
  have kd4 := (RD.out.below b5).b 4
  have kd5 := (RD.out.below b5).b 5
  have kd6 := (RD.out.below b5).b 6
  have HS5 : Hid (W.Sl w5 (.slice none 0 0) [] w2.heap.size) := W.Sl.keep (Or.inl ⟨rfl, rfl⟩) b5
  clear b5 kc kf kz
  obtain ⟨F1, F2, F3⟩ := ans_set (w := w) (y := w5) (cs := #[.int .i64 4, .string xb, .int .i64 0, .slice none 0 0, .string x12, .string x13, .int .i64 n4]) R5.out BW5.out
  have HS6 : Hid (W.Sl (w5.setRow w.heap.size #[.int .i64 4, .string xb, .int .i64 0, .slice none 0 0, .string x12, .string x13, .int .i64 n4]) (.slice none 0 0) [] w.heap.size) := by
   refine Sl_lowS (HS5.out.grown F3.out ?_) (Nat.le_of_lt L2.out)
   cases hv : (.slice none 0 0 : Value).ownBlock with
   | none => exact Or.inl rfl
   | some g =>
    right
    intro e
    have h2 := (HS5.out.lt g hv).1
    have h3 := L2.out
    have e2 := Option.some.inj e
    omega
  go_wp2_with (refine wpList_store_row (by rfl) 25 _ _ (by rfl) w.heap.size #[.int .i64 4, .string xb, .int .i64 0, .slice none 0 0, .string x12, .string x13, .int .i64 n4] (by rfl) (by rfl) 25 #[.int .i64 0, .string ⟨#[]⟩, .int .i64 0, .slice none 0 0, .string ⟨#[]⟩, .string ⟨#[]⟩, .int .i64 0] R5.out (by kernel_rfl) rfl (by simp [Value.oneCell']) ?_)
  have s0 := F1.out 0; have s1 := F1.out 1; have s2 := F1.out 2; have s3 := F1.out 3; have s4 := F1.out 4; have s5 := F1.out 5; have s6 := F1.out 6
  exact bodyPost_ret (v := .tuple #[.agg #[.int .i64 4, .string xb, .int .i64 0, .slice none 0 0, .string x12, .string x13, .int .i64 n4], .bool true]) (by simp [results, Tryz.results10, go_sem, s0, s1, s2, s3, s4, s5, s6]) rfl (post_yes (v := .slice none 0 0) HOK.out (by rw [HPe.out]; rfl) (by rw [HPe.out]; exact HS6.out) F2.out)
set_option maxRecDepth 4000 in
set_option maxHeartbeats 8000000 in
theorem specR5 (s : ByteArray) (w : World) (hs : s.size ≤ 1048576) (hW : atL (cutL 32 (atL (cutL 10 s.data.toList) 0)) 0 = wGot) :
  Calls Tryz.prog 10 #[.string s] w fun e w' => RdPost s (specP s) w e w' := by
 have hse : s.toList.isEmpty = false := word_full hW (by decide)
 obtain ⟨w0, hw0⟩ : ∃ w0, w0 = w.alloc (.cells #[.int .i64 0, .string ⟨#[]⟩, .int .i64 0, .slice none 0 0, .string ⟨#[]⟩, .string ⟨#[]⟩, .int .i64 0] 25) := ⟨_, rfl⟩
 have HW0 : Hid (w0 = w.alloc (.cells #[.int .i64 0, .string ⟨#[]⟩, .int .i64 0, .slice none 0 0, .string ⟨#[]⟩, .string ⟨#[]⟩, .int .i64 0] 25)) := hw0
 have B0 : Hid (Below w.heap.size w w0) := by rw [hw0]; exact bl_alloc (Below.refl _ _) _
 have R0 : Hid (w0.heap[w.heap.size]? = some (.cells #[.int .i64 0, .string ⟨#[]⟩, .int .i64 0, .slice none 0 0, .string ⟨#[]⟩, .string ⟨#[]⟩, .int .i64 0] 25 (0, 0))) := by rw [hw0]; exact heap_alloc_new w _
 have L0 : Hid (w.heap.size < w0.heap.size) := by rw [hw0]; show _ < _; simp
 obtain ⟨l, hl⟩ : ∃ l, s.data.toList = l := ⟨_, rfl⟩
 have hll : l.length ≤ 1048576 := by rw [← hl, ← size_data]; exact hs
 rw [hl] at hW
 have HP0 : Hid (specP s = headS (kindL (atL (cutL 32 (atL (cutL 10 l) 0)) 0)) (cutL 32 (atL (cutL 10 l) 0)) ((((cutL 10 l).drop 1).take ((cutL 10 l).length - 2)).map wantS)) := by rw [← hl]; exact rfl
 obtain ⟨L, hL⟩ : ∃ L, cutL 10 l = L := ⟨_, rfl⟩
 have hLn : L.length ≤ 1048577 := by rw [← hL]; exact Nat.le_trans (cutL_len 10 l) (by omega)
 have hLp : 0 < L.length := by rw [← hL]; exact cutL_pos 10 l
 have hL0 : L[0]? = some (atL L 0) := by rw [← hL]; exact at0
 have hLm : ∀ x ∈ L, x.length ≤ 1048576 := fun x hx => Nat.le_trans (cutL_mem 10 l x (by rw [hL]; exact hx)) hll
 have hl0 : (atL L 0).length ≤ 1048576 := by rw [← hL]; exact Nat.le_trans (atL_len 10 l 0) hll
 rw [hL] at HP0 hW
 obtain ⟨l0, hl0'⟩ : ∃ l0, atL L 0 = l0 := ⟨_, rfl⟩
 rw [hl0'] at hL0 hl0 HP0 hW
 obtain ⟨WS, hWS⟩ : ∃ WS, cutL 32 l0 = WS := ⟨_, rfl⟩
 have hWn : WS.length ≤ 1048577 := by rw [← hWS]; exact Nat.le_trans (cutL_len 32 l0) (by omega)
 have hWp : 0 < WS.length := by rw [← hWS]; exact cutL_pos 32 l0
 have hW0 : WS[0]? = some (atL WS 0) := by rw [← hWS]; exact at0
 have HWl : Hid (∀ j, (wd (atL WS j)).size ≤ 1048576) := fun j => by rw [wd_size, ← hWS]; exact Nat.le_trans (atL_len 32 l0 j) hl0
 rw [hWS] at HP0 hW
 have HLn : Hid (L.length ≤ 1048577) := hLn
 have HWn : Hid (WS.length ≤ 1048577) := hWn
 have HLm : Hid (∀ x ∈ L, x.length ≤ 1048576) := hLm
 have HL : Hid (cutL 10 l = L) := hL
 have HWS : Hid (cutL 32 l0 = WS) := hWS
 have Hl : Hid (s.data.toList = l) := hl
 have Hll : Hid (l.length ≤ 1048576) := hll
 have Hl0 : Hid (l0.length ≤ 1048576) := hl0
 have HL0 : Hid (L[0]? = some l0) := hL0
 have hW0' : WS[0]? = some wGot := by rw [hW0, hW]
 have HW0w : Hid (WS[0]? = some wGot) := hW0'
 have lp : (0 : Int) < (L.length : Int) := by omega
 have wp : (0 : Int) < (WS.length : Int) := by omega
 obtain ⟨x0, hx0⟩ : ∃ x, wd l0 = x := ⟨_, rfl⟩
 have HX0 : Hid (wd l0 = x0) := hx0
 have HX0d : Hid (x0.data.toList = l0) := by rw [← hx0]; exact wd_list l0
 obtain ⟨xb, hxb⟩ : ∃ x, wd (atL WS 1) = x := ⟨_, rfl⟩
 have HXb : Hid (wd (atL WS 1) = xb) := hxb
 obtain ⟨x12, hx2⟩ : ∃ x, wd (atL WS 2) = x := ⟨_, rfl⟩
 have HX12 : Hid (wd (atL WS 2) = x12) := hx2
 have HX12l : Hid (x12.size ≤ 1048576) := by rw [← hx2]; exact HWl.out 2
 obtain ⟨x13, hx3⟩ : ∃ x, wd (atL WS 3) = x := ⟨_, rfl⟩
 have HX13 : Hid (wd (atL WS 3) = x13) := hx3
 have HX13l : Hid (x13.size ≤ 1048576) := by rw [← hx3]; exact HWl.out 3
 obtain ⟨n3, hn3⟩ : ∃ n, numS x13 = n := ⟨_, rfl⟩
 have HN3 : Hid (numS x13 = n3) := hn3
 clear hx2 hx3 hn3
 rw [hW] at HP0
 clear hl hll hL hLn hLm hL0 hl0 hl0' hWS hWn hW0 hW hW0' hx0 hxb hw0 hs hLp hWp
 obtain ⟨P, hP⟩ : ∃ P, specP s = P := ⟨_, rfl⟩
 rw [hP] at HP0
 rw [hP]
 clear hP
 go_enter Tryz.func10, Tryz.ntmps10
 go_wp2_with fail
 rw [← HW0.out]
 refine (l7CutE s l Hl.out 10 10 rfl w0 Hll.out L HL.out).mono ?_
 rintro e w1 ⟨⟨g1, cp1, rfl, q1, q2, q3⟩, b1⟩
 have BW1 : Hid (Below w0.heap.size w0 w1) := b1
 have KL : Hid (∀ y, Below w1.heap.size w1 y → ∀ (j : Nat) x, L[j]? = some x → y.cell? ⟨g1, j, none⟩ = some (.string (wd x))) := fun y hb j x hj => (hb.cell (p := ⟨g1, j, none⟩) q2).trans (q3 j x hj)
 have c10 : w1.cell? ⟨g1, 0, none⟩ = some (.string x0) := by rw [q3 0 l0 HL0.out, HX0.out]
 clear q1 q2 q3 b1
 go_wp2_with fail
 refine (l7CutE x0 l0 HX0d.out 32 32 rfl w1 Hl0.out WS HWS.out).mono ?_
 rintro e w2 ⟨⟨g2, cp2, rfl, q1, q2, q3⟩, b2⟩
 have BW2 : Hid (Below w1.heap.size w1 w2) := b2
 have KW : Hid (∀ y, Below w2.heap.size w2 y → ∀ (j : Nat) x, WS[j]? = some x → y.cell? ⟨g2, j, none⟩ = some (.string (wd x))) := fun y hb j x hj => (hb.cell (p := ⟨g2, j, none⟩) q2).trans (q3 j x hj)
 have B02 : Hid (Below w0.heap.size w0 w2) := bl_trans BW1.out b2
 have B22 : Hid (Below w.heap.size w w2) := bl_trans B0.out B02.out
 have R2 : Hid (w2.heap[w.heap.size]? = some (.cells #[.int .i64 0, .string ⟨#[]⟩, .int .i64 0, .slice none 0 0, .string ⟨#[]⟩, .string ⟨#[]⟩, .int .i64 0] 25 (0, 0))) := (B02.out.block _ L0.out).trans R0.out
 have L2 : Hid (w.heap.size < w2.heap.size) := Nat.lt_of_lt_of_le L0.out B02.out.size
 clear q1 q2 q3 b2 c10
 go_wp2_with fail
 refine (l7AtE g2 cp2 WS 1 xb HXb.out w2 (by decide) HWn.out (KW.out w2 (Below.refl _ _))).mono ?_
 rintro e w' ⟨rfl, e2⟩
 rw [e2]
 clear e2
 have k20 : ∀ o : Obj, (w2.alloc o).cell? ⟨g2, 0, none⟩ = some (.string ⟨#[103, 111, 116, 98, 97, 99, 107]⟩) := fun o => KW.out _ (bl_alloc (Below.refl _ _) _) 0 _ HW0w.out
 have HPe : Hid (P = ⟨5, xb, 0, [], x12, { data := #[] }, n3⟩) := by
  rw [HP0.out, ← HXb.out, ← HN3.out, ← HX12.out, ← HX13.out]
  exact rfl
 have HSZ : Hid (ParSz ⟨5, xb, 0, [], x12, { data := #[] }, n3⟩) := ⟨by rw [← HXb.out]; exact HWl.out 1, HX12l.out, Nat.zero_le _, by simp⟩
 have HFT : Hid (∀ q ∈ (⟨5, xb, 0, [], x12, { data := #[] }, n3⟩ : ParD).ws, q.fits) := fun q hq => by cases hq
 go_wp2_with fail
 refine (l7AtE g2 cp2 WS 2 x12 HX12.out _ (by decide) HWn.out (KW.out _ (bl_alloc (Below.refl _ _) _))).mono ?_
 rintro e w' ⟨rfl, e2⟩
 rw [e2]
 clear e2
 go_wp2_with fail
 refine (l7AtE g2 cp2 WS 3 x13 HX13.out _ (by decide) HWn.out (KW.out _ (bl_alloc (Below.refl _ _) _))).mono ?_
 rintro e w' ⟨rfl, e2⟩
 rw [e2]
 clear e2
 go_wp2_with fail
 refine (l7NumE x13 n3 HN3.out _ HX13l.out).mono ?_
 rintro e w3 ⟨rfl, b3⟩
 have RD3 : Hid (Rda w2 #[.int .i64 5, .string xb, .int .i64 0, .slice none 0 0, .string x12, .string ⟨#[]⟩, .int .i64 0] w3) := (Rda.new w2 _ _).below b3
 obtain ⟨w4, hw4⟩ : ∃ w4, w4 = w3.setCell ⟨w2.heap.size, 6, none⟩ (.int .i64 n3) := ⟨_, rfl⟩
 have HW4 : Hid (w4 = w3.setCell ⟨w2.heap.size, 6, none⟩ (.int .i64 n3)) := hw4
 have RD : Hid (Rda w2 #[.int .i64 5, .string xb, .int .i64 0, .slice none 0 0, .string x12, .string ⟨#[]⟩, .int .i64 n3] w4) := by rw [hw4]; exact RD3.out.set 6 (lb rfl) _
 have kc := RD3.out.b
 have kf := RD3.out.c
 have kz := RD3.out.f
 clear b3 hw4 k20
 have HZ : Hid (ParSz ⟨5, xb, 0, [], x12, { data := #[] }, n3⟩) := HSZ.out
 have HF : Hid (∀ q ∈ (⟨5, xb, 0, [], x12, { data := #[] }, n3⟩ : ParD).ws, q.fits) := HFT.out
 obtain ⟨TX, hTX⟩ : ∃ TX, formT ⟨5, xb, 0, [], x12, { data := #[] }, n3⟩ = TX := ⟨_, rfl⟩
 have HTX : Hid (formT ⟨5, xb, 0, [], x12, { data := #[] }, n3⟩ = TX) := hTX
 cases hq : (TX.toList == s.toList)
 ·
  have HOK : Hid (okP s P = false) := by rw [HPe.out]; exact okP_ne (by rw [hTX]; exact hq)
  clear hTX
  go_wp2_with fail
  rw [← HW4.out]
  refine (specFormG 5 xb 0 [] x12 { data := #[] } n3 (.slice none 0 0) w4 HZ.out HF.out (Or.inl ⟨none, 0, rfl, rfl⟩)).mono ?_
  rw [HTX.out]
  rintro e w5 ⟨rfl, b5⟩
  have BW5 : Hid (Below w.heap.size w w5) := bl_trans (bl_trans B22.out RD.out.e) b5
  have R5 : Hid (w5.heap[w.heap.size]? = some (.cells #[.int .i64 0, .string ⟨#[]⟩, .int .i64 0, .slice none 0 0, .string ⟨#[]⟩, .string ⟨#[]⟩, .int .i64 0] 25 (0, 0))) := ((bl_trans RD.out.e b5).block _ L2.out).trans R2.out
  have kz5 : w.heap.size < w5.heap.size := Nat.lt_of_lt_of_le L2.out (bl_trans RD.out.e b5).size
  clear b5 kc kf kz
  obtain ⟨F1, F2, F3⟩ := ans_set (w := w) (y := w5) (cs := #[.int .i64 0, .string ⟨#[]⟩, .int .i64 0, .slice none 0 0, .string ⟨#[]⟩, .string ⟨#[]⟩, .int .i64 0]) R5.out BW5.out
  go_wp2_with (refine wpList_store_row (by rfl) 25 _ _ (by rfl) w.heap.size #[.int .i64 0, .string ⟨#[]⟩, .int .i64 0, .slice none 0 0, .string ⟨#[]⟩, .string ⟨#[]⟩, .int .i64 0] (by rfl) (by rfl) 25 #[.int .i64 0, .string ⟨#[]⟩, .int .i64 0, .slice none 0 0, .string ⟨#[]⟩, .string ⟨#[]⟩, .int .i64 0] R5.out (by kernel_rfl) rfl (by simp [Value.oneCell']) ?_)
  have s0 := F1.out 0; have s1 := F1.out 1; have s2 := F1.out 2; have s3 := F1.out 3; have s4 := F1.out 4; have s5 := F1.out 5; have s6 := F1.out 6
  exact bodyPost_ret (v := .tuple #[.agg #[.int .i64 0, .string ⟨#[]⟩, .int .i64 0, .slice none 0 0, .string ⟨#[]⟩, .string ⟨#[]⟩, .int .i64 0], .bool false]) (by simp [results, Tryz.results10, go_sem, s0, s1, s2, s3, s4, s5, s6]) rfl (post_no HOK.out rfl F2.out)
 ·
  have HOK : Hid (okP s P = true) := by rw [HPe.out]; exact okP_yes hse (by rw [hTX]; exact hq)
  clear hTX
  go_wp2_with fail
  rw [← HW4.out]
  refine (specFormG 5 xb 0 [] x12 { data := #[] } n3 (.slice none 0 0) w4 HZ.out HF.out (Or.inl ⟨none, 0, rfl, rfl⟩)).mono ?_
  rw [HTX.out]
  rintro e w5 ⟨rfl, b5⟩
  have BW5 : Hid (Below w.heap.size w w5) := bl_trans (bl_trans B22.out RD.out.e) b5
  have R5 : Hid (w5.heap[w.heap.size]? = some (.cells #[.int .i64 0, .string ⟨#[]⟩, .int .i64 0, .slice none 0 0, .string ⟨#[]⟩, .string ⟨#[]⟩, .int .i64 0] 25 (0, 0))) := ((bl_trans RD.out.e b5).block _ L2.out).trans R2.out
  have kz5 : w.heap.size < w5.heap.size := Nat.lt_of_lt_of_le L2.out (bl_trans RD.out.e b5).size
  have kd0 := (RD.out.below b5).b 0
  have kd1 := (RD.out.below b5).b 1
  have kd2 := (RD.out.below b5).b 2
  have kd3 := (RD.out.below b5).b 3
  have kd4 := (RD.out.below b5).b 4
  have kd5 := (RD.out.below b5).b 5
  have kd6 := (RD.out.below b5).b 6
  have HS5 : Hid (W.Sl w5 (.slice none 0 0) [] w2.heap.size) := W.Sl.keep (Or.inl ⟨rfl, rfl⟩) b5
  clear b5 kc kf kz
  obtain ⟨F1, F2, F3⟩ := ans_set (w := w) (y := w5) (cs := #[.int .i64 5, .string xb, .int .i64 0, .slice none 0 0, .string x12, .string ⟨#[]⟩, .int .i64 n3]) R5.out BW5.out
  have HS6 : Hid (W.Sl (w5.setRow w.heap.size #[.int .i64 5, .string xb, .int .i64 0, .slice none 0 0, .string x12, .string ⟨#[]⟩, .int .i64 n3]) (.slice none 0 0) [] w.heap.size) := by
   refine Sl_lowS (HS5.out.grown F3.out ?_) (Nat.le_of_lt L2.out)
   cases hv : (.slice none 0 0 : Value).ownBlock with
   | none => exact Or.inl rfl
   | some g =>
    right
    intro e
    have h2 := (HS5.out.lt g hv).1
    have h3 := L2.out
    have e2 := Option.some.inj e
    omega
  go_wp2_with (refine wpList_store_row (by rfl) 25 _ _ (by rfl) w.heap.size #[.int .i64 5, .string xb, .int .i64 0, .slice none 0 0, .string x12, .string ⟨#[]⟩, .int .i64 n3] (by rfl) (by rfl) 25 #[.int .i64 0, .string ⟨#[]⟩, .int .i64 0, .slice none 0 0, .string ⟨#[]⟩, .string ⟨#[]⟩, .int .i64 0] R5.out (by kernel_rfl) rfl (by simp [Value.oneCell']) ?_)
  have s0 := F1.out 0; have s1 := F1.out 1; have s2 := F1.out 2; have s3 := F1.out 3; have s4 := F1.out 4; have s5 := F1.out 5; have s6 := F1.out 6
  exact bodyPost_ret (v := .tuple #[.agg #[.int .i64 5, .string xb, .int .i64 0, .slice none 0 0, .string x12, .string ⟨#[]⟩, .int .i64 n3], .bool true]) (by simp [results, Tryz.results10, go_sem, s0, s1, s2, s3, s4, s5, s6]) rfl (post_yes (v := .slice none 0 0) HOK.out (by rw [HPe.out]; rfl) (by rw [HPe.out]; exact HS6.out) F2.out)
end Go.Proofs.YtgakmkhbnjofhaaGreatDoor
