import Derived.Test.YtgakmkhbnjofhaaGreatDoorJ28
import Derived.Test.YtgakmkhbnjofhaaGreatDoorJ38
namespace Go.Proofs.YtgakmkhbnjofhaaGreatDoor
open Go.RowKit
set_option linter.unusedVariables false
set_option maxRecDepth 4000 in
set_option maxHeartbeats 8000000 in
theorem specR6 (s : ByteArray) (w : World) (hs : s.size ≤ 1048576) (hW : atL (cutL 32 (atL (cutL 10 s.data.toList) 0)) 0 = wHere) :
  Calls Tryz.prog 10 #[.string s] w fun e w' => RdPost s (specP s) w e w' := by
 have hse : s.toList.isEmpty = false := word_full hW (by decide)
 obtain ⟨w0, hw0⟩ : ∃ w0, w0 = w.alloc (.cells #[.int .i64 0, .string ⟨#[]⟩, .int .i64 0, .slice none 0 0, .string ⟨#[]⟩, .string ⟨#[]⟩, .int .i64 0] 25) := ⟨_, rfl⟩
 have HW0 : Hid (w0 = w.alloc (.cells #[.int .i64 0, .string ⟨#[]⟩, .int .i64 0, .slice none 0 0, .string ⟨#[]⟩, .string ⟨#[]⟩, .int .i64 0] 25)) := hw0
 have B0 : Hid (Below w.heap.size w w0) := by rw [hw0]; exact bl_alloc (Below.refl _ _) _
 have R0 : Hid (w0.heap[w.heap.size]? = some (.cells #[.int .i64 0, .string ⟨#[]⟩, .int .i64 0, .slice none 0 0, .string ⟨#[]⟩, .string ⟨#[]⟩, .int .i64 0] 25 (0, 0))) := by rw [hw0]; exact heap_alloc_new w _
 have L0 : Hid (w.heap.size < w0.heap.size) := by rw [hw0]; show _ < _; simp
 obtain ⟨l, hl⟩ : ∃ l, s.data.toList = l := ⟨_, rfl⟩
 have hll : l.length ≤ 1048576 := by rw [← hl, ← size_data]; exact hs
 rw [hl] at hW
 have HP0 : Hid (specP s = headS (kindL (atL (cutL 32 (atL (cutL 10 l) 0)) 0)) (cutL 32 (atL (cutL 10 l) 0)) ((((cutL 10 l).drop 1).take ((cutL 10 l).length - 2)).map wantS)) := by rw [← hl]; exact rfl
 obtain ⟨L, hL⟩ : ∃ L, cutL 10 l = L := ⟨_, rfl⟩
 have hLn : L.length ≤ 1048577 := by rw [← hL]; exact Nat.le_trans (cutL_len 10 l) (by omega)
 have hLp : 0 < L.length := by rw [← hL]; exact cutL_pos 10 l
 have hL0 : L[0]? = some (atL L 0) := by rw [← hL]; exact at0
 have hLm : ∀ x ∈ L, x.length ≤ 1048576 := fun x hx => Nat.le_trans (cutL_mem 10 l x (by rw [hL]; exact hx)) hll
 have hl0 : (atL L 0).length ≤ 1048576 := by rw [← hL]; exact Nat.le_trans (atL_len 10 l 0) hll
 rw [hL] at HP0 hW
 obtain ⟨l0, hl0'⟩ : ∃ l0, atL L 0 = l0 := ⟨_, rfl⟩
 rw [hl0'] at hL0 hl0 HP0 hW
 obtain ⟨WS, hWS⟩ : ∃ WS, cutL 32 l0 = WS := ⟨_, rfl⟩
 have hWn : WS.length ≤ 1048577 := by rw [← hWS]; exact Nat.le_trans (cutL_len 32 l0) (by omega)
 have hWp : 0 < WS.length := by rw [← hWS]; exact cutL_pos 32 l0
 have hW0 : WS[0]? = some (atL WS 0) := by rw [← hWS]; exact at0
 have HWl : Hid (∀ j, (wd (atL WS j)).size ≤ 1048576) := fun j => by rw [wd_size, ← hWS]; exact Nat.le_trans (atL_len 32 l0 j) hl0
 rw [hWS] at HP0 hW
 have HLn : Hid (L.length ≤ 1048577) := hLn
 have HWn : Hid (WS.length ≤ 1048577) := hWn
 have HLm : Hid (∀ x ∈ L, x.length ≤ 1048576) := hLm
 have HL : Hid (cutL 10 l = L) := hL
 have HWS : Hid (cutL 32 l0 = WS) := hWS
 have Hl : Hid (s.data.toList = l) := hl
 have Hll : Hid (l.length ≤ 1048576) := hll
 have Hl0 : Hid (l0.length ≤ 1048576) := hl0
 have HL0 : Hid (L[0]? = some l0) := hL0
 have hW0' : WS[0]? = some wHere := by rw [hW0, hW]
 have HW0w : Hid (WS[0]? = some wHere) := hW0'
 have lp : (0 : Int) < (L.length : Int) := by omega
 have wp : (0 : Int) < (WS.length : Int) := by omega
 obtain ⟨x0, hx0⟩ : ∃ x, wd l0 = x := ⟨_, rfl⟩
 have HX0 : Hid (wd l0 = x0) := hx0
 have HX0d : Hid (x0.data.toList = l0) := by rw [← hx0]; exact wd_list l0
 obtain ⟨xb, hxb⟩ : ∃ x, wd (atL WS 1) = x := ⟨_, rfl⟩
 have HXb : Hid (wd (atL WS 1) = xb) := hxb
 obtain ⟨x12, hx2⟩ : ∃ x, wd (atL WS 2) = x := ⟨_, rfl⟩
 have HX12 : Hid (wd (atL WS 2) = x12) := hx2
 have HX12l : Hid (x12.size ≤ 1048576) := by rw [← hx2]; exact HWl.out 2
 obtain ⟨n2, hn2⟩ : ∃ n, numS x12 = n := ⟨_, rfl⟩
 have HN2 : Hid (numS x12 = n2) := hn2
 clear hx2 hn2
 rw [hW] at HP0
 clear hl hll hL hLn hLm hL0 hl0 hl0' hWS hWn hW0 hW hW0' hx0 hxb hw0 hs hLp hWp
 obtain ⟨P, hP⟩ : ∃ P, specP s = P := ⟨_, rfl⟩
 rw [hP] at HP0
 rw [hP]
 clear hP
 go_enter Tryz.func10, Tryz.ntmps10
 go_wp2_with fail
 rw [← HW0.out]
 refine (l7CutE s l Hl.out 10 10 rfl w0 Hll.out L HL.out).mono ?_
 rintro e w1 ⟨⟨g1, cp1, rfl, q1, q2, q3⟩, b1⟩
 have BW1 : Hid (Below w0.heap.size w0 w1) := b1
 have KL : Hid (∀ y, Below w1.heap.size w1 y → ∀ (j : Nat) x, L[j]? = some x → y.cell? ⟨g1, j, none⟩ = some (.string (wd x))) := fun y hb j x hj => (hb.cell (p := ⟨g1, j, none⟩) q2).trans (q3 j x hj)
 have c10 : w1.cell? ⟨g1, 0, none⟩ = some (.string x0) := by rw [q3 0 l0 HL0.out, HX0.out]
 clear q1 q2 q3 b1
 go_wp2_with fail
 refine (l7CutE x0 l0 HX0d.out 32 32 rfl w1 Hl0.out WS HWS.out).mono ?_
 rintro e w2 ⟨⟨g2, cp2, rfl, q1, q2, q3⟩, b2⟩
 have BW2 : Hid (Below w1.heap.size w1 w2) := b2
 have KW : Hid (∀ y, Below w2.heap.size w2 y → ∀ (j : Nat) x, WS[j]? = some x → y.cell? ⟨g2, j, none⟩ = some (.string (wd x))) := fun y hb j x hj => (hb.cell (p := ⟨g2, j, none⟩) q2).trans (q3 j x hj)
 have B02 : Hid (Below w0.heap.size w0 w2) := bl_trans BW1.out b2
 have B22 : Hid (Below w.heap.size w w2) := bl_trans B0.out B02.out
 have R2 : Hid (w2.heap[w.heap.size]? = some (.cells #[.int .i64 0, .string ⟨#[]⟩, .int .i64 0, .slice none 0 0, .string ⟨#[]⟩, .string ⟨#[]⟩, .int .i64 0] 25 (0, 0))) := (B02.out.block _ L0.out).trans R0.out
 have L2 : Hid (w.heap.size < w2.heap.size) := Nat.lt_of_lt_of_le L0.out B02.out.size
 clear q1 q2 q3 b2 c10
 go_wp2_with fail
 refine (l7AtE g2 cp2 WS 1 xb HXb.out w2 (by decide) HWn.out (KW.out w2 (Below.refl _ _))).mono ?_
 rintro e w' ⟨rfl, e2⟩
 rw [e2]
 clear e2
 have k20 : ∀ o : Obj, (w2.alloc o).cell? ⟨g2, 0, none⟩ = some (.string ⟨#[104, 101, 114, 101]⟩) := fun o => KW.out _ (bl_alloc (Below.refl _ _) _) 0 _ HW0w.out
 have HPe : Hid (P = ⟨6, xb, n2, [], { data := #[] }, { data := #[] }, 0⟩) := by
  rw [HP0.out, ← HXb.out, ← HN2.out, ← HX12.out]
  exact rfl
 have HSZ : Hid (ParSz ⟨6, xb, n2, [], { data := #[] }, { data := #[] }, 0⟩) := ⟨by rw [← HXb.out]; exact HWl.out 1, Nat.zero_le _, Nat.zero_le _, by simp⟩
 have HFT : Hid (∀ q ∈ (⟨6, xb, n2, [], { data := #[] }, { data := #[] }, 0⟩ : ParD).ws, q.fits) := fun q hq => by cases hq
 go_wp2_with fail
 refine (l7AtE g2 cp2 WS 2 x12 HX12.out _ (by decide) HWn.out (KW.out _ (bl_alloc (Below.refl _ _) _))).mono ?_
 rintro e w' ⟨rfl, e2⟩
 rw [e2]
 clear e2
 go_wp2_with fail
 refine (l7NumE x12 n2 HN2.out _ HX12l.out).mono ?_
 rintro e w3 ⟨rfl, b3⟩
 have RD3 : Hid (Rda w2 #[.int .i64 6, .string xb, .int .i64 0, .slice none 0 0, .string ⟨#[]⟩, .string ⟨#[]⟩, .int .i64 0] w3) := (Rda.new w2 _ _).below b3
 obtain ⟨w4, hw4⟩ : ∃ w4, w4 = w3.setCell ⟨w2.heap.size, 2, none⟩ (.int .i64 n2) := ⟨_, rfl⟩
 have HW4 : Hid (w4 = w3.setCell ⟨w2.heap.size, 2, none⟩ (.int .i64 n2)) := hw4
 have RD : Hid (Rda w2 #[.int .i64 6, .string xb, .int .i64 n2, .slice none 0 0, .string ⟨#[]⟩, .string ⟨#[]⟩, .int .i64 0] w4) := by rw [hw4]; exact RD3.out.set 2 (lb rfl) _
 have kc := RD3.out.b
 have kf := RD3.out.c
 have kz := RD3.out.f
 clear b3 hw4 k20
 have HZ : Hid (ParSz ⟨6, xb, n2, [], { data := #[] }, { data := #[] }, 0⟩) := HSZ.out
 have HF : Hid (∀ q ∈ (⟨6, xb, n2, [], { data := #[] }, { data := #[] }, 0⟩ : ParD).ws, q.fits) := HFT.out
 obtain ⟨TX, hTX⟩ : ∃ TX, formT ⟨6, xb, n2, [], { data := #[] }, { data := #[] }, 0⟩ = TX := ⟨_, rfl⟩
 have HTX : Hid (formT ⟨6, xb, n2, [], { data := #[] }, { data := #[] }, 0⟩ = TX) := hTX
 cases hq : (TX.toList == s.toList)
 ·
  have HOK : Hid (okP s P = false) := by rw [HPe.out]; exact okP_ne (by rw [hTX]; exact hq)
  clear hTX
  go_wp2_with fail
  rw [← HW4.out]
  refine (specFormG 6 xb n2 [] { data := #[] } { data := #[] } 0 (.slice none 0 0) w4 HZ.out HF.out (Or.inl ⟨none, 0, rfl, rfl⟩)).mono ?_
  rw [HTX.out]
  rintro e w5 ⟨rfl, b5⟩
  have BW5 : Hid (Below w.heap.size w w5) := bl_trans (bl_trans B22.out RD.out.e) b5
  have R5 : Hid (w5.heap[w.heap.size]? = some (.cells #[.int .i64 0, .string ⟨#[]⟩, .int .i64 0, .slice none 0 0, .string ⟨#[]⟩, .string ⟨#[]⟩, .int .i64 0] 25 (0, 0))) := ((bl_trans RD.out.e b5).block _ L2.out).trans R2.out
  have kz5 : w.heap.size < w5.heap.size := Nat.lt_of_lt_of_le L2.out (bl_trans RD.out.e b5).size
  clear b5 kc kf kz
  obtain ⟨F1, F2, F3⟩ := ans_set (w := w) (y := w5) (cs := #[.int .i64 0, .string ⟨#[]⟩, .int .i64 0, .slice none 0 0, .string ⟨#[]⟩, .string ⟨#[]⟩, .int .i64 0]) R5.out BW5.out
  go_wp2_with (refine wpList_store_row (by rfl) 25 _ _ (by rfl) w.heap.size #[.int .i64 0, .string ⟨#[]⟩, .int .i64 0, .slice none 0 0, .string ⟨#[]⟩, .string ⟨#[]⟩, .int .i64 0] (by rfl) (by rfl) 25 #[.int .i64 0, .string ⟨#[]⟩, .int .i64 0, .slice none 0 0, .string ⟨#[]⟩, .string ⟨#[]⟩, .int .i64 0] R5.out (by kernel_rfl) rfl (by simp [Value.oneCell']) ?_)
  have s0 := F1.out 0; have s1 := F1.out 1; have s2 := F1.out 2; have s3 := F1.out 3; have s4 := F1.out 4; have s5 := F1.out 5; have s6 := F1.out 6
  exact bodyPost_ret (v := .tuple #[.agg #[.int .i64 0, .string ⟨#[]⟩, .int .i64 0, .slice none 0 0, .string ⟨#[]⟩, .string ⟨#[]⟩, .int .i64 0], .bool false]) (by simp [results, Tryz.results10, go_sem, s0, s1, s2, s3, s4, s5, s6]) rfl (post_no HOK.out rfl F2.out)
 ·
  have HOK : Hid (okP s P = true) := by rw [HPe.out]; exact okP_yes hse (by rw [hTX]; exact hq)
  clear hTX
  go_wp2_with fail
  rw [← HW4.out]
  refine (specFormG 6 xb n2 [] { data := #[] } { data := #[] } 0 (.slice none 0 0) w4 HZ.out HF.out (Or.inl ⟨none, 0, rfl, rfl⟩)).mono ?_
  rw [HTX.out]
  rintro e w5 ⟨rfl, b5⟩
  have BW5 : Hid (Below w.heap.size w w5) := bl_trans (bl_trans B22.out RD.out.e) b5
  have R5 : Hid (w5.heap[w.heap.size]? = some (.cells #[.int .i64 0, .string ⟨#[]⟩, .int .i64 0, .slice none 0 0, .string ⟨#[]⟩, .string ⟨#[]⟩, .int .i64 0] 25 (0, 0))) := ((bl_trans RD.out.e b5).block _ L2.out).trans R2.out
  have kz5 : w.heap.size < w5.heap.size := Nat.lt_of_lt_of_le L2.out (bl_trans RD.out.e b5).size
  have kd0 := (RD.out.below b5).b 0
  have kd1 := (RD.out.below b5).b 1
  have kd2 := (RD.out.below b5).b 2
  have kd3 := (RD.out.below b5).b 3
  have kd4 := (RD.out.below b5).b 4
  have kd5 := (RD.out.below b5).b 5
  have kd6 := (RD.out.below b5).b 6
  have HS5 : Hid (W.Sl w5 (.slice none 0 0) [] w2.heap.size) := W.Sl.keep (Or.inl ⟨rfl, rfl⟩) b5
  clear b5 kc kf kz
  obtain ⟨F1, F2, F3⟩ := ans_set (w := w) (y := w5) (cs := #[.int .i64 6, .string xb, .int .i64 n2, .slice none 0 0, .string ⟨#[]⟩, .string ⟨#[]⟩, .int .i64 0]) R5.out BW5.out
  have HS6 : Hid (W.Sl (w5.setRow w.heap.size #[.int .i64 6, .string xb, .int .i64 n2, .slice none 0 0, .string ⟨#[]⟩, .string ⟨#[]⟩, .int .i64 0]) (.slice none 0 0) [] w.heap.size) := by
   refine Sl_lowS (HS5.out.grown F3.out ?_) (Nat.le_of_lt L2.out)
   cases hv : (.slice none 0 0 : Value).ownBlock with
   | none => exact Or.inl rfl
   | some g =>
    right
    intro e
    have h2 := (HS5.out.lt g hv).1
    have h3 := L2.out
    have e2 := Option.some.inj e
    omega
  go_wp2_with (refine wpList_store_row (by rfl) 25 _ _ (by rfl) w.heap.size #[.int .i64 6, .string xb, .int .i64 n2, .slice none 0 0, .string ⟨#[]⟩, .string ⟨#[]⟩, .int .i64 0] (by rfl) (by rfl) 25 #[.int .i64 0, .string ⟨#[]⟩, .int .i64 0, .slice none 0 0, .string ⟨#[]⟩, .string ⟨#[]⟩, .int .i64 0] R5.out (by kernel_rfl) rfl (by simp [Value.oneCell']) ?_)
  have s0 := F1.out 0; have s1 := F1.out 1; have s2 := F1.out 2; have s3 := F1.out 3; have s4 := F1.out 4; have s5 := F1.out 5; have s6 := F1.out 6
  exact bodyPost_ret (v := .tuple #[.agg #[.int .i64 6, .string xb, .int .i64 n2, .slice none 0 0, .string ⟨#[]⟩, .string ⟨#[]⟩, .int .i64 0], .bool true]) (by simp [results, Tryz.results10, go_sem, s0, s1, s2, s3, s4, s5, s6]) rfl (post_yes (v := .slice none 0 0) HOK.out (by rw [HPe.out]; rfl) (by rw [HPe.out]; exact HS6.out) F2.out)
theorem wd_inj' {a b : List UInt8} (h : wd a = wd b) : a = b := by rw [← wd_list a, h, wd_list]
theorem ne_word {x : ByteArray} {l : List UInt8} (h : ¬ x = wd l) : (x.toList == l) = false := by
 have h1 := ne_list h
 rw [ByteArray.toList_eq (wd l), wd_list] at h1
 exact h1
def wordOf (k : Nat) : List UInt8 := match k with | 1 => wTold | 2 => wAsked | 3 => wGiven | 4 => wBack | 5 => wGot | _ => wHere
theorem kind_none {w : List UInt8} (h : kindL w = 0) : ∀ k : Nat, w ≠ wordOf k := by
 intro k e
 unfold wordOf at e
 split at e
 all_goals (subst e; exact absurd h (by decide))
set_option maxRecDepth 4000 in
set_option maxHeartbeats 8000000 in
theorem specR7 (s : ByteArray) (w : World) (hs : s.size ≤ 1048576) (lw : List UInt8) (hW : atL (cutL 32 (atL (cutL 10 s.data.toList) 0)) 0 = lw) (hk : kindL lw = 0) :
  Calls Tryz.prog 10 #[.string s] w fun e w' => RdPost s (specP s) w e w' := by
 have h7 := kind_none hk
 have HK : Hid (kindL lw = 0) := hk
 clear hk
 obtain ⟨w0, hw0⟩ : ∃ w0, w0 = w.alloc (.cells #[.int .i64 0, .string ⟨#[]⟩, .int .i64 0, .slice none 0 0, .string ⟨#[]⟩, .string ⟨#[]⟩, .int .i64 0] 25) := ⟨_, rfl⟩
 have HW0 : Hid (w0 = w.alloc (.cells #[.int .i64 0, .string ⟨#[]⟩, .int .i64 0, .slice none 0 0, .string ⟨#[]⟩, .string ⟨#[]⟩, .int .i64 0] 25)) := hw0
 have B0 : Hid (Below w.heap.size w w0) := by rw [hw0]; exact bl_alloc (Below.refl _ _) _
 have R0 : Hid (w0.heap[w.heap.size]? = some (.cells #[.int .i64 0, .string ⟨#[]⟩, .int .i64 0, .slice none 0 0, .string ⟨#[]⟩, .string ⟨#[]⟩, .int .i64 0] 25 (0, 0))) := by rw [hw0]; exact heap_alloc_new w _
 have L0 : Hid (w.heap.size < w0.heap.size) := by rw [hw0]; show _ < _; simp
 obtain ⟨l, hl⟩ : ∃ l, s.data.toList = l := ⟨_, rfl⟩
 have hll : l.length ≤ 1048576 := by rw [← hl, ← size_data]; exact hs
 rw [hl] at hW
 have HP0 : Hid (specP s = headS (kindL (atL (cutL 32 (atL (cutL 10 l) 0)) 0)) (cutL 32 (atL (cutL 10 l) 0)) ((((cutL 10 l).drop 1).take ((cutL 10 l).length - 2)).map wantS)) := by rw [← hl]; exact rfl
 obtain ⟨L, hL⟩ : ∃ L, cutL 10 l = L := ⟨_, rfl⟩
 have hLn : L.length ≤ 1048577 := by rw [← hL]; exact Nat.le_trans (cutL_len 10 l) (by omega)
 have hLp : 0 < L.length := by rw [← hL]; exact cutL_pos 10 l
 have hL0 : L[0]? = some (atL L 0) := by rw [← hL]; exact at0
 have hLm : ∀ x ∈ L, x.length ≤ 1048576 := fun x hx => Nat.le_trans (cutL_mem 10 l x (by rw [hL]; exact hx)) hll
 have hl0 : (atL L 0).length ≤ 1048576 := by rw [← hL]; exact Nat.le_trans (atL_len 10 l 0) hll
 rw [hL] at HP0 hW
 obtain ⟨l0, hl0'⟩ : ∃ l0, atL L 0 = l0 := ⟨_, rfl⟩
 rw [hl0'] at hL0 hl0 HP0 hW
 obtain ⟨WS, hWS⟩ : ∃ WS, cutL 32 l0 = WS := ⟨_, rfl⟩
 have hWn : WS.length ≤ 1048577 := by rw [← hWS]; exact Nat.le_trans (cutL_len 32 l0) (by omega)
 have hWp : 0 < WS.length := by rw [← hWS]; exact cutL_pos 32 l0
 have hW0 : WS[0]? = some (atL WS 0) := by rw [← hWS]; exact at0
 have HWl : Hid (∀ j, (wd (atL WS j)).size ≤ 1048576) := fun j => by rw [wd_size, ← hWS]; exact Nat.le_trans (atL_len 32 l0 j) hl0
 rw [hWS] at HP0 hW
 have HLn : Hid (L.length ≤ 1048577) := hLn
 have HWn : Hid (WS.length ≤ 1048577) := hWn
 have HLm : Hid (∀ x ∈ L, x.length ≤ 1048576) := hLm
 have HL : Hid (cutL 10 l = L) := hL
 have HWS : Hid (cutL 32 l0 = WS) := hWS
 have Hl : Hid (s.data.toList = l) := hl
 have Hll : Hid (l.length ≤ 1048576) := hll
 have Hl0 : Hid (l0.length ≤ 1048576) := hl0
 have HL0 : Hid (L[0]? = some l0) := hL0
 have hW0' : WS[0]? = some lw := by rw [hW0, hW]
 have HW0w : Hid (WS[0]? = some lw) := hW0'
 have lp : (0 : Int) < (L.length : Int) := by omega
 have wp : (0 : Int) < (WS.length : Int) := by omega
 obtain ⟨x0, hx0⟩ : ∃ x, wd l0 = x := ⟨_, rfl⟩
 have HX0 : Hid (wd l0 = x0) := hx0
 have HX0d : Hid (x0.data.toList = l0) := by rw [← hx0]; exact wd_list l0
 obtain ⟨xb, hxb⟩ : ∃ x, wd (atL WS 1) = x := ⟨_, rfl⟩
 have HXb : Hid (wd (atL WS 1) = xb) := hxb
 obtain ⟨xw, hxw⟩ : ∃ x, wd lw = x := ⟨_, rfl⟩
 have m1 : (xw.toList == [116, 111, 108, 100]) = false := ne_word (by rw [← hxw]; intro e; exact h7 1 (wd_inj' e))
 have m2 : (xw.toList == [97, 115, 107, 101, 100]) = false := ne_word (by rw [← hxw]; intro e; exact h7 2 (wd_inj' e))
 have m3 : (xw.toList == [103, 105, 118, 101, 110]) = false := ne_word (by rw [← hxw]; intro e; exact h7 3 (wd_inj' e))
 have m4 : (xw.toList == [98, 97, 99, 107]) = false := ne_word (by rw [← hxw]; intro e; exact h7 4 (wd_inj' e))
 have m5 : (xw.toList == [103, 111, 116, 98, 97, 99, 107]) = false := ne_word (by rw [← hxw]; intro e; exact h7 5 (wd_inj' e))
 have m6 : (xw.toList == [104, 101, 114, 101]) = false := ne_word (by rw [← hxw]; intro e; exact h7 6 (wd_inj' e))
 have HXw : Hid (wd lw = xw) := hxw
 clear hxw h7
 rw [hW] at HP0
 clear hl hll hL hLn hLm hL0 hl0 hl0' hWS hWn hW0 hW hW0' hx0 hxb hw0 hs hLp hWp
 obtain ⟨P, hP⟩ : ∃ P, specP s = P := ⟨_, rfl⟩
 rw [hP] at HP0
 rw [hP]
 clear hP
 go_enter Tryz.func10, Tryz.ntmps10
 go_wp2_with fail
 rw [← HW0.out]
 refine (l7CutE s l Hl.out 10 10 rfl w0 Hll.out L HL.out).mono ?_
 rintro e w1 ⟨⟨g1, cp1, rfl, q1, q2, q3⟩, b1⟩
 have BW1 : Hid (Below w0.heap.size w0 w1) := b1
 have KL : Hid (∀ y, Below w1.heap.size w1 y → ∀ (j : Nat) x, L[j]? = some x → y.cell? ⟨g1, j, none⟩ = some (.string (wd x))) := fun y hb j x hj => (hb.cell (p := ⟨g1, j, none⟩) q2).trans (q3 j x hj)
 have c10 : w1.cell? ⟨g1, 0, none⟩ = some (.string x0) := by rw [q3 0 l0 HL0.out, HX0.out]
 clear q1 q2 q3 b1
 go_wp2_with fail
 refine (l7CutE x0 l0 HX0d.out 32 32 rfl w1 Hl0.out WS HWS.out).mono ?_
 rintro e w2 ⟨⟨g2, cp2, rfl, q1, q2, q3⟩, b2⟩
 have BW2 : Hid (Below w1.heap.size w1 w2) := b2
 have KW : Hid (∀ y, Below w2.heap.size w2 y → ∀ (j : Nat) x, WS[j]? = some x → y.cell? ⟨g2, j, none⟩ = some (.string (wd x))) := fun y hb j x hj => (hb.cell (p := ⟨g2, j, none⟩) q2).trans (q3 j x hj)
 have B02 : Hid (Below w0.heap.size w0 w2) := bl_trans BW1.out b2
 have B22 : Hid (Below w.heap.size w w2) := bl_trans B0.out B02.out
 have R2 : Hid (w2.heap[w.heap.size]? = some (.cells #[.int .i64 0, .string ⟨#[]⟩, .int .i64 0, .slice none 0 0, .string ⟨#[]⟩, .string ⟨#[]⟩, .int .i64 0] 25 (0, 0))) := (B02.out.block _ L0.out).trans R0.out
 have L2 : Hid (w.heap.size < w2.heap.size) := Nat.lt_of_lt_of_le L0.out B02.out.size
 clear q1 q2 q3 b2 c10
 go_wp2_with fail
 refine (l7AtE g2 cp2 WS 1 xb HXb.out w2 (by decide) HWn.out (KW.out w2 (Below.refl _ _))).mono ?_
 rintro e w' ⟨rfl, e2⟩
 rw [e2]
 clear e2
 have k20 : ∀ o : Obj, (w2.alloc o).cell? ⟨g2, 0, none⟩ = some (.string xw) := fun o => by rw [KW.out _ (bl_alloc (Below.refl _ _) _) 0 _ HW0w.out, HXw.out]
 have HPe : Hid (P = ⟨0, xb, 0, [], { data := #[] }, { data := #[] }, 0⟩) := by
  rw [HP0.out, HK.out, ← HXb.out]
  exact rfl
 have HSZ : Hid (ParSz ⟨0, xb, 0, [], { data := #[] }, { data := #[] }, 0⟩) := ⟨by rw [← HXb.out]; exact HWl.out 1, Nat.zero_le _, Nat.zero_le _, by simp⟩
 have HFT : Hid (∀ q ∈ (⟨0, xb, 0, [], { data := #[] }, { data := #[] }, 0⟩ : ParD).ws, q.fits) := fun q hq => by cases hq
 obtain ⟨w4, hw4⟩ : ∃ w4, w4 = w2.alloc (.cells #[.int .i64 0, .string xb, .int .i64 0, .slice none 0 0, .string ⟨#[]⟩, .string ⟨#[]⟩, .int .i64 0] 25) := ⟨_, rfl⟩
 have HW4 : Hid (w4 = w2.alloc (.cells #[.int .i64 0, .string xb, .int .i64 0, .slice none 0 0, .string ⟨#[]⟩, .string ⟨#[]⟩, .int .i64 0] 25)) := hw4
 have RD : Hid (Rda w2 #[.int .i64 0, .string xb, .int .i64 0, .slice none 0 0, .string ⟨#[]⟩, .string ⟨#[]⟩, .int .i64 0] w4) := by rw [hw4]; exact Rda.new w2 _ _
 clear hw4
 cases hse : s.toList.isEmpty
 ·
  have HZ : Hid (ParSz ⟨0, xb, 0, [], { data := #[] }, { data := #[] }, 0⟩) := HSZ.out
  have HF : Hid (∀ q ∈ (⟨0, xb, 0, [], { data := #[] }, { data := #[] }, 0⟩ : ParD).ws, q.fits) := HFT.out
  obtain ⟨TX, hTX⟩ : ∃ TX, formT ⟨0, xb, 0, [], { data := #[] }, { data := #[] }, 0⟩ = TX := ⟨_, rfl⟩
  have HTX : Hid (formT ⟨0, xb, 0, [], { data := #[] }, { data := #[] }, 0⟩ = TX) := hTX
  cases hq : (TX.toList == s.toList)
  ·
   have HOK : Hid (okP s P = false) := by rw [HPe.out]; exact okP_ne (by rw [hTX]; exact hq)
   clear hTX
   go_wp2_with fail
   rw [← HW4.out]
   refine (specFormG 0 xb 0 [] { data := #[] } { data := #[] } 0 (.slice none 0 0) w4 HZ.out HF.out (Or.inl ⟨none, 0, rfl, rfl⟩)).mono ?_
   rw [HTX.out]
   rintro e w5 ⟨rfl, b5⟩
   have BW5 : Hid (Below w.heap.size w w5) := bl_trans (bl_trans B22.out RD.out.e) b5
   have R5 : Hid (w5.heap[w.heap.size]? = some (.cells #[.int .i64 0, .string ⟨#[]⟩, .int .i64 0, .slice none 0 0, .string ⟨#[]⟩, .string ⟨#[]⟩, .int .i64 0] 25 (0, 0))) := ((bl_trans RD.out.e b5).block _ L2.out).trans R2.out
   have kz5 : w.heap.size < w5.heap.size := Nat.lt_of_lt_of_le L2.out (bl_trans RD.out.e b5).size
   clear b5 k20
   obtain ⟨F1, F2, F3⟩ := ans_set (w := w) (y := w5) (cs := #[.int .i64 0, .string ⟨#[]⟩, .int .i64 0, .slice none 0 0, .string ⟨#[]⟩, .string ⟨#[]⟩, .int .i64 0]) R5.out BW5.out
   go_wp2_with (refine wpList_store_row (by rfl) 25 _ _ (by rfl) w.heap.size #[.int .i64 0, .string ⟨#[]⟩, .int .i64 0, .slice none 0 0, .string ⟨#[]⟩, .string ⟨#[]⟩, .int .i64 0] (by rfl) (by rfl) 25 #[.int .i64 0, .string ⟨#[]⟩, .int .i64 0, .slice none 0 0, .string ⟨#[]⟩, .string ⟨#[]⟩, .int .i64 0] R5.out (by kernel_rfl) rfl (by simp [Value.oneCell']) ?_)
   have s0 := F1.out 0; have s1 := F1.out 1; have s2 := F1.out 2; have s3 := F1.out 3; have s4 := F1.out 4; have s5 := F1.out 5; have s6 := F1.out 6
   exact bodyPost_ret (v := .tuple #[.agg #[.int .i64 0, .string ⟨#[]⟩, .int .i64 0, .slice none 0 0, .string ⟨#[]⟩, .string ⟨#[]⟩, .int .i64 0], .bool false]) (by simp [results, Tryz.results10, go_sem, s0, s1, s2, s3, s4, s5, s6]) rfl (post_no HOK.out rfl F2.out)
  ·
   have HOK : Hid (okP s P = true) := by rw [HPe.out]; exact okP_yes hse (by rw [hTX]; exact hq)
   clear hTX
   go_wp2_with fail
   rw [← HW4.out]
   refine (specFormG 0 xb 0 [] { data := #[] } { data := #[] } 0 (.slice none 0 0) w4 HZ.out HF.out (Or.inl ⟨none, 0, rfl, rfl⟩)).mono ?_
   rw [HTX.out]
   rintro e w5 ⟨rfl, b5⟩
   have BW5 : Hid (Below w.heap.size w w5) := bl_trans (bl_trans B22.out RD.out.e) b5
   have R5 : Hid (w5.heap[w.heap.size]? = some (.cells #[.int .i64 0, .string ⟨#[]⟩, .int .i64 0, .slice none 0 0, .string ⟨#[]⟩, .string ⟨#[]⟩, .int .i64 0] 25 (0, 0))) := ((bl_trans RD.out.e b5).block _ L2.out).trans R2.out
   have kz5 : w.heap.size < w5.heap.size := Nat.lt_of_lt_of_le L2.out (bl_trans RD.out.e b5).size
   have kd0 := (RD.out.below b5).b 0
   have kd1 := (RD.out.below b5).b 1
   have kd2 := (RD.out.below b5).b 2
   have kd3 := (RD.out.below b5).b 3
   have kd4 := (RD.out.below b5).b 4
   have kd5 := (RD.out.below b5).b 5
   have kd6 := (RD.out.below b5).b 6
   have HS5 : Hid (W.Sl w5 (.slice none 0 0) [] w2.heap.size) := W.Sl.keep (Or.inl ⟨rfl, rfl⟩) b5
   clear b5 k20
   obtain ⟨F1, F2, F3⟩ := ans_set (w := w) (y := w5) (cs := #[.int .i64 0, .string xb, .int .i64 0, .slice none 0 0, .string ⟨#[]⟩, .string ⟨#[]⟩, .int .i64 0]) R5.out BW5.out
   have HS6 : Hid (W.Sl (w5.setRow w.heap.size #[.int .i64 0, .string xb, .int .i64 0, .slice none 0 0, .string ⟨#[]⟩, .string ⟨#[]⟩, .int .i64 0]) (.slice none 0 0) [] w.heap.size) := by
    refine Sl_lowS (HS5.out.grown F3.out ?_) (Nat.le_of_lt L2.out)
    cases hv : (.slice none 0 0 : Value).ownBlock with
    | none => exact Or.inl rfl
    | some g =>
     right
     intro e
     have h2 := (HS5.out.lt g hv).1
     have h3 := L2.out
     have e2 := Option.some.inj e
     omega
   go_wp2_with (refine wpList_store_row (by rfl) 25 _ _ (by rfl) w.heap.size #[.int .i64 0, .string xb, .int .i64 0, .slice none 0 0, .string ⟨#[]⟩, .string ⟨#[]⟩, .int .i64 0] (by rfl) (by rfl) 25 #[.int .i64 0, .string ⟨#[]⟩, .int .i64 0, .slice none 0 0, .string ⟨#[]⟩, .string ⟨#[]⟩, .int .i64 0] R5.out (by kernel_rfl) rfl (by simp [Value.oneCell']) ?_)
   have s0 := F1.out 0; have s1 := F1.out 1; have s2 := F1.out 2; have s3 := F1.out 3; have s4 := F1.out 4; have s5 := F1.out 5; have s6 := F1.out 6
   exact bodyPost_ret (v := .tuple #[.agg #[.int .i64 0, .string xb, .int .i64 0, .slice none 0 0, .string ⟨#[]⟩, .string ⟨#[]⟩, .int .i64 0], .bool true]) (by simp [results, Tryz.results10, go_sem, s0, s1, s2, s3, s4, s5, s6]) rfl (post_yes (v := .slice none 0 0) HOK.out (by rw [HPe.out]; rfl) (by rw [HPe.out]; exact HS6.out) F2.out)
 ·
  have HOK : Hid (okP s P = false) := okP_no hse
  have BW4 : Hid (Below w.heap.size w w4) := bl_trans B22.out RD.out.e
  have R4 : Hid (w4.heap[w.heap.size]? = some (.cells #[.int .i64 0, .string ⟨#[]⟩, .int .i64 0, .slice none 0 0, .string ⟨#[]⟩, .string ⟨#[]⟩, .int .i64 0] 25 (0, 0))) := (RD.out.e.block _ L2.out).trans R2.out
  have kz4 : w.heap.size < w4.heap.size := Nat.lt_of_lt_of_le L2.out RD.out.e.size
  obtain ⟨F1, F2, F3⟩ := ans_set (w := w) (y := w4) (cs := #[.int .i64 0, .string ⟨#[]⟩, .int .i64 0, .slice none 0 0, .string ⟨#[]⟩, .string ⟨#[]⟩, .int .i64 0]) R4.out BW4.out
  go_wp2_with (rw [← HW4.out]; refine wpList_store_row (by rfl) 25 _ _ (by rfl) w.heap.size #[.int .i64 0, .string ⟨#[]⟩, .int .i64 0, .slice none 0 0, .string ⟨#[]⟩, .string ⟨#[]⟩, .int .i64 0] (by rfl) (by rfl) 25 #[.int .i64 0, .string ⟨#[]⟩, .int .i64 0, .slice none 0 0, .string ⟨#[]⟩, .string ⟨#[]⟩, .int .i64 0] R4.out (by kernel_rfl) rfl (by simp [Value.oneCell']) ?_)
  have s0 := F1.out 0; have s1 := F1.out 1; have s2 := F1.out 2; have s3 := F1.out 3; have s4 := F1.out 4; have s5 := F1.out 5; have s6 := F1.out 6
  exact bodyPost_ret (v := .tuple #[.agg #[.int .i64 0, .string ⟨#[]⟩, .int .i64 0, .slice none 0 0, .string ⟨#[]⟩, .string ⟨#[]⟩, .int .i64 0], .bool false]) (by simp [results, Tryz.results10, go_sem, s0, s1, s2, s3, s4, s5, s6]) rfl (post_no HOK.out rfl F2.out)
def slR : Nat → Nat
 | 0 => 23
 | 1 => 24
 | 2 => 25
 | 3 => 26
 | 4 => 27
 | 5 => 28
 | 6 => 29
 | 7 => 30
 | 8 => 31
 | 9 => 32
 | _ => 0
theorem slR_inj {i : Nat} (hi : i < 10) : ∀ j, j < 10 → slR j = slR i → j = i := by
 have h : ∀ a : _root_.Fin 10, ∀ b : _root_.Fin 10, slR b.val = slR a.val → b.val = a.val := by decide
 intro j hj e
 exact h ⟨i, hi⟩ ⟨j, hj⟩ e
theorem slR_far (j : Nat) (h2 : j < 23 ∨ 23 + 10 ≤ j) : ∀ i, i < 10 → slR i ≠ j := by
 have h : ∀ a : _root_.Fin 10, 23 ≤ slR a.val ∧ slR a.val < 23 + 10 := by decide
 intro i hi e
 have h3 := h ⟨i, hi⟩
 simp only [e] at h3
 omega
theorem slR_out (k : Nat) (h : (List.range 10).all (fun i => slR i != k) = true) : ∀ i, i < 10 → slR i ≠ k := fun i hi e => by
 have h1 := List.all_eq_true.1 h i (List.mem_range.2 hi)
 rw [e] at h1
 simp at h1
def shR (i : Nat) : Bool := i == 4 || i == 5
def GR (Wb w0 : World) (bp : Nat) (V : Value) (L : List UInt8) (x : ByteArray) (w : World) : Nat → Value → Prop
 | 0, v => v = .pointer (some ⟨bp, 3, none⟩)
 | 1, v => v = V
 | 2, v => v = .string x
 | 3, v => v = .agg #[.string x]
 | 4, v => ∃ bs, v = .pointer (some ⟨bs, 0, none⟩) ∧ At Wb bs L 0 w ∧ w0.heap.size ≤ bs
 | 5, v => ∃ bs, v = .iface 97 (.pointer (some ⟨bs, 0, none⟩)) ∧ At Wb bs L 0 w ∧ w0.heap.size ≤ bs
 | 6, v => v = .agg (wcells (wantI L))
 | 7, v => ∃ g, v = .slice (some ⟨g, 0, none⟩) 1 1 ∧ g < w.heap.size ∧ ∀ j u, (wantI L).cells[j]? = some u → w.cell? ⟨g, j, none⟩ = some u
 | 9, v => v = .pointer (some ⟨bp, 3, none⟩)
 | _, _ => True
theorem GR.keep {Wb w0 : World} {bp : Nat} {V : Value} {L : List UInt8} {x : ByteArray} {w w' : World} (hb : Below w.heap.size w w') : ∀ i v, GR Wb w0 bp V L x w i v → GR Wb w0 bp V L x w' i v
 | 0, _, h => h
 | 1, _, h => h
 | 2, _, h => h
 | 3, _, h => h
 | 4, _, ⟨bs, h1, h2, h3⟩ => ⟨bs, h1, h2.keep hb, h3⟩
 | 5, _, ⟨bs, h1, h2, h3⟩ => ⟨bs, h1, h2.keep hb, h3⟩
 | 6, _, h => h
 | 7, _, ⟨g, h1, h2, h3⟩ => ⟨g, h1, Nat.lt_of_lt_of_le h2 hb.size, fun j u hj => (hb.cell (p := ⟨g, j, none⟩) h2).trans (h3 j u hj)⟩
 | 8, _, _ => trivial
 | 9, _, h => h
 | _ + 10, _, _ => trivial
theorem GR.free {Wb w0 : World} {bp : Nat} {V : Value} {L : List UInt8} {x : ByteArray} {w w' : World} : ∀ i v, i ≠ 4 → i ≠ 5 → i ≠ 7 → GR Wb w0 bp V L x w i v → GR Wb w0 bp V L x w' i v
 | 0, _, _, _, _, h => h
 | 1, _, _, _, _, h => h
 | 2, _, _, _, _, h => h
 | 3, _, _, _, _, h => h
 | 4, _, h4, _, _, _ => absurd rfl h4
 | 5, _, _, h5, _, _ => absurd rfl h5
 | 6, _, _, _, _, h => h
 | 7, _, _, _, h7, _ => absurd rfl h7
 | 8, _, _, _, _, _ => trivial
 | 9, _, _, _, _, h => h
 | _ + 10, _, _, _, _, _ => trivial
structure PS (Y : World) (be bp : Nat) (O : Value → Array Value) (r : List UInt8) (ws : List W.WantD) (V : Value) (y : World) : Prop where
 p : Pl Y be bp (O V) y
 s : Sp be r y
 r : Rw bp ws V y
theorem PS.below {Y : World} {be bp : Nat} {O : Value → Array Value} {r : List UInt8} {ws : List W.WantD} {V : Value} {y y' : World} (h : PS Y be bp O r ws V y) (hb : Below y.heap.size y y') : PS Y be bp O r ws V y' := ⟨h.p.below hb, h.s.keep hb, h.r.below hb⟩
theorem Sp.grow {b : Nat} {r : List UInt8} {w w' : World} {row : Option Nat} (h : Sp b r w) (hg : w.grownBy w' row) (hn : some b ≠ row) : Sp b r w' :=
 ⟨(World.cell?_of_block (w := w) (a := ⟨b, 0, none⟩) (hg.block b h.z hn)).trans h.c, (World.frozen?_of_block (w := w) (a := ⟨b, 0, none⟩) (hg.block b h.z hn)).trans h.f, Nat.lt_of_lt_of_le h.z hg.size, h.l⟩
def PA (Y : World) (be bp : Nat) (O : Value → Array Value) (r : List UInt8) (ws : List W.WantD) (V : Value) (y : World) (v : Value) : Prop := Pl Y be bp (O V) y ∧ Sp be r y ∧ Rw bp ws v y
theorem wantApp {o : Oper} {a : Act} {y : World} {K : Act → World → Prop} {Q : Exit → Act → World → Prop} (bp : Nat) (s x : Operand) (ho : o.op = .call { callee := .builtin .append, args := #[s, x], argTypes := #[23, 23] })
  (ws : List W.WantD) (r : W.WantD) (V : Value) (g : Nat) (hs : a.eval s = V) (hown : Rw bp ws V y) (hB : bp + 1 ≤ y.heap.size) (hx : a.eval x = .slice (some ⟨g, 0, none⟩) 1 1) (hn : ∀ j u, r.cells[j]? = some u → y.cell? ⟨g, j, none⟩ = some u) (hl : ws.length ≤ 1000)
  (h : ∀ v' w', Rw bp (ws ++ [r]) v' w' → y.grownBy w' V.ownBlock → K (a.put o.dst v') w') : o.wp Tryz.prog a y K Q := by
 obtain ⟨i0, hi, hz0, hz1, hz2⟩ := info_parts W.infoR
 refine wp_append_own y s x 23 ho (bp + 1) 46 i0 _ 7 72 Tryz.underlying23 hi hz0 hz1 hz2 rfl (by decide) V ws.length _ hs hown ⟨g, 0, none⟩ 1 1 r.cells hx rfl (fun j u hj => by rw [Addr.add_mid, Nat.zero_add]; exact hn j u hj) (W.cellsR_one _) (by unfold maxLen; omega) (by omega) hB ?_
 intro v' w' ho' hg' _
 refine h v' w' ?_ hg'
 show World.ownsRow _ _ _ _ _ (ws ++ [r]).length _
 rw [List.length_append, W.flatR_snoc]
 exact ho'
def OP (k0 : Int) (b0 : ByteArray) (se0 : Int) (h0 c0 : ByteArray) (t0 : Int) (v : Value) : Array Value := #[.int .i64 k0, .string b0, .int .i64 se0, v, .string h0, .string c0, .int .i64 t0]
theorem Sl_low {w : World} {v : Value} {l : List W.WantD} {B B' : Nat} (h : W.Sl w v l B) (hB : B' ≤ B) : W.Sl w v l B' := by
 rcases h with h | ⟨g, cap, h1, h2, h3⟩
 ·
  exact Or.inl h
 ·
  exact Or.inr ⟨g, cap, h1, Nat.le_trans hB h2, h3⟩
theorem Pl.fin {Y : World} {be bp : Nat} {O : Array Value} {y : World} (h : Pl Y be bp O y) (cs : Array Value) :
  Hid (∀ j, (y.setRow Y.heap.size cs).cell? ⟨Y.heap.size, j, none⟩ = cs[j]?) ∧ Hid (Ex be Y (y.setRow Y.heap.size cs)) ∧ Hid (y.grownBy (y.setRow Y.heap.size cs) (some Y.heap.size)) := by
 have h1 := setRow_heap y Y.heap.size Z7 cs _ _ h.r
 have hg : y.grownBy (y.setRow Y.heap.size cs) (some Y.heap.size) := ⟨rfl, rfl, rfl, by simp, fun k _ hk => setRow_other y Y.heap.size k _ (fun e => hk (by simp [e]))⟩
 refine ⟨fun j => ?_, ⟨h.x.os, h.x.tape, h.x.output, by have := h.x.size; simpa using this, fun k hk hne => ?_⟩, hg⟩
 ·
  show _ = _
  rw [cell_of_row _ _ j cs _ (0, 0) h1]
 ·
  rw [setRow_other y Y.heap.size k cs (by omega)]
  exact h.x.block k hk hne
theorem Sp.ex {b kr : Nat} {r : List UInt8} {w w' : World} (h : Sp b r w) (hx : Ex kr w w') (hn : b ≠ kr) : Sp b r w' :=
 ⟨(hx.cell (p := ⟨b, 0, none⟩) h.z hn).trans h.c, (hx.frozen (p := ⟨b, 0, none⟩) h.z hn).trans h.f, Nat.lt_of_lt_of_le h.z hx.size, h.l⟩
theorem at_new {Wb y : World} {L : List UInt8} {x : ByteArray} {t : TypeId} (hx : x = wd L) (hl : L.length ≤ 1048576) (hb : Below Wb.heap.size Wb y) (hz : Wb.heap.size ≤ y.heap.size) : At Wb y.heap.size L 0 (y.alloc (.cells #[.string x] t)) :=
 ⟨⟨by rw [World.cell?_alloc_new, hx]; rfl, by simp [go_sem], by simp, hl⟩, bl_alloc hb _, hz⟩
theorem bldW1 (r : W.WantD) (w : World) : Sem.run Tryz.prog (Instr.buildSlice 23 1 #[(0, .agg (wcells r))]) w = .ok (.slice (some ⟨w.heap.size, 0, none⟩) 1 1) (w.alloc (.cells (wcells r) 46)) := by
 obtain ⟨c, h, v, p, s, d, g⟩ := r
 kernel_rfl
theorem wp_bldW {o : Oper} {a : Act} {w : World} {K : Act → World → Prop} {Q : Exit → Act → World → Prop} (s : Operand) (ho : o.op = .buildSlice 23 1 #[(0, s)]) (r : W.WantD) (hs : a.eval s = .agg (wcells r))
  (h : K (a.put o.dst (.slice (some ⟨w.heap.size, 0, none⟩) 1 1)) (w.alloc (.cells (wcells r) 46))) : o.wp Tryz.prog a w K Q := by
 have hb := bldW1 r w
 unfold Oper.wp execOp
 simp only [ho, hs, List.map_toArray, List.map_cons, List.map_nil, Sem.run_bind, Sem.run_pure, hb, Result.andThen_ok]
 exact h
theorem wcells_at {r : W.WantD} {j : Nat} {u : Value} (h : r.cells[j]? = some u) : (wcells r)[j]? = some u := by
 have e : wcells r = r.cells.toArray := rfl
 rw [e]
 simpa using h
theorem GR7_new (Wb w0 : World) (bp : Nat) (V : Value) (L : List UInt8) (x : ByteArray) (y : World) : GR Wb w0 bp V L x (y.alloc (.cells (wcells (wantI L)) 46)) 7 (.slice (some ⟨y.heap.size, 0, none⟩) 1 1) := by
 generalize hr : wantI L = r
 refine ⟨y.heap.size, rfl, ?_, ?_⟩
 ·
  show y.heap.size < (y.alloc _).heap.size
  simp
 ·
  intro j u hj
  rw [hr] at hj
  rw [World.cell?_alloc_new]
  exact wcells_at hj
theorem wantsI_step {n : Nat} {r : List UInt8} (h : (nxE r).1 ≠ []) : wantsI (n + 1) r = wantI (nxE r).1 :: wantsI n (nxE r).2 := by rw [wantsI, if_neg h]
theorem wantsI_stop {n : Nat} {r : List UInt8} (h : (nxE r).1 = []) : wantsI n r = [] := by
 cases n with
 | zero => rfl
 | succ n => rw [wantsI, if_pos h]
theorem wd_empty {l : List UInt8} (h : (wd l).toList.isEmpty = true) : l = [] := by
 have := empty_of h
 exact wd_inj this
theorem wd_nonempty {l : List UInt8} (h : (wd l).toList.isEmpty = false) : l ≠ [] := by
 intro e
 subst e
 have : (wd []).toList.isEmpty = true := by rw [ByteArray.toList_eq]; rfl
 rw [this] at h
 cases h
theorem cnt_of {bp n c : Nat} {a : Option Addr} {w : World} (h : w.cell? ⟨bp, 3, none⟩ = some (.slice a n c)) : cntW bp w = n := by
 unfold cntW
 rw [h]
end Go.Proofs.YtgakmkhbnjofhaaGreatDoor
