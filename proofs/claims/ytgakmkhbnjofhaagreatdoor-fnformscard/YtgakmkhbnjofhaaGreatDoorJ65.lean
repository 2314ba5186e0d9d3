import Derived.Test.YtgakmkhbnjofhaaGreatDoorJ46
/- MateRead: the specification, at a word. -/
namespace Go.Proofs.YtgakmkhbnjofhaaGreatDoor
open Go.RowKit
set_option linter.unusedVariables false

set_option maxRecDepth 4000 in
set_option maxHeartbeats 8000000 in
theorem specR6 (s : ByteArray) (w : World) (hs : s.size ≤ 1048576) (hW : atL (cutL 32 (atL (cutL 10 s.data.toList) 0)) 0 = wHere) :
    Calls Tryz.prog 10 #[.string s] w fun e w' => RdPost s (specP s) w e w' := by
  have hse : s.toList.isEmpty = false := word_full hW (by decide)
  obtain ⟨w0, hw0⟩ : ∃ w0, w0 = w.alloc (.cells #[.int .i64 0, .string { data := #[] }, .int .i64 0, .slice none 0 0, .string { data := #[] }, .string { data := #[] }, .int .i64 0] 25) := ⟨_, rfl⟩
  have HW0 : Hid (w0 = w.alloc (.cells #[.int .i64 0, .string { data := #[] }, .int .i64 0, .slice none 0 0, .string { data := #[] }, .string { data := #[] }, .int .i64 0] 25)) := hw0
  have B0 : Hid (Below w.heap.size w w0) := by rw [hw0]; exact bl_alloc (Below.refl _ _) _
  have R0 : Hid (w0.heap[w.heap.size]? = some (.cells #[.int .i64 0, .string { data := #[] }, .int .i64 0, .slice none 0 0, .string { data := #[] }, .string { data := #[] }, .int .i64 0] 25 (0, 0))) := by rw [hw0]; exact heap_alloc_new w _
  have L0 : Hid (w.heap.size < w0.heap.size) := by rw [hw0]; show _ < _; simp
  obtain ⟨l, hl⟩ : ∃ l, s.data.toList = l := ⟨_, rfl⟩
  have hll : l.length ≤ 1048576 := by rw [← hl, ← size_data]; exact hs
  rw [hl] at hW
  have HP0 : Hid (specP s = headS (kindL (atL (cutL 32 (atL (cutL 10 l) 0)) 0)) (cutL 32 (atL (cutL 10 l) 0)) ((((cutL 10 l).drop 1).take ((cutL 10 l).length - 2)).map wantS)) := by rw [← hl]; exact rfl
  obtain ⟨L, hL⟩ : ∃ L, cutL 10 l = L := ⟨_, rfl⟩
  have hLn : L.length ≤ 1048577 := by rw [← hL]; exact Nat.le_trans (cutL_len 10 l) (by omega)
  have hLp : 0 < L.length := by rw [← hL]; exact cutL_pos 10 l
  have hL0 : L[0]? = some (atL L 0) := by rw [← hL]; exact at0
  have hLm : ∀ x ∈ L, x.length ≤ 1048576 := fun x hx => Nat.le_trans (cutL_mem 10 l x (by rw [hL]; exact hx)) hll
  have hl0 : (atL L 0).length ≤ 1048576 := by rw [← hL]; exact Nat.le_trans (atL_len 10 l 0) hll
  rw [hL] at HP0 hW
  obtain ⟨l0, hl0'⟩ : ∃ l0, atL L 0 = l0 := ⟨_, rfl⟩
  rw [hl0'] at hL0 hl0 HP0 hW
  obtain ⟨WS, hWS⟩ : ∃ WS, cutL 32 l0 = WS := ⟨_, rfl⟩
  have hWn : WS.length ≤ 1048577 := by rw [← hWS]; exact Nat.le_trans (cutL_len 32 l0) (by omega)
  have hWp : 0 < WS.length := by rw [← hWS]; exact cutL_pos 32 l0
  have hW0 : WS[0]? = some (atL WS 0) := by rw [← hWS]; exact at0
  have HWl : Hid (∀ j, (wd (atL WS j)).size ≤ 1048576) := fun j => by rw [wd_size, ← hWS]; exact Nat.le_trans (atL_len 32 l0 j) hl0
  rw [hWS] at HP0 hW
  have HLn : Hid (L.length ≤ 1048577) := hLn
  have HWn : Hid (WS.length ≤ 1048577) := hWn
  have HLm : Hid (∀ x ∈ L, x.length ≤ 1048576) := hLm
  have HL : Hid (cutL 10 l = L) := hL
  have HWS : Hid (cutL 32 l0 = WS) := hWS
  have Hl : Hid (s.data.toList = l) := hl
  have Hll : Hid (l.length ≤ 1048576) := hll
  have Hl0 : Hid (l0.length ≤ 1048576) := hl0
  have HL0 : Hid (L[0]? = some l0) := hL0
  have hW0' : WS[0]? = some wHere := by rw [hW0, hW]
  have HW0w : Hid (WS[0]? = some wHere) := hW0'
  have lp : (0 : Int) < (L.length : Int) := by omega
  have wp : (0 : Int) < (WS.length : Int) := by omega
  obtain ⟨x0, hx0⟩ : ∃ x, wd l0 = x := ⟨_, rfl⟩
  have HX0 : Hid (wd l0 = x0) := hx0
  have HX0d : Hid (x0.data.toList = l0) := by rw [← hx0]; exact wd_list l0
  obtain ⟨xb, hxb⟩ : ∃ x, wd (atL WS 1) = x := ⟨_, rfl⟩
  have HXb : Hid (wd (atL WS 1) = xb) := hxb
  obtain ⟨x12, hx2⟩ : ∃ x, wd (atL WS 2) = x := ⟨_, rfl⟩
  have HX12 : Hid (wd (atL WS 2) = x12) := hx2
  have HX12l : Hid (x12.size ≤ 1048576) := by rw [← hx2]; exact HWl.out 2
  obtain ⟨n2, hn2⟩ : ∃ n, numS x12 = n := ⟨_, rfl⟩
  have HN2 : Hid (numS x12 = n2) := hn2
  clear hx2 hn2
  rw [hW] at HP0
  clear hl hll hL hLn hLm hL0 hl0 hl0' hWS hWn hW0 hW hW0' hx0 hxb hw0 hs hLp hWp
  obtain ⟨P, hP⟩ : ∃ P, specP s = P := ⟨_, rfl⟩
  rw [hP] at HP0
  rw [hP]
  clear hP
  go_enter Tryz.func10, Tryz.ntmps10
  go_wp2_with fail
  rw [← HW0.out]
  refine (l7CutE s l Hl.out 10 10 rfl w0 Hll.out L HL.out).mono ?_
  rintro e w1 ⟨⟨g1, cp1, rfl, q1, q2, q3⟩, b1⟩
  have BW1 : Hid (Below w0.heap.size w0 w1) := b1
  have KL : Hid (∀ y, Below w1.heap.size w1 y → ∀ (j : Nat) x, L[j]? = some x → y.cell? ⟨g1, j, none⟩ = some (.string (wd x))) := fun y hb j x hj => (hb.cell (p := ⟨g1, j, none⟩) q2).trans (q3 j x hj)
  have c10 : w1.cell? ⟨g1, 0, none⟩ = some (.string x0) := by rw [q3 0 l0 HL0.out, HX0.out]
  clear q1 q2 q3 b1
  go_wp2_with fail
  refine (l7CutE x0 l0 HX0d.out 32 32 rfl w1 Hl0.out WS HWS.out).mono ?_
  rintro e w2 ⟨⟨g2, cp2, rfl, q1, q2, q3⟩, b2⟩
  have BW2 : Hid (Below w1.heap.size w1 w2) := b2
  have KW : Hid (∀ y, Below w2.heap.size w2 y → ∀ (j : Nat) x, WS[j]? = some x → y.cell? ⟨g2, j, none⟩ = some (.string (wd x))) := fun y hb j x hj => (hb.cell (p := ⟨g2, j, none⟩) q2).trans (q3 j x hj)
  have B02 : Hid (Below w0.heap.size w0 w2) := bl_trans BW1.out b2
  have B22 : Hid (Below w.heap.size w w2) := bl_trans B0.out B02.out
  have R2 : Hid (w2.heap[w.heap.size]? = some (.cells #[.int .i64 0, .string { data := #[] }, .int .i64 0, .slice none 0 0, .string { data := #[] }, .string { data := #[] }, .int .i64 0] 25 (0, 0))) := (B02.out.block _ L0.out).trans R0.out
  have L2 : Hid (w.heap.size < w2.heap.size) := Nat.lt_of_lt_of_le L0.out B02.out.size
  clear q1 q2 q3 b2 c10
  go_wp2_with fail
  refine (l7AtE g2 cp2 WS 1 xb HXb.out w2 (by decide) HWn.out (KW.out w2 (Below.refl _ _))).mono ?_
  rintro e w' ⟨rfl, e2⟩
  rw [e2]
  clear e2
  have k20 : ∀ o : Obj, (w2.alloc o).cell? ⟨g2, 0, none⟩ = some (.string { data := #[104, 101, 114, 101] }) := fun o => KW.out _ (bl_alloc (Below.refl _ _) _) 0 _ HW0w.out
  have HPe : Hid (P = ⟨6, xb, n2, [], { data := #[] }, { data := #[] }, 0⟩) := by
    rw [HP0.out, ← HXb.out, ← HN2.out, ← HX12.out]
    exact rfl
  have HSZ : Hid (ParSz ⟨6, xb, n2, [], { data := #[] }, { data := #[] }, 0⟩) := ⟨by rw [← HXb.out]; exact HWl.out 1, Nat.zero_le _, Nat.zero_le _, by simp⟩
  have HFT : Hid (∀ q ∈ (⟨6, xb, n2, [], { data := #[] }, { data := #[] }, 0⟩ : ParD).ws, q.fits) := fun q hq => by cases hq
  go_wp2_with fail
  refine (l7AtE g2 cp2 WS 2 x12 HX12.out _ (by decide) HWn.out (KW.out _ (bl_alloc (Below.refl _ _) _))).mono ?_
  rintro e w' ⟨rfl, e2⟩
  rw [e2]
  clear e2
  go_wp2_with fail
  refine (l7NumE x12 n2 HN2.out _ HX12l.out).mono ?_
  rintro e w3 ⟨rfl, b3⟩
  have RD3 : Hid (Rda w2 #[.int .i64 6, .string xb, .int .i64 0, .slice none 0 0, .string { data := #[] }, .string { data := #[] }, .int .i64 0] w3) := (Rda.new w2 _ _).below b3
  obtain ⟨w4, hw4⟩ : ∃ w4, w4 = w3.setCell ⟨w2.heap.size, 2, none⟩ (.int .i64 n2) := ⟨_, rfl⟩
  have HW4 : Hid (w4 = w3.setCell ⟨w2.heap.size, 2, none⟩ (.int .i64 n2)) := hw4
  have RD : Hid (Rda w2 #[.int .i64 6, .string xb, .int .i64 n2, .slice none 0 0, .string { data := #[] }, .string { data := #[] }, .int .i64 0] w4) := by rw [hw4]; exact RD3.out.set 2 (Nat.le_of_ble_eq_true rfl) _
  have kc := RD3.out.b
  have kf := RD3.out.c
  have kz := RD3.out.f
  clear b3 hw4 k20
  have HZ : Hid (ParSz ⟨6, xb, n2, [], { data := #[] }, { data := #[] }, 0⟩) := HSZ.out
  have HF : Hid (∀ q ∈ (⟨6, xb, n2, [], { data := #[] }, { data := #[] }, 0⟩ : ParD).ws, q.fits) := HFT.out
  obtain ⟨TX, hTX⟩ : ∃ TX, formT ⟨6, xb, n2, [], { data := #[] }, { data := #[] }, 0⟩ = TX := ⟨_, rfl⟩
  have HTX : Hid (formT ⟨6, xb, n2, [], { data := #[] }, { data := #[] }, 0⟩ = TX) := hTX
  cases hq : (TX.toList == s.toList)
  · have HOK : Hid (okP s P = false) := by rw [HPe.out]; exact okP_ne (by rw [hTX]; exact hq)
    clear hTX
    go_wp2_with fail
    rw [← HW4.out]
    refine (specFormG 6 xb n2 [] { data := #[] } { data := #[] } 0 (.slice none 0 0) w4 HZ.out HF.out (Or.inl ⟨none, 0, rfl, rfl⟩)).mono ?_
    rw [HTX.out]
    rintro e w5 ⟨rfl, b5⟩
    have BW5 : Hid (Below w.heap.size w w5) := bl_trans (bl_trans B22.out RD.out.e) b5
    have R5 : Hid (w5.heap[w.heap.size]? = some (.cells #[.int .i64 0, .string { data := #[] }, .int .i64 0, .slice none 0 0, .string { data := #[] }, .string { data := #[] }, .int .i64 0] 25 (0, 0))) := ((bl_trans RD.out.e b5).block _ L2.out).trans R2.out
    have kz5 : w.heap.size < w5.heap.size := Nat.lt_of_lt_of_le L2.out (bl_trans RD.out.e b5).size
    clear b5 kc kf kz
    obtain ⟨F1, F2, F3⟩ := ans_set (w := w) (y := w5) (cs := #[.int .i64 0, .string { data := #[] }, .int .i64 0, .slice none 0 0, .string { data := #[] }, .string { data := #[] }, .int .i64 0]) R5.out BW5.out
    go_wp2_with (refine wpList_store_row (by rfl) 25 _ _ (by rfl) w.heap.size #[.int .i64 0, .string { data := #[] }, .int .i64 0, .slice none 0 0, .string { data := #[] }, .string { data := #[] }, .int .i64 0] (by rfl) (by rfl) 25 #[.int .i64 0, .string { data := #[] }, .int .i64 0, .slice none 0 0, .string { data := #[] }, .string { data := #[] }, .int .i64 0] R5.out (by kernel_rfl) rfl (by simp [Value.oneCell']) ?_)
    have s0 := F1.out 0; have s1 := F1.out 1; have s2 := F1.out 2; have s3 := F1.out 3; have s4 := F1.out 4; have s5 := F1.out 5; have s6 := F1.out 6
    exact bodyPost_ret (v := .tuple #[.agg #[.int .i64 0, .string { data := #[] }, .int .i64 0, .slice none 0 0, .string { data := #[] }, .string { data := #[] }, .int .i64 0], .bool false]) (by simp [results, Tryz.results10, go_sem, s0, s1, s2, s3, s4, s5, s6]) rfl (post_no HOK.out rfl F2.out)
  · have HOK : Hid (okP s P = true) := by rw [HPe.out]; exact okP_yes hse (by rw [hTX]; exact hq)
    clear hTX
    go_wp2_with fail
    rw [← HW4.out]
    refine (specFormG 6 xb n2 [] { data := #[] } { data := #[] } 0 (.slice none 0 0) w4 HZ.out HF.out (Or.inl ⟨none, 0, rfl, rfl⟩)).mono ?_
    rw [HTX.out]
    rintro e w5 ⟨rfl, b5⟩
    have BW5 : Hid (Below w.heap.size w w5) := bl_trans (bl_trans B22.out RD.out.e) b5
    have R5 : Hid (w5.heap[w.heap.size]? = some (.cells #[.int .i64 0, .string { data := #[] }, .int .i64 0, .slice none 0 0, .string { data := #[] }, .string { data := #[] }, .int .i64 0] 25 (0, 0))) := ((bl_trans RD.out.e b5).block _ L2.out).trans R2.out
    have kz5 : w.heap.size < w5.heap.size := Nat.lt_of_lt_of_le L2.out (bl_trans RD.out.e b5).size
    have kd0 := (RD.out.below b5).b 0
    have kd1 := (RD.out.below b5).b 1
    have kd2 := (RD.out.below b5).b 2
    have kd3 := (RD.out.below b5).b 3
    have kd4 := (RD.out.below b5).b 4
    have kd5 := (RD.out.below b5).b 5
    have kd6 := (RD.out.below b5).b 6
    have HS5 : Hid (W.Sl w5 (.slice none 0 0) [] w2.heap.size) := W.Sl.keep (Or.inl ⟨rfl, rfl⟩) b5
    clear b5 kc kf kz
    obtain ⟨F1, F2, F3⟩ := ans_set (w := w) (y := w5) (cs := #[.int .i64 6, .string xb, .int .i64 n2, .slice none 0 0, .string { data := #[] }, .string { data := #[] }, .int .i64 0]) R5.out BW5.out
    have HS6 : Hid (W.Sl (w5.setRow w.heap.size #[.int .i64 6, .string xb, .int .i64 n2, .slice none 0 0, .string { data := #[] }, .string { data := #[] }, .int .i64 0]) (.slice none 0 0) [] w.heap.size) := by
      refine Sl_lowS (HS5.out.grown F3.out ?_) (Nat.le_of_lt L2.out)
      cases hv : (.slice none 0 0 : Value).ownBlock with
      | none => exact Or.inl rfl
      | some g =>
        right
        intro e
        have h2 := (HS5.out.lt g hv).1
        have h3 := L2.out
        have e2 := Option.some.inj e
        omega
    go_wp2_with (refine wpList_store_row (by rfl) 25 _ _ (by rfl) w.heap.size #[.int .i64 6, .string xb, .int .i64 n2, .slice none 0 0, .string { data := #[] }, .string { data := #[] }, .int .i64 0] (by rfl) (by rfl) 25 #[.int .i64 0, .string { data := #[] }, .int .i64 0, .slice none 0 0, .string { data := #[] }, .string { data := #[] }, .int .i64 0] R5.out (by kernel_rfl) rfl (by simp [Value.oneCell']) ?_)
    have s0 := F1.out 0; have s1 := F1.out 1; have s2 := F1.out 2; have s3 := F1.out 3; have s4 := F1.out 4; have s5 := F1.out 5; have s6 := F1.out 6
    exact bodyPost_ret (v := .tuple #[.agg #[.int .i64 6, .string xb, .int .i64 n2, .slice none 0 0, .string { data := #[] }, .string { data := #[] }, .int .i64 0], .bool true]) (by simp [results, Tryz.results10, go_sem, s0, s1, s2, s3, s4, s5, s6]) rfl (post_yes (v := .slice none 0 0) HOK.out (by rw [HPe.out]; rfl) (by rw [HPe.out]; exact HS6.out) F2.out)
end Go.Proofs.YtgakmkhbnjofhaaGreatDoor
/- MateRead: the specification, at a word. -/
namespace Go.Proofs.YtgakmkhbnjofhaaGreatDoor
open Go.RowKit
set_option linter.unusedVariables false

theorem wd_inj' {a b : List UInt8} (h : wd a = wd b) : a = b := by rw [← wd_list a, h, wd_list]
theorem ne_word {x : ByteArray} {l : List UInt8} (h : ¬ x = wd l) : (x.toList == l) = false := by
  have h1 := ne_list h
  rw [ByteArray.toList_eq (wd l), wd_list] at h1
  exact h1
def wordOf (k : Nat) : List UInt8 := match k with | 1 => wTold | 2 => wAsked | 3 => wGiven | 4 => wBack | 5 => wGot | _ => wHere
theorem kind_none {w : List UInt8} (h : kindL w = 0) : ∀ k : Nat, w ≠ wordOf k := by
  intro k e
  unfold wordOf at e
  split at e
  all_goals (subst e; exact absurd h (by decide))
set_option maxRecDepth 4000 in
set_option maxHeartbeats 8000000 in
theorem specR7 (s : ByteArray) (w : World) (hs : s.size ≤ 1048576) (lw : List UInt8) (hW : atL (cutL 32 (atL (cutL 10 s.data.toList) 0)) 0 = lw) (hk : kindL lw = 0) :
    Calls Tryz.prog 10 #[.string s] w fun e w' => RdPost s (specP s) w e w' := by
  have h7 := kind_none hk
  have HK : Hid (kindL lw = 0) := hk
  clear hk
  obtain ⟨w0, hw0⟩ : ∃ w0, w0 = w.alloc (.cells #[.int .i64 0, .string { data := #[] }, .int .i64 0, .slice none 0 0, .string { data := #[] }, .string { data := #[] }, .int .i64 0] 25) := ⟨_, rfl⟩
  have HW0 : Hid (w0 = w.alloc (.cells #[.int .i64 0, .string { data := #[] }, .int .i64 0, .slice none 0 0, .string { data := #[] }, .string { data := #[] }, .int .i64 0] 25)) := hw0
  have B0 : Hid (Below w.heap.size w w0) := by rw [hw0]; exact bl_alloc (Below.refl _ _) _
  have R0 : Hid (w0.heap[w.heap.size]? = some (.cells #[.int .i64 0, .string { data := #[] }, .int .i64 0, .slice none 0 0, .string { data := #[] }, .string { data := #[] }, .int .i64 0] 25 (0, 0))) := by rw [hw0]; exact heap_alloc_new w _
  have L0 : Hid (w.heap.size < w0.heap.size) := by rw [hw0]; show _ < _; simp
  obtain ⟨l, hl⟩ : ∃ l, s.data.toList = l := ⟨_, rfl⟩
  have hll : l.length ≤ 1048576 := by rw [← hl, ← size_data]; exact hs
  rw [hl] at hW
  have HP0 : Hid (specP s = headS (kindL (atL (cutL 32 (atL (cutL 10 l) 0)) 0)) (cutL 32 (atL (cutL 10 l) 0)) ((((cutL 10 l).drop 1).take ((cutL 10 l).length - 2)).map wantS)) := by rw [← hl]; exact rfl
  obtain ⟨L, hL⟩ : ∃ L, cutL 10 l = L := ⟨_, rfl⟩
  have hLn : L.length ≤ 1048577 := by rw [← hL]; exact Nat.le_trans (cutL_len 10 l) (by omega)
  have hLp : 0 < L.length := by rw [← hL]; exact cutL_pos 10 l
  have hL0 : L[0]? = some (atL L 0) := by rw [← hL]; exact at0
  have hLm : ∀ x ∈ L, x.length ≤ 1048576 := fun x hx => Nat.le_trans (cutL_mem 10 l x (by rw [hL]; exact hx)) hll
  have hl0 : (atL L 0).length ≤ 1048576 := by rw [← hL]; exact Nat.le_trans (atL_len 10 l 0) hll
  rw [hL] at HP0 hW
  obtain ⟨l0, hl0'⟩ : ∃ l0, atL L 0 = l0 := ⟨_, rfl⟩
  rw [hl0'] at hL0 hl0 HP0 hW
  obtain ⟨WS, hWS⟩ : ∃ WS, cutL 32 l0 = WS := ⟨_, rfl⟩
  have hWn : WS.length ≤ 1048577 := by rw [← hWS]; exact Nat.le_trans (cutL_len 32 l0) (by omega)
  have hWp : 0 < WS.length := by rw [← hWS]; exact cutL_pos 32 l0
  have hW0 : WS[0]? = some (atL WS 0) := by rw [← hWS]; exact at0
  have HWl : Hid (∀ j, (wd (atL WS j)).size ≤ 1048576) := fun j => by rw [wd_size, ← hWS]; exact Nat.le_trans (atL_len 32 l0 j) hl0
  rw [hWS] at HP0 hW
  have HLn : Hid (L.length ≤ 1048577) := hLn
  have HWn : Hid (WS.length ≤ 1048577) := hWn
  have HLm : Hid (∀ x ∈ L, x.length ≤ 1048576) := hLm
  have HL : Hid (cutL 10 l = L) := hL
  have HWS : Hid (cutL 32 l0 = WS) := hWS
  have Hl : Hid (s.data.toList = l) := hl
  have Hll : Hid (l.length ≤ 1048576) := hll
  have Hl0 : Hid (l0.length ≤ 1048576) := hl0
  have HL0 : Hid (L[0]? = some l0) := hL0
  have hW0' : WS[0]? = some lw := by rw [hW0, hW]
  have HW0w : Hid (WS[0]? = some lw) := hW0'
  have lp : (0 : Int) < (L.length : Int) := by omega
  have wp : (0 : Int) < (WS.length : Int) := by omega
  obtain ⟨x0, hx0⟩ : ∃ x, wd l0 = x := ⟨_, rfl⟩
  have HX0 : Hid (wd l0 = x0) := hx0
  have HX0d : Hid (x0.data.toList = l0) := by rw [← hx0]; exact wd_list l0
  obtain ⟨xb, hxb⟩ : ∃ x, wd (atL WS 1) = x := ⟨_, rfl⟩
  have HXb : Hid (wd (atL WS 1) = xb) := hxb
  obtain ⟨xw, hxw⟩ : ∃ x, wd lw = x := ⟨_, rfl⟩
  have m1 : (xw.toList == [116, 111, 108, 100]) = false := ne_word (by rw [← hxw]; intro e; exact h7 1 (wd_inj' e))
  have m2 : (xw.toList == [97, 115, 107, 101, 100]) = false := ne_word (by rw [← hxw]; intro e; exact h7 2 (wd_inj' e))
  have m3 : (xw.toList == [103, 105, 118, 101, 110]) = false := ne_word (by rw [← hxw]; intro e; exact h7 3 (wd_inj' e))
  have m4 : (xw.toList == [98, 97, 99, 107]) = false := ne_word (by rw [← hxw]; intro e; exact h7 4 (wd_inj' e))
  have m5 : (xw.toList == [103, 111, 116, 98, 97, 99, 107]) = false := ne_word (by rw [← hxw]; intro e; exact h7 5 (wd_inj' e))
  have m6 : (xw.toList == [104, 101, 114, 101]) = false := ne_word (by rw [← hxw]; intro e; exact h7 6 (wd_inj' e))
  have HXw : Hid (wd lw = xw) := hxw
  clear hxw h7
  rw [hW] at HP0
  clear hl hll hL hLn hLm hL0 hl0 hl0' hWS hWn hW0 hW hW0' hx0 hxb hw0 hs hLp hWp
  obtain ⟨P, hP⟩ : ∃ P, specP s = P := ⟨_, rfl⟩
  rw [hP] at HP0
  rw [hP]
  clear hP
  go_enter Tryz.func10, Tryz.ntmps10
  go_wp2_with fail
  rw [← HW0.out]
  refine (l7CutE s l Hl.out 10 10 rfl w0 Hll.out L HL.out).mono ?_
  rintro e w1 ⟨⟨g1, cp1, rfl, q1, q2, q3⟩, b1⟩
  have BW1 : Hid (Below w0.heap.size w0 w1) := b1
  have KL : Hid (∀ y, Below w1.heap.size w1 y → ∀ (j : Nat) x, L[j]? = some x → y.cell? ⟨g1, j, none⟩ = some (.string (wd x))) := fun y hb j x hj => (hb.cell (p := ⟨g1, j, none⟩) q2).trans (q3 j x hj)
  have c10 : w1.cell? ⟨g1, 0, none⟩ = some (.string x0) := by rw [q3 0 l0 HL0.out, HX0.out]
  clear q1 q2 q3 b1
  go_wp2_with fail
  refine (l7CutE x0 l0 HX0d.out 32 32 rfl w1 Hl0.out WS HWS.out).mono ?_
  rintro e w2 ⟨⟨g2, cp2, rfl, q1, q2, q3⟩, b2⟩
  have BW2 : Hid (Below w1.heap.size w1 w2) := b2
  have KW : Hid (∀ y, Below w2.heap.size w2 y → ∀ (j : Nat) x, WS[j]? = some x → y.cell? ⟨g2, j, none⟩ = some (.string (wd x))) := fun y hb j x hj => (hb.cell (p := ⟨g2, j, none⟩) q2).trans (q3 j x hj)
  have B02 : Hid (Below w0.heap.size w0 w2) := bl_trans BW1.out b2
  have B22 : Hid (Below w.heap.size w w2) := bl_trans B0.out B02.out
  have R2 : Hid (w2.heap[w.heap.size]? = some (.cells #[.int .i64 0, .string { data := #[] }, .int .i64 0, .slice none 0 0, .string { data := #[] }, .string { data := #[] }, .int .i64 0] 25 (0, 0))) := (B02.out.block _ L0.out).trans R0.out
  have L2 : Hid (w.heap.size < w2.heap.size) := Nat.lt_of_lt_of_le L0.out B02.out.size
  clear q1 q2 q3 b2 c10
  go_wp2_with fail
  refine (l7AtE g2 cp2 WS 1 xb HXb.out w2 (by decide) HWn.out (KW.out w2 (Below.refl _ _))).mono ?_
  rintro e w' ⟨rfl, e2⟩
  rw [e2]
  clear e2
  have k20 : ∀ o : Obj, (w2.alloc o).cell? ⟨g2, 0, none⟩ = some (.string xw) := fun o => by rw [KW.out _ (bl_alloc (Below.refl _ _) _) 0 _ HW0w.out, HXw.out]
  have HPe : Hid (P = ⟨0, xb, 0, [], { data := #[] }, { data := #[] }, 0⟩) := by
    rw [HP0.out, HK.out, ← HXb.out]
    exact rfl
  have HSZ : Hid (ParSz ⟨0, xb, 0, [], { data := #[] }, { data := #[] }, 0⟩) := ⟨by rw [← HXb.out]; exact HWl.out 1, Nat.zero_le _, Nat.zero_le _, by simp⟩
  have HFT : Hid (∀ q ∈ (⟨0, xb, 0, [], { data := #[] }, { data := #[] }, 0⟩ : ParD).ws, q.fits) := fun q hq => by cases hq
  obtain ⟨w4, hw4⟩ : ∃ w4, w4 = w2.alloc (.cells #[.int .i64 0, .string xb, .int .i64 0, .slice none 0 0, .string { data := #[] }, .string { data := #[] }, .int .i64 0] 25) := ⟨_, rfl⟩
  have HW4 : Hid (w4 = w2.alloc (.cells #[.int .i64 0, .string xb, .int .i64 0, .slice none 0 0, .string { data := #[] }, .string { data := #[] }, .int .i64 0] 25)) := hw4
  have RD : Hid (Rda w2 #[.int .i64 0, .string xb, .int .i64 0, .slice none 0 0, .string { data := #[] }, .string { data := #[] }, .int .i64 0] w4) := by rw [hw4]; exact Rda.new w2 _ _
  clear hw4
  cases hse : s.toList.isEmpty
  · have HZ : Hid (ParSz ⟨0, xb, 0, [], { data := #[] }, { data := #[] }, 0⟩) := HSZ.out
    have HF : Hid (∀ q ∈ (⟨0, xb, 0, [], { data := #[] }, { data := #[] }, 0⟩ : ParD).ws, q.fits) := HFT.out
    obtain ⟨TX, hTX⟩ : ∃ TX, formT ⟨0, xb, 0, [], { data := #[] }, { data := #[] }, 0⟩ = TX := ⟨_, rfl⟩
    have HTX : Hid (formT ⟨0, xb, 0, [], { data := #[] }, { data := #[] }, 0⟩ = TX) := hTX
    cases hq : (TX.toList == s.toList)
    · have HOK : Hid (okP s P = false) := by rw [HPe.out]; exact okP_ne (by rw [hTX]; exact hq)
      clear hTX
      go_wp2_with fail
      rw [← HW4.out]
      refine (specFormG 0 xb 0 [] { data := #[] } { data := #[] } 0 (.slice none 0 0) w4 HZ.out HF.out (Or.inl ⟨none, 0, rfl, rfl⟩)).mono ?_
      rw [HTX.out]
      rintro e w5 ⟨rfl, b5⟩
      have BW5 : Hid (Below w.heap.size w w5) := bl_trans (bl_trans B22.out RD.out.e) b5
      have R5 : Hid (w5.heap[w.heap.size]? = some (.cells #[.int .i64 0, .string { data := #[] }, .int .i64 0, .slice none 0 0, .string { data := #[] }, .string { data := #[] }, .int .i64 0] 25 (0, 0))) := ((bl_trans RD.out.e b5).block _ L2.out).trans R2.out
      have kz5 : w.heap.size < w5.heap.size := Nat.lt_of_lt_of_le L2.out (bl_trans RD.out.e b5).size
      clear b5 k20
      obtain ⟨F1, F2, F3⟩ := ans_set (w := w) (y := w5) (cs := #[.int .i64 0, .string { data := #[] }, .int .i64 0, .slice none 0 0, .string { data := #[] }, .string { data := #[] }, .int .i64 0]) R5.out BW5.out
      go_wp2_with (refine wpList_store_row (by rfl) 25 _ _ (by rfl) w.heap.size #[.int .i64 0, .string { data := #[] }, .int .i64 0, .slice none 0 0, .string { data := #[] }, .string { data := #[] }, .int .i64 0] (by rfl) (by rfl) 25 #[.int .i64 0, .string { data := #[] }, .int .i64 0, .slice none 0 0, .string { data := #[] }, .string { data := #[] }, .int .i64 0] R5.out (by kernel_rfl) rfl (by simp [Value.oneCell']) ?_)
      have s0 := F1.out 0; have s1 := F1.out 1; have s2 := F1.out 2; have s3 := F1.out 3; have s4 := F1.out 4; have s5 := F1.out 5; have s6 := F1.out 6
      exact bodyPost_ret (v := .tuple #[.agg #[.int .i64 0, .string { data := #[] }, .int .i64 0, .slice none 0 0, .string { data := #[] }, .string { data := #[] }, .int .i64 0], .bool false]) (by simp [results, Tryz.results10, go_sem, s0, s1, s2, s3, s4, s5, s6]) rfl (post_no HOK.out rfl F2.out)
    · have HOK : Hid (okP s P = true) := by rw [HPe.out]; exact okP_yes hse (by rw [hTX]; exact hq)
      clear hTX
      go_wp2_with fail
      rw [← HW4.out]
      refine (specFormG 0 xb 0 [] { data := #[] } { data := #[] } 0 (.slice none 0 0) w4 HZ.out HF.out (Or.inl ⟨none, 0, rfl, rfl⟩)).mono ?_
      rw [HTX.out]
      rintro e w5 ⟨rfl, b5⟩
      have BW5 : Hid (Below w.heap.size w w5) := bl_trans (bl_trans B22.out RD.out.e) b5
      have R5 : Hid (w5.heap[w.heap.size]? = some (.cells #[.int .i64 0, .string { data := #[] }, .int .i64 0, .slice none 0 0, .string { data := #[] }, .string { data := #[] }, .int .i64 0] 25 (0, 0))) := ((bl_trans RD.out.e b5).block _ L2.out).trans R2.out
      have kz5 : w.heap.size < w5.heap.size := Nat.lt_of_lt_of_le L2.out (bl_trans RD.out.e b5).size
      have kd0 := (RD.out.below b5).b 0
      have kd1 := (RD.out.below b5).b 1
      have kd2 := (RD.out.below b5).b 2
      have kd3 := (RD.out.below b5).b 3
      have kd4 := (RD.out.below b5).b 4
      have kd5 := (RD.out.below b5).b 5
      have kd6 := (RD.out.below b5).b 6
      have HS5 : Hid (W.Sl w5 (.slice none 0 0) [] w2.heap.size) := W.Sl.keep (Or.inl ⟨rfl, rfl⟩) b5
      clear b5 k20
      obtain ⟨F1, F2, F3⟩ := ans_set (w := w) (y := w5) (cs := #[.int .i64 0, .string xb, .int .i64 0, .slice none 0 0, .string { data := #[] }, .string { data := #[] }, .int .i64 0]) R5.out BW5.out
      have HS6 : Hid (W.Sl (w5.setRow w.heap.size #[.int .i64 0, .string xb, .int .i64 0, .slice none 0 0, .string { data := #[] }, .string { data := #[] }, .int .i64 0]) (.slice none 0 0) [] w.heap.size) := by
        refine Sl_lowS (HS5.out.grown F3.out ?_) (Nat.le_of_lt L2.out)
        cases hv : (.slice none 0 0 : Value).ownBlock with
        | none => exact Or.inl rfl
        | some g =>
          right
          intro e
          have h2 := (HS5.out.lt g hv).1
          have h3 := L2.out
          have e2 := Option.some.inj e
          omega
      go_wp2_with (refine wpList_store_row (by rfl) 25 _ _ (by rfl) w.heap.size #[.int .i64 0, .string xb, .int .i64 0, .slice none 0 0, .string { data := #[] }, .string { data := #[] }, .int .i64 0] (by rfl) (by rfl) 25 #[.int .i64 0, .string { data := #[] }, .int .i64 0, .slice none 0 0, .string { data := #[] }, .string { data := #[] }, .int .i64 0] R5.out (by kernel_rfl) rfl (by simp [Value.oneCell']) ?_)
      have s0 := F1.out 0; have s1 := F1.out 1; have s2 := F1.out 2; have s3 := F1.out 3; have s4 := F1.out 4; have s5 := F1.out 5; have s6 := F1.out 6
      exact bodyPost_ret (v := .tuple #[.agg #[.int .i64 0, .string xb, .int .i64 0, .slice none 0 0, .string { data := #[] }, .string { data := #[] }, .int .i64 0], .bool true]) (by simp [results, Tryz.results10, go_sem, s0, s1, s2, s3, s4, s5, s6]) rfl (post_yes (v := .slice none 0 0) HOK.out (by rw [HPe.out]; rfl) (by rw [HPe.out]; exact HS6.out) F2.out)
  · have HOK : Hid (okP s P = false) := okP_no hse
    have BW4 : Hid (Below w.heap.size w w4) := bl_trans B22.out RD.out.e
    have R4 : Hid (w4.heap[w.heap.size]? = some (.cells #[.int .i64 0, .string { data := #[] }, .int .i64 0, .slice none 0 0, .string { data := #[] }, .string { data := #[] }, .int .i64 0] 25 (0, 0))) := (RD.out.e.block _ L2.out).trans R2.out
    have kz4 : w.heap.size < w4.heap.size := Nat.lt_of_lt_of_le L2.out RD.out.e.size
    obtain ⟨F1, F2, F3⟩ := ans_set (w := w) (y := w4) (cs := #[.int .i64 0, .string { data := #[] }, .int .i64 0, .slice none 0 0, .string { data := #[] }, .string { data := #[] }, .int .i64 0]) R4.out BW4.out
    go_wp2_with (rw [← HW4.out]; refine wpList_store_row (by rfl) 25 _ _ (by rfl) w.heap.size #[.int .i64 0, .string { data := #[] }, .int .i64 0, .slice none 0 0, .string { data := #[] }, .string { data := #[] }, .int .i64 0] (by rfl) (by rfl) 25 #[.int .i64 0, .string { data := #[] }, .int .i64 0, .slice none 0 0, .string { data := #[] }, .string { data := #[] }, .int .i64 0] R4.out (by kernel_rfl) rfl (by simp [Value.oneCell']) ?_)
    have s0 := F1.out 0; have s1 := F1.out 1; have s2 := F1.out 2; have s3 := F1.out 3; have s4 := F1.out 4; have s5 := F1.out 5; have s6 := F1.out 6
    exact bodyPost_ret (v := .tuple #[.agg #[.int .i64 0, .string { data := #[] }, .int .i64 0, .slice none 0 0, .string { data := #[] }, .string { data := #[] }, .int .i64 0], .bool false]) (by simp [results, Tryz.results10, go_sem, s0, s1, s2, s3, s4, s5, s6]) rfl (post_no HOK.out rfl F2.out)
end Go.Proofs.YtgakmkhbnjofhaaGreatDoor
