import Derived.Test.YtgakmkhbnjofhaaGreatDoorJ28
import Derived.Test.YtgakmkhbnjofhaaGreatDoorJ38
namespace Go.Proofs.YtgakmkhbnjofhaaGreatDoor
open Go.RowKit
set_option linter.unusedVariables false
set_option maxRecDepth 4000 in
set_option maxHeartbeats 16000000 in
theorem specR1 (s : ByteArray) (w : World) (hs : s.size ≤ 1048576) (hW : atL (cutL 32 (atL (cutL 10 s.data.toList) 0)) 0 = wTold) :
  Calls Tryz.prog 10 #[.string s] w fun e w' => RdPost s (specP s) w e w' := by
 have hse : s.toList.isEmpty = false := word_full hW (by decide)
 obtain ⟨i0, hi, hz0, hz1, hz2⟩ := info_parts W.infoR
 obtain ⟨w0, hw0⟩ : ∃ w0, w0 = w.alloc (.cells #[.int .i64 0, .string ⟨#[]⟩, .int .i64 0, .slice none 0 0, .string ⟨#[]⟩, .string ⟨#[]⟩, .int .i64 0] 25) := ⟨_, rfl⟩
 have HW0 : Hid (w0 = w.alloc (.cells #[.int .i64 0, .string ⟨#[]⟩, .int .i64 0, .slice none 0 0, .string ⟨#[]⟩, .string ⟨#[]⟩, .int .i64 0] 25)) := hw0
 have B0 : Hid (Below w.heap.size w w0) := by rw [hw0]; exact bl_alloc (Below.refl _ _) _
 have R0 : Hid (w0.heap[w.heap.size]? = some (.cells #[.int .i64 0, .string ⟨#[]⟩, .int .i64 0, .slice none 0 0, .string ⟨#[]⟩, .string ⟨#[]⟩, .int .i64 0] 25 (0, 0))) := by rw [hw0]; exact heap_alloc_new w _
 have L0 : Hid (w.heap.size < w0.heap.size) := by rw [hw0]; show _ < _; simp
 obtain ⟨l, hl⟩ : ∃ l, s.data.toList = l := ⟨_, rfl⟩
 have hll : l.length ≤ 1048576 := by rw [← hl, ← size_data]; exact hs
 rw [hl] at hW
 have HP0 : Hid (specP s = headS (kindL (atL (cutL 32 (atL (cutL 10 l) 0)) 0)) (cutL 32 (atL (cutL 10 l) 0)) ((((cutL 10 l).drop 1).take ((cutL 10 l).length - 2)).map wantS)) := by rw [← hl]; exact rfl
 obtain ⟨L, hL⟩ : ∃ L, cutL 10 l = L := ⟨_, rfl⟩
 have hLn : L.length ≤ 1048577 := by rw [← hL]; exact Nat.le_trans (cutL_len 10 l) (by omega)
 have hLp : 0 < L.length := by rw [← hL]; exact cutL_pos 10 l
 have hL0 : L[0]? = some (atL L 0) := by rw [← hL]; exact at0
 have hLm : ∀ x ∈ L, x.length ≤ 1048576 := fun x hx => Nat.le_trans (cutL_mem 10 l x (by rw [hL]; exact hx)) hll
 have hl0 : (atL L 0).length ≤ 1048576 := by rw [← hL]; exact Nat.le_trans (atL_len 10 l 0) hll
 rw [hL] at HP0 hW
 obtain ⟨l0, hl0'⟩ : ∃ l0, atL L 0 = l0 := ⟨_, rfl⟩
 rw [hl0'] at hL0 hl0 HP0 hW
 obtain ⟨WS, hWS⟩ : ∃ WS, cutL 32 l0 = WS := ⟨_, rfl⟩
 have hWn : WS.length ≤ 1048577 := by rw [← hWS]; exact Nat.le_trans (cutL_len 32 l0) (by omega)
 have hWp : 0 < WS.length := by rw [← hWS]; exact cutL_pos 32 l0
 have hW0 : WS[0]? = some (atL WS 0) := by rw [← hWS]; exact at0
 have HWl : Hid (∀ j, (wd (atL WS j)).size ≤ 1048576) := fun j => by rw [wd_size, ← hWS]; exact Nat.le_trans (atL_len 32 l0 j) hl0
 rw [hWS] at HP0 hW
 have HLn : Hid (L.length ≤ 1048577) := hLn
 have HWn : Hid (WS.length ≤ 1048577) := hWn
 have HLm : Hid (∀ x ∈ L, x.length ≤ 1048576) := hLm
 have HL : Hid (cutL 10 l = L) := hL
 have HWS : Hid (cutL 32 l0 = WS) := hWS
 have Hl : Hid (s.data.toList = l) := hl
 have Hll : Hid (l.length ≤ 1048576) := hll
 have Hl0 : Hid (l0.length ≤ 1048576) := hl0
 have HL0 : Hid (L[0]? = some l0) := hL0
 have hW0' : WS[0]? = some wTold := by rw [hW0, hW]
 have HW0w : Hid (WS[0]? = some wTold) := hW0'
 have lp : (0 : Int) < (L.length : Int) := by omega
 have wp : (0 : Int) < (WS.length : Int) := by omega
 obtain ⟨x0, hx0⟩ : ∃ x, wd l0 = x := ⟨_, rfl⟩
 have HX0 : Hid (wd l0 = x0) := hx0
 have HX0d : Hid (x0.data.toList = l0) := by rw [← hx0]; exact wd_list l0
 obtain ⟨xb, hxb⟩ : ∃ x, wd (atL WS 1) = x := ⟨_, rfl⟩
 have HXb : Hid (wd (atL WS 1) = xb) := hxb
 obtain ⟨x12, hx2⟩ : ∃ x, wd (atL WS 2) = x := ⟨_, rfl⟩
 have HX12 : Hid (wd (atL WS 2) = x12) := hx2
 have HX12l : Hid (x12.size ≤ 1048576) := by rw [← hx2]; exact HWl.out 2
 obtain ⟨n2, hn2⟩ : ∃ n, numS x12 = n := ⟨_, rfl⟩
 have HN2 : Hid (numS x12 = n2) := hn2
 clear hx2 hn2
 rw [hW] at HP0
 clear hl hll hL hLn hLm hL0 hl0 hl0' hWS hWn hW0 hW hW0' hx0 hxb hw0 hs hLp hWp
 obtain ⟨P, hP⟩ : ∃ P, specP s = P := ⟨_, rfl⟩
 rw [hP] at HP0
 rw [hP]
 clear hP
 go_enter Tryz.func10, Tryz.ntmps10
 go_wp2_with fail
 rw [← HW0.out]
 refine (l7CutE s l Hl.out 10 10 rfl w0 Hll.out L HL.out).mono ?_
 rintro e w1 ⟨⟨g1, cp1, rfl, q1, q2, q3⟩, b1⟩
 have BW1 : Hid (Below w0.heap.size w0 w1) := b1
 have KL : Hid (∀ y, Below w1.heap.size w1 y → ∀ (j : Nat) x, L[j]? = some x → y.cell? ⟨g1, j, none⟩ = some (.string (wd x))) := fun y hb j x hj => (hb.cell (p := ⟨g1, j, none⟩) q2).trans (q3 j x hj)
 have c10 : w1.cell? ⟨g1, 0, none⟩ = some (.string x0) := by rw [q3 0 l0 HL0.out, HX0.out]
 clear q1 q2 q3 b1
 go_wp2_with fail
 refine (l7CutE x0 l0 HX0d.out 32 32 rfl w1 Hl0.out WS HWS.out).mono ?_
 rintro e w2 ⟨⟨g2, cp2, rfl, q1, q2, q3⟩, b2⟩
 have BW2 : Hid (Below w1.heap.size w1 w2) := b2
 have KW : Hid (∀ y, Below w2.heap.size w2 y → ∀ (j : Nat) x, WS[j]? = some x → y.cell? ⟨g2, j, none⟩ = some (.string (wd x))) := fun y hb j x hj => (hb.cell (p := ⟨g2, j, none⟩) q2).trans (q3 j x hj)
 have B02 : Hid (Below w0.heap.size w0 w2) := bl_trans BW1.out b2
 have B22 : Hid (Below w.heap.size w w2) := bl_trans B0.out B02.out
 have R2 : Hid (w2.heap[w.heap.size]? = some (.cells #[.int .i64 0, .string ⟨#[]⟩, .int .i64 0, .slice none 0 0, .string ⟨#[]⟩, .string ⟨#[]⟩, .int .i64 0] 25 (0, 0))) := (B02.out.block _ L0.out).trans R0.out
 have L2 : Hid (w.heap.size < w2.heap.size) := Nat.lt_of_lt_of_le L0.out B02.out.size
 clear q1 q2 q3 b2 c10
 go_wp2_with fail
 refine (l7AtE g2 cp2 WS 1 xb HXb.out w2 (by decide) HWn.out (KW.out w2 (Below.refl _ _))).mono ?_
 rintro e w' ⟨rfl, e2⟩
 rw [e2]
 clear e2
 have k20 : ∀ o : Obj, (w2.alloc o).cell? ⟨g2, 0, none⟩ = some (.string ⟨#[116, 111, 108, 100]⟩) := fun o => KW.out _ (bl_alloc (Below.refl _ _) _) 0 _ HW0w.out
 have HPe0 : Hid (P = ⟨1, xb, n2, (((L.drop 1).take (L.length - 2)).map wantS), { data := #[] }, { data := #[] }, 0⟩) := by
  rw [HP0.out, ← HXb.out, ← HN2.out, ← HX12.out]
  exact rfl
 have HXbl : Hid (xb.size ≤ 1048576) := by rw [← HXb.out]; exact HWl.out 1
 go_wp2_with fail
 refine (l7AtE g2 cp2 WS 2 x12 HX12.out _ (by decide) HWn.out (KW.out _ (bl_alloc (Below.refl _ _) _))).mono ?_
 rintro e w' ⟨rfl, e2⟩
 rw [e2]
 clear e2
 go_wp2_with fail
 refine (l7NumE x12 n2 HN2.out _ HX12l.out).mono ?_
 rintro e w3 ⟨rfl, b3⟩
 have RD3 : Hid (Rda w2 #[.int .i64 1, .string xb, .int .i64 0, .slice none 0 0, .string ⟨#[]⟩, .string ⟨#[]⟩, .int .i64 0] w3) := (Rda.new w2 _ _).below b3
 obtain ⟨wz, hwz⟩ : ∃ wz, wz = w3.setCell ⟨w2.heap.size, 2, none⟩ (.int .i64 n2) := ⟨_, rfl⟩
 have HWz : Hid (wz = w3.setCell ⟨w2.heap.size, 2, none⟩ (.int .i64 n2)) := hwz
 have RDz : Hid (Rda w2 #[.int .i64 1, .string xb, .int .i64 n2, .slice none 0 0, .string ⟨#[]⟩, .string ⟨#[]⟩, .int .i64 0] wz) := by rw [hwz]; exact RD3.out.set 2 (lb rfl) _
 have kc := RD3.out.b
 have kf := RD3.out.c
 have kz := RD3.out.f
 clear b3 hwz k20
 go_wp2_with fail
 rw [← HWz.out]
 clear kc kf kz
 go_loopw [7] (fun i wx => ∃ (j : Nat) (v : Value), i = .int .i64 ((j + 1 : Nat) : Int) ∧ j ≤ L.length - 2 ∧ Hid (Rda w2 #[.int .i64 1, .string xb, .int .i64 n2, v, .string ⟨#[]⟩, .string ⟨#[]⟩, .int .i64 0] wx) ∧ Hid (Rw w2.heap.size (((L.drop 1).take j).map wantS) v wx)) (fun i _ => L.length - (intOf i).toNat)
 case atStart => exact ⟨0, _, rfl, Nat.zero_le _, RDz.out, Rw.nil _ _⟩
 case round =>
  obtain ⟨j, v, rfl, hj, RDw, HRw⟩ := hrel
  have hLn := HLn.out
  have hwl : (((L.drop 1).take j).map wantS).length = j := by rw [List.length_map, List.length_take, List.length_drop]; omega
  obtain ⟨av, cv, rfl⟩ : ∃ a c, v = .slice a j c := by
   obtain ⟨a, c, h⟩ := HRw.out.shape
   rw [hwl] at h
   exact ⟨a, c, h⟩
  by_cases hlt : j + 2 < L.length
  ·
   obtain ⟨ln, hln⟩ : ∃ ln, L[j + 1]? = some ln := ⟨L[j + 1], List.getElem?_eq_getElem (by omega)⟩
   have Hln : Hid (L[j + 1]? = some ln) := hln
   have Hlnl : Hid (ln.length ≤ 1048576) := HLm.out ln (List.mem_of_getElem? hln)
   obtain ⟨xl, hxl⟩ : ∃ x, wd ln = x := ⟨_, rfl⟩
   have Hxl : Hid (wd ln = xl) := hxl
   have Hxld : Hid (xl.data.toList = ln) := by rw [← hxl]; exact wd_list ln
   obtain ⟨VS, hVS⟩ : ∃ VS, cutL 32 ln = VS := ⟨_, rfl⟩
   have HVS : Hid (cutL 32 ln = VS) := hVS
   have HVn : Hid (VS.length ≤ 1048577) := by rw [← hVS]; exact Nat.le_trans (cutL_len 32 ln) (by have := Hlnl.out; omega)
   have HVl : Hid (∀ i, (wd (atL VS i)).size ≤ 1048576) := fun i => by rw [wd_size, ← hVS]; exact Nat.le_trans (atL_len 32 ln i) Hlnl.out
   obtain ⟨y1, hy1⟩ : ∃ x, wd (atL VS 1) = x := ⟨_, rfl⟩
   have HY1 : Hid (wd (atL VS 1) = y1) := hy1
   have HY1l : Hid (y1.size ≤ 1048576) := by rw [← hy1]; exact HVl.out 1
   obtain ⟨y2, hy2⟩ : ∃ x, wd (atL VS 2) = x := ⟨_, rfl⟩
   have HY2 : Hid (wd (atL VS 2) = y2) := hy2
   have HY2l : Hid (y2.size ≤ 1048576) := by rw [← hy2]; exact HVl.out 2
   obtain ⟨y3, hy3⟩ : ∃ x, wd (atL VS 3) = x := ⟨_, rfl⟩
   have HY3 : Hid (wd (atL VS 3) = y3) := hy3
   have HY3l : Hid (y3.size ≤ 1048576) := by rw [← hy3]; exact HVl.out 3
   obtain ⟨y4, hy4⟩ : ∃ x, wd (atL VS 4) = x := ⟨_, rfl⟩
   have HY4 : Hid (wd (atL VS 4) = y4) := hy4
   have HY4l : Hid (y4.size ≤ 1048576) := by rw [← hy4]; exact HVl.out 4
   obtain ⟨y5, hy5⟩ : ∃ x, wd (atL VS 5) = x := ⟨_, rfl⟩
   have HY5 : Hid (wd (atL VS 5) = y5) := hy5
   have HY5l : Hid (y5.size ≤ 1048576) := by rw [← hy5]; exact HVl.out 5
   obtain ⟨y6, hy6⟩ : ∃ x, wd (atL VS 6) = x := ⟨_, rfl⟩
   have HY6 : Hid (wd (atL VS 6) = y6) := hy6
   have HY6l : Hid (y6.size ≤ 1048576) := by rw [← hy6]; exact HVl.out 6
   obtain ⟨y7, hy7⟩ : ∃ x, wd (atL VS 7) = x := ⟨_, rfl⟩
   have HY7 : Hid (wd (atL VS 7) = y7) := hy7
   have HY7l : Hid (y7.size ≤ 1048576) := by rw [← hy7]; exact HVl.out 7
   obtain ⟨m2, hm2⟩ : ∃ n, numS y2 = n := ⟨_, rfl⟩
   have HM2 : Hid (numS y2 = m2) := hm2
   obtain ⟨m4, hm4⟩ : ∃ n, numS y4 = n := ⟨_, rfl⟩
   have HM4 : Hid (numS y4 = m4) := hm4
   obtain ⟨m5, hm5⟩ : ∃ n, numS y5 = n := ⟨_, rfl⟩
   have HM5 : Hid (numS y5 = m5) := hm5
   obtain ⟨m6, hm6⟩ : ∃ n, numS y6 = n := ⟨_, rfl⟩
   have HM6 : Hid (numS y6 = m6) := hm6
   obtain ⟨m7, hm7⟩ : ∃ n, numS y7 = n := ⟨_, rfl⟩
   have HM7 : Hid (numS y7 = m7) := hm7
   have HWant : Hid (wantS ln = ⟨y1, holdR y3, m2, m4, m5, m6, m7⟩) := by
    show _ = _
    unfold wantS
    rw [hVS, hy1, hy2, hy3, hy4, hy5, hy6, hy7, hm2, hm4, hm5, hm6, hm7]
   clear hln hxl hVS hy1 hy2 hy3 hy4 hy5 hy6 hy7 hm2 hm4 hm5 hm6 hm7
   have c1 : wr.cell? ⟨g1, j + 1, none⟩ = some (.string xl) := by rw [KL.out wr (bl_trans BW2.out RDw.out.e) (j + 1) ln Hln.out, Hxl.out]
   have i1 : ((j + 1 : Nat) : Int) + 1 < (L.length : Int) := by omega
   have i2 : (0 : Int) ≤ ((j + 1 : Nat) : Int) := by omega
   have i3 : ((j + 1 : Nat) : Int) < (L.length : Int) := by omega
   go_wp2_with fail
   refine (l7CutE xl ln Hxld.out 32 32 rfl wr Hlnl.out VS HVS.out).mono ?_
   rintro e u5 ⟨⟨g3, cp3, rfl, q1, q2, q3⟩, b5⟩
   have BV5 : Hid (Below wr.heap.size wr u5) := b5
   have KV : Hid (∀ y, Below u5.heap.size u5 y → ∀ (j : Nat) x, VS[j]? = some x → y.cell? ⟨g3, j, none⟩ = some (.string (wd x))) := fun y hb j x hj => (hb.cell (p := ⟨g3, j, none⟩) q2).trans (q3 j x hj)
   have BU5 : Hid (Below u5.heap.size u5 u5) := Below.refl _ _
   clear q1 q2 q3 b5 c1
   go_wp2_with fail
   refine (l7AtE g3 cp3 VS 1 y1 HY1.out u5 (by decide) HVn.out (KV.out _ BU5.out)).mono ?_
   rintro e w' ⟨rfl, e2⟩
   rw [e2]
   clear e2
   go_wp2_with fail
   refine (l7AtE g3 cp3 VS 2 y2 HY2.out u5 (by decide) HVn.out (KV.out _ BU5.out)).mono ?_
   rintro e w' ⟨rfl, e2⟩
   rw [e2]
   clear e2
   go_wp2_with fail
   refine (l7NumE y2 m2 HM2.out u5 HY2l.out).mono ?_
   rintro e u6 ⟨rfl, b6⟩
   have BU6 : Hid (Below u5.heap.size u5 u6) := bl_trans BU5.out b6
   clear b6
   go_wp2_with fail
   refine (l7AtE g3 cp3 VS 3 y3 HY3.out u6 (by decide) HVn.out (KV.out _ BU6.out)).mono ?_
   rintro e w' ⟨rfl, e2⟩
   rw [e2]
   clear e2
   go_wp2_with fail
   refine (l7AtE g3 cp3 VS 4 y4 HY4.out u6 (by decide) HVn.out (KV.out _ BU6.out)).mono ?_
   rintro e w' ⟨rfl, e2⟩
   rw [e2]
   clear e2
   go_wp2_with fail
   refine (l7NumE y4 m4 HM4.out u6 HY4l.out).mono ?_
   rintro e u7 ⟨rfl, b6⟩
   have BU7 : Hid (Below u5.heap.size u5 u7) := bl_trans BU6.out b6
   clear b6
   go_wp2_with fail
   refine (l7AtE g3 cp3 VS 5 y5 HY5.out u7 (by decide) HVn.out (KV.out _ BU7.out)).mono ?_
   rintro e w' ⟨rfl, e2⟩
   rw [e2]
   clear e2
   go_wp2_with fail
   refine (l7NumE y5 m5 HM5.out u7 HY5l.out).mono ?_
   rintro e u8 ⟨rfl, b6⟩
   have BU8 : Hid (Below u5.heap.size u5 u8) := bl_trans BU7.out b6
   clear b6
   go_wp2_with fail
   refine (l7AtE g3 cp3 VS 6 y6 HY6.out u8 (by decide) HVn.out (KV.out _ BU8.out)).mono ?_
   rintro e w' ⟨rfl, e2⟩
   rw [e2]
   clear e2
   go_wp2_with fail
   refine (l7NumE y6 m6 HM6.out u8 HY6l.out).mono ?_
   rintro e u9 ⟨rfl, b6⟩
   have BU9 : Hid (Below u5.heap.size u5 u9) := bl_trans BU8.out b6
   clear b6
   go_wp2_with fail
   refine (l7AtE g3 cp3 VS 7 y7 HY7.out u9 (by decide) HVn.out (KV.out _ BU9.out)).mono ?_
   rintro e w' ⟨rfl, e2⟩
   rw [e2]
   clear e2
   go_wp2_with fail
   refine (l7NumE y7 m7 HM7.out u9 HY7l.out).mono ?_
   rintro e u10 ⟨rfl, b6⟩
   have BU10 : Hid (Below u5.heap.size u5 u10) := bl_trans BU9.out b6
   clear b6
   cases hst : (y3.toList == [42])
   ·
    have HHold : Hid (holdR y3 = y3) := by show _ = _; unfold holdR; rw [if_neg (by rw [hst]; simp)]
    have HWant2 : Hid (wantS ln = ⟨y1, y3, m2, m4, m5, m6, m7⟩) := by rw [HWant.out, HHold.out]; exact rfl
    have RW12 : Hid (Rw w2.heap.size (((L.drop 1).take j).map wantS) (.slice av j cv) ((u10.alloc (.cells #[.string y1, .int .i64 m2, .string y3, .int .i64 m4, .int .i64 m5, .int .i64 m6, .int .i64 m7] 46)).alloc (.cells #[.string y1, .int .i64 m2, .string y3, .int .i64 m4, .int .i64 m5, .int .i64 m6, .int .i64 m7] 46))) := HRw.out.below (bl_alloc (bl_alloc (bl_trans BV5.out BU10.out) _) _)
    have RD12 : Hid (Rda w2 #[.int .i64 1, .string xb, .int .i64 n2, (.slice av j cv), .string ⟨#[]⟩, .string ⟨#[]⟩, .int .i64 0] ((u10.alloc (.cells #[.string y1, .int .i64 m2, .string y3, .int .i64 m4, .int .i64 m5, .int .i64 m6, .int .i64 m7] 46)).alloc (.cells #[.string y1, .int .i64 m2, .string y3, .int .i64 m4, .int .i64 m5, .int .i64 m6, .int .i64 m7] 46))) := RDw.out.below (bl_alloc (bl_alloc (bl_trans BV5.out BU10.out) _) _)
    have kp3 : ∀ o : Obj, (u10.alloc o).cell? ⟨w2.heap.size, 3, none⟩ = some (.slice av j cv) := fun o => (RDw.out.below (bl_alloc (bl_trans BV5.out BU10.out) o)).b 3
    have HB12 : Hid (w2.heap.size + 1 ≤ ((u10.alloc (.cells #[.string y1, .int .i64 m2, .string y3, .int .i64 m4, .int .i64 m5, .int .i64 m6, .int .i64 m7] 46)).alloc (.cells #[.string y1, .int .i64 m2, .string y3, .int .i64 m4, .int .i64 m5, .int .i64 m6, .int .i64 m7] 46)).heap.size) := RD12.out.f
    go_wp2_with (at_builtin; refine wpList_append_own _ rfl _ _ 23 rfl (w2.heap.size + 1) 46 i0 _ 7 72 Tryz.underlying23 hi hz0 hz1 hz2 rfl (by decide) (.slice av j cv) j (W.flatR (((L.drop 1).take j).map wantS)) rfl (by have h9 := RW12.out; unfold Rw at h9; rw [hwl] at h9; exact h9) ⟨_, 0, none⟩ 1 1 (⟨y1, y3, m2, m4, m5, m6, m7⟩ : W.WantD).cells rfl rfl (W.new_cells _ _ (by simp) _ _ _ rfl) (W.cellsR_one _) (by unfold maxLen; omega) (by omega) HB12.out ?_; intro v' u12 ho1 hg1 hn1; have O1 : Rw w2.heap.size ((((L.drop 1).take j).map wantS) ++ [⟨y1, y3, m2, m4, m5, m6, m7⟩]) v' u12 := (by unfold Rw; rw [List.length_append, hwl, W.flatR_snoc]; exact ho1); obtain ⟨a9, c9, hv9⟩ := O1.shape; generalize hlen9 : List.length _ = n9 at hv9; subst hv9; have RDq : Rda w2 #[.int .i64 1, .string xb, .int .i64 n2, (.slice av j cv), .string ⟨#[]⟩, .string ⟨#[]⟩, .int .i64 0] u12 := RD12.out.grow hg1 (fun g hg => by have := RW12.out.ge g hg; omega); have HO1 : Hid (Rw w2.heap.size ((((L.drop 1).take j).map wantS) ++ [⟨y1, y3, m2, m4, m5, m6, m7⟩]) (.slice a9 n9 c9) u12) := O1; have HRq : Hid (Rda w2 #[.int .i64 1, .string xb, .int .i64 n2, (.slice av j cv), .string ⟨#[]⟩, .string ⟨#[]⟩, .int .i64 0] u12) := RDq; have kq3 : u12.cell? ⟨w2.heap.size, 3, none⟩ = some (.slice av j cv) := RDq.b 3; have kqf := RDq.c 3; have kqz := RDq.f; clear ho1 hg1 hn1 O1 RDq hlen9)
    have e9 : (((L.drop 1).take j).map wantS) ++ [⟨y1, y3, m2, m4, m5, m6, m7⟩] = ((L.drop 1).take (j + 1)).map wantS := by
     rw [List.take_add_one, List.getElem?_drop, show 1 + j = j + 1 from by omega, Hln.out, List.map_append, ← HWant2.out]
     rfl
    have HO2 := HO1.out
    rw [e9] at HO2
    exact ⟨⟨j + 1, .slice a9 n9 c9, by go_num, by omega, HRq.out.set 3 (lb rfl) _, HO2.ex (Ex.set (Ex.refl _ _) 3 _) (Nat.le_refl _)⟩, by simp [intOf]; omega⟩
   ·
    have HHold : Hid (holdR y3 = { data := #[] }) := by show _ = _; unfold holdR; rw [if_pos hst]
    have HWant2 : Hid (wantS ln = ⟨y1, { data := #[] }, m2, m4, m5, m6, m7⟩) := by rw [HWant.out, HHold.out]; exact rfl
    have RW12 : Hid (Rw w2.heap.size (((L.drop 1).take j).map wantS) (.slice av j cv) ((u10.alloc (.cells #[.string y1, .int .i64 m2, .string ⟨#[]⟩, .int .i64 m4, .int .i64 m5, .int .i64 m6, .int .i64 m7] 46)).alloc (.cells #[.string y1, .int .i64 m2, .string ⟨#[]⟩, .int .i64 m4, .int .i64 m5, .int .i64 m6, .int .i64 m7] 46))) := HRw.out.below (bl_alloc (bl_alloc (bl_trans BV5.out BU10.out) _) _)
    have RD12 : Hid (Rda w2 #[.int .i64 1, .string xb, .int .i64 n2, (.slice av j cv), .string ⟨#[]⟩, .string ⟨#[]⟩, .int .i64 0] ((u10.alloc (.cells #[.string y1, .int .i64 m2, .string ⟨#[]⟩, .int .i64 m4, .int .i64 m5, .int .i64 m6, .int .i64 m7] 46)).alloc (.cells #[.string y1, .int .i64 m2, .string ⟨#[]⟩, .int .i64 m4, .int .i64 m5, .int .i64 m6, .int .i64 m7] 46))) := RDw.out.below (bl_alloc (bl_alloc (bl_trans BV5.out BU10.out) _) _)
    have kp3 : ∀ o : Obj, (u10.alloc o).cell? ⟨w2.heap.size, 3, none⟩ = some (.slice av j cv) := fun o => (RDw.out.below (bl_alloc (bl_trans BV5.out BU10.out) o)).b 3
    have HB12 : Hid (w2.heap.size + 1 ≤ ((u10.alloc (.cells #[.string y1, .int .i64 m2, .string ⟨#[]⟩, .int .i64 m4, .int .i64 m5, .int .i64 m6, .int .i64 m7] 46)).alloc (.cells #[.string y1, .int .i64 m2, .string ⟨#[]⟩, .int .i64 m4, .int .i64 m5, .int .i64 m6, .int .i64 m7] 46)).heap.size) := RD12.out.f
    go_wp2_with (at_builtin; refine wpList_append_own _ rfl _ _ 23 rfl (w2.heap.size + 1) 46 i0 _ 7 72 Tryz.underlying23 hi hz0 hz1 hz2 rfl (by decide) (.slice av j cv) j (W.flatR (((L.drop 1).take j).map wantS)) rfl (by have h9 := RW12.out; unfold Rw at h9; rw [hwl] at h9; exact h9) ⟨_, 0, none⟩ 1 1 (⟨y1, { data := #[] }, m2, m4, m5, m6, m7⟩ : W.WantD).cells rfl rfl (W.new_cells _ _ (by simp) _ _ _ rfl) (W.cellsR_one _) (by unfold maxLen; omega) (by omega) HB12.out ?_; intro v' u12 ho1 hg1 hn1; have O1 : Rw w2.heap.size ((((L.drop 1).take j).map wantS) ++ [⟨y1, { data := #[] }, m2, m4, m5, m6, m7⟩]) v' u12 := (by unfold Rw; rw [List.length_append, hwl, W.flatR_snoc]; exact ho1); obtain ⟨a9, c9, hv9⟩ := O1.shape; generalize hlen9 : List.length _ = n9 at hv9; subst hv9; have RDq : Rda w2 #[.int .i64 1, .string xb, .int .i64 n2, (.slice av j cv), .string ⟨#[]⟩, .string ⟨#[]⟩, .int .i64 0] u12 := RD12.out.grow hg1 (fun g hg => by have := RW12.out.ge g hg; omega); have HO1 : Hid (Rw w2.heap.size ((((L.drop 1).take j).map wantS) ++ [⟨y1, { data := #[] }, m2, m4, m5, m6, m7⟩]) (.slice a9 n9 c9) u12) := O1; have HRq : Hid (Rda w2 #[.int .i64 1, .string xb, .int .i64 n2, (.slice av j cv), .string ⟨#[]⟩, .string ⟨#[]⟩, .int .i64 0] u12) := RDq; have kq3 : u12.cell? ⟨w2.heap.size, 3, none⟩ = some (.slice av j cv) := RDq.b 3; have kqf := RDq.c 3; have kqz := RDq.f; clear ho1 hg1 hn1 O1 RDq hlen9)
    have e9 : (((L.drop 1).take j).map wantS) ++ [⟨y1, { data := #[] }, m2, m4, m5, m6, m7⟩] = ((L.drop 1).take (j + 1)).map wantS := by
     rw [List.take_add_one, List.getElem?_drop, show 1 + j = j + 1 from by omega, Hln.out, List.map_append, ← HWant2.out]
     rfl
    have HO2 := HO1.out
    rw [e9] at HO2
    exact ⟨⟨j + 1, .slice a9 n9 c9, by go_num, by omega, HRq.out.set 3 (lb rfl) _, HO2.ex (Ex.set (Ex.refl _ _) 3 _) (Nat.le_refl _)⟩, by simp [intOf]; omega⟩
  ·
   have hjn : j = L.length - 2 := by omega
   subst hjn
   obtain ⟨WA, hWA⟩ : ∃ WA, (((L.drop 1).take (L.length - 2)).map wantS) = WA := ⟨_, rfl⟩
   have HPe : Hid (P = ⟨1, xb, n2, WA, { data := #[] }, { data := #[] }, 0⟩) := by rw [HPe0.out, hWA]; exact rfl
   have HSZ : Hid (ParSz ⟨1, xb, n2, WA, { data := #[] }, { data := #[] }, 0⟩) := ⟨HXbl.out, Nat.zero_le _, Nat.zero_le _, by show WA.length ≤ _; rw [← hWA, hwl]; omega⟩
   have HFT : Hid (∀ q ∈ (⟨1, xb, n2, WA, { data := #[] }, { data := #[] }, 0⟩ : ParD).ws, q.fits) := by
    intro q hq
    have hq' : q ∈ WA := hq
    rw [← hWA] at hq'
    obtain ⟨x, hx, rfl⟩ := List.mem_map.1 hq'
    exact wantS_fits (HLm.out x (List.mem_of_mem_drop (List.mem_of_mem_take hx)))
   rw [hWA] at HRw
   obtain ⟨nn, hnn⟩ : ∃ nn, L.length - 2 = nn := ⟨_, rfl⟩
   rw [hnn] at HRw RDw ⊢
   have i1 : ¬ ((nn : Int) + 1 + 1 < (L.length : Int)) := by omega
   have i2 : nn ≤ 1048577 := by omega
   clear hWA hwl hlt hj hnn
   have RD := RDw
   obtain ⟨w4, hw4⟩ : ∃ w4, w4 = wr := ⟨_, rfl⟩
   subst hw4
   have kc := RD.out.b
   have kf := RD.out.c
   have kz := RD.out.f
   have HZ : Hid (ParSz ⟨1, xb, n2, WA, { data := #[] }, { data := #[] }, 0⟩) := HSZ.out
   have HF : Hid (∀ q ∈ (⟨1, xb, n2, WA, { data := #[] }, { data := #[] }, 0⟩ : ParD).ws, q.fits) := HFT.out
   obtain ⟨TX, hTX⟩ : ∃ TX, formT ⟨1, xb, n2, WA, { data := #[] }, { data := #[] }, 0⟩ = TX := ⟨_, rfl⟩
   have HTX : Hid (formT ⟨1, xb, n2, WA, { data := #[] }, { data := #[] }, 0⟩ = TX) := hTX
   cases hq : (TX.toList == s.toList)
   ·
    have HOK : Hid (okP s P = false) := by rw [HPe.out]; exact okP_ne (by rw [hTX]; exact hq)
    clear hTX
    go_wp2_with fail
    refine (specFormG 1 xb n2 WA { data := #[] } { data := #[] } 0 (.slice av nn cv) w4 HZ.out HF.out (sl_ws HRw.out.sl HRw.out.cap)).mono ?_
    rw [HTX.out]
    rintro e w5 ⟨rfl, b5⟩
    have BW5 : Hid (Below w.heap.size w w5) := bl_trans (bl_trans B22.out RD.out.e) b5
    have R5 : Hid (w5.heap[w.heap.size]? = some (.cells #[.int .i64 0, .string ⟨#[]⟩, .int .i64 0, .slice none 0 0, .string ⟨#[]⟩, .string ⟨#[]⟩, .int .i64 0] 25 (0, 0))) := ((bl_trans RD.out.e b5).block _ L2.out).trans R2.out
    have kz5 : w.heap.size < w5.heap.size := Nat.lt_of_lt_of_le L2.out (bl_trans RD.out.e b5).size
    clear b5 kc kf kz
    obtain ⟨F1, F2, F3⟩ := ans_set (w := w) (y := w5) (cs := #[.int .i64 0, .string ⟨#[]⟩, .int .i64 0, .slice none 0 0, .string ⟨#[]⟩, .string ⟨#[]⟩, .int .i64 0]) R5.out BW5.out
    go_wp2_with (refine wpList_store_row (by rfl) 25 _ _ (by rfl) w.heap.size #[.int .i64 0, .string ⟨#[]⟩, .int .i64 0, .slice none 0 0, .string ⟨#[]⟩, .string ⟨#[]⟩, .int .i64 0] (by rfl) (by rfl) 25 #[.int .i64 0, .string ⟨#[]⟩, .int .i64 0, .slice none 0 0, .string ⟨#[]⟩, .string ⟨#[]⟩, .int .i64 0] R5.out (by kernel_rfl) rfl (by simp [Value.oneCell']) ?_)
    have s0 := F1.out 0; have s1 := F1.out 1; have s2 := F1.out 2; have s3 := F1.out 3; have s4 := F1.out 4; have s5 := F1.out 5; have s6 := F1.out 6
    exact bodyPost_ret (v := .tuple #[.agg #[.int .i64 0, .string ⟨#[]⟩, .int .i64 0, .slice none 0 0, .string ⟨#[]⟩, .string ⟨#[]⟩, .int .i64 0], .bool false]) (by simp [results, Tryz.results10, go_sem, s0, s1, s2, s3, s4, s5, s6]) rfl (post_no HOK.out rfl F2.out)
   ·
    have HOK : Hid (okP s P = true) := by rw [HPe.out]; exact okP_yes hse (by rw [hTX]; exact hq)
    clear hTX
    go_wp2_with fail
    refine (specFormG 1 xb n2 WA { data := #[] } { data := #[] } 0 (.slice av nn cv) w4 HZ.out HF.out (sl_ws HRw.out.sl HRw.out.cap)).mono ?_
    rw [HTX.out]
    rintro e w5 ⟨rfl, b5⟩
    have BW5 : Hid (Below w.heap.size w w5) := bl_trans (bl_trans B22.out RD.out.e) b5
    have R5 : Hid (w5.heap[w.heap.size]? = some (.cells #[.int .i64 0, .string ⟨#[]⟩, .int .i64 0, .slice none 0 0, .string ⟨#[]⟩, .string ⟨#[]⟩, .int .i64 0] 25 (0, 0))) := ((bl_trans RD.out.e b5).block _ L2.out).trans R2.out
    have kz5 : w.heap.size < w5.heap.size := Nat.lt_of_lt_of_le L2.out (bl_trans RD.out.e b5).size
    have kd0 := (RD.out.below b5).b 0
    have kd1 := (RD.out.below b5).b 1
    have kd2 := (RD.out.below b5).b 2
    have kd3 := (RD.out.below b5).b 3
    have kd4 := (RD.out.below b5).b 4
    have kd5 := (RD.out.below b5).b 5
    have kd6 := (RD.out.below b5).b 6
    have HS5 : Hid (W.Sl w5 (.slice av nn cv) WA w2.heap.size) := W.Sl.keep (Sl_lowS HRw.out.sl (Nat.le_succ _)) b5
    clear b5 kc kf kz
    obtain ⟨F1, F2, F3⟩ := ans_set (w := w) (y := w5) (cs := #[.int .i64 1, .string xb, .int .i64 n2, .slice av nn cv, .string ⟨#[]⟩, .string ⟨#[]⟩, .int .i64 0]) R5.out BW5.out
    have HS6 : Hid (W.Sl (w5.setRow w.heap.size #[.int .i64 1, .string xb, .int .i64 n2, .slice av nn cv, .string ⟨#[]⟩, .string ⟨#[]⟩, .int .i64 0]) (.slice av nn cv) WA w.heap.size) := by
     refine Sl_lowS (HS5.out.grown F3.out ?_) (Nat.le_of_lt L2.out)
     cases hv : (.slice av nn cv : Value).ownBlock with
     | none => exact Or.inl rfl
     | some g =>
      right
      intro e
      have h2 := (HS5.out.lt g hv).1
      have h3 := L2.out
      have e2 := Option.some.inj e
      omega
    go_wp2_with (refine wpList_store_row (by rfl) 25 _ _ (by rfl) w.heap.size #[.int .i64 1, .string xb, .int .i64 n2, .slice av nn cv, .string ⟨#[]⟩, .string ⟨#[]⟩, .int .i64 0] (by rfl) (by rfl) 25 #[.int .i64 0, .string ⟨#[]⟩, .int .i64 0, .slice none 0 0, .string ⟨#[]⟩, .string ⟨#[]⟩, .int .i64 0] R5.out (by kernel_rfl) rfl (by simp [Value.oneCell']) ?_)
    have s0 := F1.out 0; have s1 := F1.out 1; have s2 := F1.out 2; have s3 := F1.out 3; have s4 := F1.out 4; have s5 := F1.out 5; have s6 := F1.out 6
    exact bodyPost_ret (v := .tuple #[.agg #[.int .i64 1, .string xb, .int .i64 n2, .slice av nn cv, .string ⟨#[]⟩, .string ⟨#[]⟩, .int .i64 0], .bool true]) (by simp [results, Tryz.results10, go_sem, s0, s1, s2, s3, s4, s5, s6]) rfl (post_yes (v := .slice av nn cv) HOK.out (by rw [HPe.out]; rfl) (by rw [HPe.out]; exact HS6.out) F2.out)
set_option maxRecDepth 4000 in
set_option maxHeartbeats 8000000 in
theorem specR2 (s : ByteArray) (w : World) (hs : s.size ≤ 1048576) (hW : atL (cutL 32 (atL (cutL 10 s.data.toList) 0)) 0 = wAsked) :
  Calls Tryz.prog 10 #[.string s] w fun e w' => RdPost s (specP s) w e w' := by
 have hse : s.toList.isEmpty = false := word_full hW (by decide)
 obtain ⟨w0, hw0⟩ : ∃ w0, w0 = w.alloc (.cells #[.int .i64 0, .string ⟨#[]⟩, .int .i64 0, .slice none 0 0, .string ⟨#[]⟩, .string ⟨#[]⟩, .int .i64 0] 25) := ⟨_, rfl⟩
 have HW0 : Hid (w0 = w.alloc (.cells #[.int .i64 0, .string ⟨#[]⟩, .int .i64 0, .slice none 0 0, .string ⟨#[]⟩, .string ⟨#[]⟩, .int .i64 0] 25)) := hw0
 have B0 : Hid (Below w.heap.size w w0) := by rw [hw0]; exact bl_alloc (Below.refl _ _) _
 have R0 : Hid (w0.heap[w.heap.size]? = some (.cells #[.int .i64 0, .string ⟨#[]⟩, .int .i64 0, .slice none 0 0, .string ⟨#[]⟩, .string ⟨#[]⟩, .int .i64 0] 25 (0, 0))) := by rw [hw0]; exact heap_alloc_new w _
 have L0 : Hid (w.heap.size < w0.heap.size) := by rw [hw0]; show _ < _; simp
 obtain ⟨l, hl⟩ : ∃ l, s.data.toList = l := ⟨_, rfl⟩
 have hll : l.length ≤ 1048576 := by rw [← hl, ← size_data]; exact hs
 rw [hl] at hW
 have HP0 : Hid (specP s = headS (kindL (atL (cutL 32 (atL (cutL 10 l) 0)) 0)) (cutL 32 (atL (cutL 10 l) 0)) ((((cutL 10 l).drop 1).take ((cutL 10 l).length - 2)).map wantS)) := by rw [← hl]; exact rfl
 obtain ⟨L, hL⟩ : ∃ L, cutL 10 l = L := ⟨_, rfl⟩
 have hLn : L.length ≤ 1048577 := by rw [← hL]; exact Nat.le_trans (cutL_len 10 l) (by omega)
 have hLp : 0 < L.length := by rw [← hL]; exact cutL_pos 10 l
 have hL0 : L[0]? = some (atL L 0) := by rw [← hL]; exact at0
 have hLm : ∀ x ∈ L, x.length ≤ 1048576 := fun x hx => Nat.le_trans (cutL_mem 10 l x (by rw [hL]; exact hx)) hll
 have hl0 : (atL L 0).length ≤ 1048576 := by rw [← hL]; exact Nat.le_trans (atL_len 10 l 0) hll
 rw [hL] at HP0 hW
 obtain ⟨l0, hl0'⟩ : ∃ l0, atL L 0 = l0 := ⟨_, rfl⟩
 rw [hl0'] at hL0 hl0 HP0 hW
 obtain ⟨WS, hWS⟩ : ∃ WS, cutL 32 l0 = WS := ⟨_, rfl⟩
 have hWn : WS.length ≤ 1048577 := by rw [← hWS]; exact Nat.le_trans (cutL_len 32 l0) (by omega)
 have hWp : 0 < WS.length := by rw [← hWS]; exact cutL_pos 32 l0
 have hW0 : WS[0]? = some (atL WS 0) := by rw [← hWS]; exact at0
 have HWl : Hid (∀ j, (wd (atL WS j)).size ≤ 1048576) := fun j => by rw [wd_size, ← hWS]; exact Nat.le_trans (atL_len 32 l0 j) hl0
 rw [hWS] at HP0 hW
 have HLn : Hid (L.length ≤ 1048577) := hLn
 have HWn : Hid (WS.length ≤ 1048577) := hWn
 have HLm : Hid (∀ x ∈ L, x.length ≤ 1048576) := hLm
 have HL : Hid (cutL 10 l = L) := hL
 have HWS : Hid (cutL 32 l0 = WS) := hWS
 have Hl : Hid (s.data.toList = l) := hl
 have Hll : Hid (l.length ≤ 1048576) := hll
 have Hl0 : Hid (l0.length ≤ 1048576) := hl0
 have HL0 : Hid (L[0]? = some l0) := hL0
 have hW0' : WS[0]? = some wAsked := by rw [hW0, hW]
 have HW0w : Hid (WS[0]? = some wAsked) := hW0'
 have lp : (0 : Int) < (L.length : Int) := by omega
 have wp : (0 : Int) < (WS.length : Int) := by omega
 obtain ⟨x0, hx0⟩ : ∃ x, wd l0 = x := ⟨_, rfl⟩
 have HX0 : Hid (wd l0 = x0) := hx0
 have HX0d : Hid (x0.data.toList = l0) := by rw [← hx0]; exact wd_list l0
 obtain ⟨xb, hxb⟩ : ∃ x, wd (atL WS 1) = x := ⟨_, rfl⟩
 have HXb : Hid (wd (atL WS 1) = xb) := hxb
 obtain ⟨x12, hx2⟩ : ∃ x, wd (atL WS 2) = x := ⟨_, rfl⟩
 have HX12 : Hid (wd (atL WS 2) = x12) := hx2
 have HX12l : Hid (x12.size ≤ 1048576) := by rw [← hx2]; exact HWl.out 2
 obtain ⟨x13, hx3⟩ : ∃ x, wd (atL WS 3) = x := ⟨_, rfl⟩
 have HX13 : Hid (wd (atL WS 3) = x13) := hx3
 have HX13l : Hid (x13.size ≤ 1048576) := by rw [← hx3]; exact HWl.out 3
 obtain ⟨x14, hx4⟩ : ∃ x, wd (atL WS 4) = x := ⟨_, rfl⟩
 have HX14 : Hid (wd (atL WS 4) = x14) := hx4
 have HX14l : Hid (x14.size ≤ 1048576) := by rw [← hx4]; exact HWl.out 4
 obtain ⟨n4, hn4⟩ : ∃ n, numS x14 = n := ⟨_, rfl⟩
 have HN4 : Hid (numS x14 = n4) := hn4
 clear hx2 hx3 hx4 hn4
 rw [hW] at HP0
 clear hl hll hL hLn hLm hL0 hl0 hl0' hWS hWn hW0 hW hW0' hx0 hxb hw0 hs hLp hWp
 obtain ⟨P, hP⟩ : ∃ P, specP s = P := ⟨_, rfl⟩
 rw [hP] at HP0
 rw [hP]
 clear hP
 go_enter Tryz.func10, Tryz.ntmps10
 go_wp2_with fail
 rw [← HW0.out]
 refine (l7CutE s l Hl.out 10 10 rfl w0 Hll.out L HL.out).mono ?_
 rintro e w1 ⟨⟨g1, cp1, rfl, q1, q2, q3⟩, b1⟩
 have BW1 : Hid (Below w0.heap.size w0 w1) := b1
 have KL : Hid (∀ y, Below w1.heap.size w1 y → ∀ (j : Nat) x, L[j]? = some x → y.cell? ⟨g1, j, none⟩ = some (.string (wd x))) := fun y hb j x hj => (hb.cell (p := ⟨g1, j, none⟩) q2).trans (q3 j x hj)
 have c10 : w1.cell? ⟨g1, 0, none⟩ = some (.string x0) := by rw [q3 0 l0 HL0.out, HX0.out]
 clear q1 q2 q3 b1
 go_wp2_with fail
 refine (l7CutE x0 l0 HX0d.out 32 32 rfl w1 Hl0.out WS HWS.out).mono ?_
 rintro e w2 ⟨⟨g2, cp2, rfl, q1, q2, q3⟩, b2⟩
 have BW2 : Hid (Below w1.heap.size w1 w2) := b2
 have KW : Hid (∀ y, Below w2.heap.size w2 y → ∀ (j : Nat) x, WS[j]? = some x → y.cell? ⟨g2, j, none⟩ = some (.string (wd x))) := fun y hb j x hj => (hb.cell (p := ⟨g2, j, none⟩) q2).trans (q3 j x hj)
 have B02 : Hid (Below w0.heap.size w0 w2) := bl_trans BW1.out b2
 have B22 : Hid (Below w.heap.size w w2) := bl_trans B0.out B02.out
 have R2 : Hid (w2.heap[w.heap.size]? = some (.cells #[.int .i64 0, .string ⟨#[]⟩, .int .i64 0, .slice none 0 0, .string ⟨#[]⟩, .string ⟨#[]⟩, .int .i64 0] 25 (0, 0))) := (B02.out.block _ L0.out).trans R0.out
 have L2 : Hid (w.heap.size < w2.heap.size) := Nat.lt_of_lt_of_le L0.out B02.out.size
 clear q1 q2 q3 b2 c10
 go_wp2_with fail
 refine (l7AtE g2 cp2 WS 1 xb HXb.out w2 (by decide) HWn.out (KW.out w2 (Below.refl _ _))).mono ?_
 rintro e w' ⟨rfl, e2⟩
 rw [e2]
 clear e2
 have k20 : ∀ o : Obj, (w2.alloc o).cell? ⟨g2, 0, none⟩ = some (.string ⟨#[97, 115, 107, 101, 100]⟩) := fun o => KW.out _ (bl_alloc (Below.refl _ _) _) 0 _ HW0w.out
 have HPe : Hid (P = ⟨2, xb, 0, [], x12, x13, n4⟩) := by
  rw [HP0.out, ← HXb.out, ← HN4.out, ← HX12.out, ← HX13.out, ← HX14.out]
  exact rfl
 have HSZ : Hid (ParSz ⟨2, xb, 0, [], x12, x13, n4⟩) := ⟨by rw [← HXb.out]; exact HWl.out 1, HX12l.out, HX13l.out, by simp⟩
 have HFT : Hid (∀ q ∈ (⟨2, xb, 0, [], x12, x13, n4⟩ : ParD).ws, q.fits) := fun q hq => by cases hq
 go_wp2_with fail
 refine (l7AtE g2 cp2 WS 2 x12 HX12.out _ (by decide) HWn.out (KW.out _ (bl_alloc (Below.refl _ _) _))).mono ?_
 rintro e w' ⟨rfl, e2⟩
 rw [e2]
 clear e2
 go_wp2_with fail
 refine (l7AtE g2 cp2 WS 3 x13 HX13.out _ (by decide) HWn.out (KW.out _ (bl_alloc (Below.refl _ _) _))).mono ?_
 rintro e w' ⟨rfl, e2⟩
 rw [e2]
 clear e2
 go_wp2_with fail
 refine (l7AtE g2 cp2 WS 4 x14 HX14.out _ (by decide) HWn.out (KW.out _ (bl_alloc (Below.refl _ _) _))).mono ?_
 rintro e w' ⟨rfl, e2⟩
 rw [e2]
 clear e2
 go_wp2_with fail
 refine (l7NumE x14 n4 HN4.out _ HX14l.out).mono ?_
 rintro e w3 ⟨rfl, b3⟩
 have RD3 : Hid (Rda w2 #[.int .i64 2, .string xb, .int .i64 0, .slice none 0 0, .string x12, .string x13, .int .i64 0] w3) := (Rda.new w2 _ _).below b3
 obtain ⟨w4, hw4⟩ : ∃ w4, w4 = w3.setCell ⟨w2.heap.size, 6, none⟩ (.int .i64 n4) := ⟨_, rfl⟩
 have HW4 : Hid (w4 = w3.setCell ⟨w2.heap.size, 6, none⟩ (.int .i64 n4)) := hw4
 have RD : Hid (Rda w2 #[.int .i64 2, .string xb, .int .i64 0, .slice none 0 0, .string x12, .string x13, .int .i64 n4] w4) := by rw [hw4]; exact RD3.out.set 6 (lb rfl) _
 have kc := RD3.out.b
 have kf := RD3.out.c
 have kz := RD3.out.f
 clear b3 hw4 k20
 have HZ : Hid (ParSz ⟨2, xb, 0, [], x12, x13, n4⟩) := HSZ.out
 have HF : Hid (∀ q ∈ (⟨2, xb, 0, [], x12, x13, n4⟩ : ParD).ws, q.fits) := HFT.out
 obtain ⟨TX, hTX⟩ : ∃ TX, formT ⟨2, xb, 0, [], x12, x13, n4⟩ = TX := ⟨_, rfl⟩
 have HTX : Hid (formT ⟨2, xb, 0, [], x12, x13, n4⟩ = TX) := hTX
 cases hq : (TX.toList == s.toList)
 ·
  have HOK : Hid (okP s P = false) := by rw [HPe.out]; exact okP_ne (by rw [hTX]; exact hq)
  clear hTX
  go_wp2_with fail
  rw [← HW4.out]
  refine (specFormG 2 xb 0 [] x12 x13 n4 (.slice none 0 0) w4 HZ.out HF.out (Or.inl ⟨none, 0, rfl, rfl⟩)).mono ?_
  rw [HTX.out]
  rintro e w5 ⟨rfl, b5⟩
  have BW5 : Hid (Below w.heap.size w w5) := bl_trans (bl_trans B22.out RD.out.e) b5
  have R5 : Hid (w5.heap[w.heap.size]? = some (.cells #[.int .i64 0, .string ⟨#[]⟩, .int .i64 0, .slice none 0 0, .string ⟨#[]⟩, .string ⟨#[]⟩, .int .i64 0] 25 (0, 0))) := ((bl_trans RD.out.e b5).block _ L2.out).trans R2.out
  have kz5 : w.heap.size < w5.heap.size := Nat.lt_of_lt_of_le L2.out (bl_trans RD.out.e b5).size
  clear b5 kc kf kz
  obtain ⟨F1, F2, F3⟩ := ans_set (w := w) (y := w5) (cs := #[.int .i64 0, .string ⟨#[]⟩, .int .i64 0, .slice none 0 0, .string ⟨#[]⟩, .string ⟨#[]⟩, .int .i64 0]) R5.out BW5.out
  go_wp2_with (refine wpList_store_row (by rfl) 25 _ _ (by rfl) w.heap.size #[.int .i64 0, .string ⟨#[]⟩, .int .i64 0, .slice none 0 0, .string ⟨#[]⟩, .string ⟨#[]⟩, .int .i64 0] (by rfl) (by rfl) 25 #[.int .i64 0, .string ⟨#[]⟩, .int .i64 0, .slice none 0 0, .string ⟨#[]⟩, .string ⟨#[]⟩, .int .i64 0] R5.out (by kernel_rfl) rfl (by simp [Value.oneCell']) ?_)
  have s0 := F1.out 0; have s1 := F1.out 1; have s2 := F1.out 2; have s3 := F1.out 3; have s4 := F1.out 4; have s5 := F1.out 5; have s6 := F1.out 6
  exact bodyPost_ret (v := .tuple #[.agg #[.int .i64 0, .string ⟨#[]⟩, .int .i64 0, .slice none 0 0, .string ⟨#[]⟩, .string ⟨#[]⟩, .int .i64 0], .bool false]) (by simp [results, Tryz.results10, go_sem, s0, s1, s2, s3, s4, s5, s6]) rfl (post_no HOK.out rfl F2.out)
 ·
  have HOK : Hid (okP s P = true) := by rw [HPe.out]; exact okP_yes hse (by rw [hTX]; exact hq)
  clear hTX
  go_wp2_with fail
  rw [← HW4.out]
  refine (specFormG 2 xb 0 [] x12 x13 n4 (.slice none 0 0) w4 HZ.out HF.out (Or.inl ⟨none, 0, rfl, rfl⟩)).mono ?_
  rw [HTX.out]
  rintro e w5 ⟨rfl, b5⟩
  have BW5 : Hid (Below w.heap.size w w5) := bl_trans (bl_trans B22.out RD.out.e) b5
  have R5 : Hid (w5.heap[w.heap.size]? = some (.cells #[.int .i64 0, .string ⟨#[]⟩, .int .i64 0, .slice none 0 0, .string ⟨#[]⟩, .string ⟨#[]⟩, .int .i64 0] 25 (0, 0))) := ((bl_trans RD.out.e b5).block _ L2.out).trans R2.out
  have kz5 : w.heap.size < w5.heap.size := Nat.lt_of_lt_of_le L2.out (bl_trans RD.out.e b5).size
  have kd0 := (RD.out.below b5).b 0
  have kd1 := (RD.out.below b5).b 1
  have kd2 := (RD.out.below b5).b 2
  have kd3 := (RD.out.below b5).b 3
  have kd4 := (RD.out.below b5).b 4
  have kd5 := (RD.out.below b5).b 5
  have kd6 := (RD.out.below b5).b 6
  have HS5 : Hid (W.Sl w5 (.slice none 0 0) [] w2.heap.size) := W.Sl.keep (Or.inl ⟨rfl, rfl⟩) b5
  clear b5 kc kf kz
  obtain ⟨F1, F2, F3⟩ := ans_set (w := w) (y := w5) (cs := #[.int .i64 2, .string xb, .int .i64 0, .slice none 0 0, .string x12, .string x13, .int .i64 n4]) R5.out BW5.out
  have HS6 : Hid (W.Sl (w5.setRow w.heap.size #[.int .i64 2, .string xb, .int .i64 0, .slice none 0 0, .string x12, .string x13, .int .i64 n4]) (.slice none 0 0) [] w.heap.size) := by
   refine Sl_lowS (HS5.out.grown F3.out ?_) (Nat.le_of_lt L2.out)
   cases hv : (.slice none 0 0 : Value).ownBlock with
   | none => exact Or.inl rfl
   | some g =>
    right
    intro e
    have h2 := (HS5.out.lt g hv).1
    have h3 := L2.out
    have e2 := Option.some.inj e
    omega
  go_wp2_with (refine wpList_store_row (by rfl) 25 _ _ (by rfl) w.heap.size #[.int .i64 2, .string xb, .int .i64 0, .slice none 0 0, .string x12, .string x13, .int .i64 n4] (by rfl) (by rfl) 25 #[.int .i64 0, .string ⟨#[]⟩, .int .i64 0, .slice none 0 0, .string ⟨#[]⟩, .string ⟨#[]⟩, .int .i64 0] R5.out (by kernel_rfl) rfl (by simp [Value.oneCell']) ?_)
  have s0 := F1.out 0; have s1 := F1.out 1; have s2 := F1.out 2; have s3 := F1.out 3; have s4 := F1.out 4; have s5 := F1.out 5; have s6 := F1.out 6
  exact bodyPost_ret (v := .tuple #[.agg #[.int .i64 2, .string xb, .int .i64 0, .slice none 0 0, .string x12, .string x13, .int .i64 n4], .bool true]) (by simp [results, Tryz.results10, go_sem, s0, s1, s2, s3, s4, s5, s6]) rfl (post_yes (v := .slice none 0 0) HOK.out (by rw [HPe.out]; rfl) (by rw [HPe.out]; exact HS6.out) F2.out)
end Go.Proofs.YtgakmkhbnjofhaaGreatDoor
