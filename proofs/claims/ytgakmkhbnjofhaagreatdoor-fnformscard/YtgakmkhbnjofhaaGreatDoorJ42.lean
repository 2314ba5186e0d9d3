import Derived.Test.YtgakmkhbnjofhaaGreatDoorJ41
namespace Go.Proofs.YtgakmkhbnjofhaaGreatDoor
open Go.RowKit
set_option linter.unusedVariables false
theorem head_cells (k : Int) (l : List UInt8) (ws : List W.WantD) (v : Value) : pcells (headI k l ws) v = pcells (headI k l []) v := by
 unfold headI
 split
 ·
  rfl
 ·
  split
  ·
   rfl
  ·
   split
   ·
    rfl
   ·
    rfl
set_option maxRecDepth 4000 in
set_option maxHeartbeats 16000000 in
theorem readParcel_at {Wb Y : World} {be : Nat} {R : List UInt8} (hEnv : Env Wb) (hWb : Below Wb.heap.size Wb Y) (hbe : Wb.heap.size ≤ be) (hS : Sp be R Y) :
  Calls Tryz.prog 24 #[.iface 57 (.pointer (some ⟨be, 0, none⟩))] Y fun e y' => (∃ v, e = .returned (.agg (pcells (headI (kindL (nxS (nxE R).1).1) (nxE R).1 (wantsI 10 (nxE R).2)) v)) ∧ W.Sl y' v (wantsI 10 (nxE R).2) (Y.heap.size + 1) ∧ ∀ g n c, v = .slice (some ⟨g, 0, none⟩) n c → n ≤ c) ∧ Ex be Y y' := by
 have HEnv : Hid (Env Wb) := hEnv
 have HbE : Hid (Wb.heap.size ≤ be) := hbe
 have HWY : Hid (Below Wb.heap.size Wb Y) := hWb
 have HeY : Hid (be < Y.heap.size) := hS.z
 have hms := meth_spaced
 have hme := meth_ended
 obtain ⟨L0, hL0⟩ : ∃ L, L = (nxE R).1 := ⟨_, rfl⟩
 obtain ⟨R1, hR1⟩ : ∃ L, L = (nxE R).2 := ⟨_, rfl⟩
 have HL0l : Hid (L0.length ≤ 1048576) := by rw [hL0]; exact Nat.le_trans (nxE_len R).1 hS.l
 have HR1l : Hid (R1.length ≤ 1048576) := by rw [hR1]; exact Nat.le_trans (nxE_len R).2 hS.l
 have HN0 : Hid ((nxE R) = (L0, R1)) := by rw [hL0, hR1]; rfl
 rw [← hL0, ← hR1]
 obtain ⟨y0, hy0⟩ : ∃ y0, y0 = Y.alloc (.cells #[.int .i64 0, .string ⟨#[]⟩, .int .i64 0, .slice none 0 0, .string ⟨#[]⟩, .string ⟨#[]⟩, .int .i64 0] 25) := ⟨_, rfl⟩
 have HY0 : Hid (y0 = Y.alloc (.cells #[.int .i64 0, .string ⟨#[]⟩, .int .i64 0, .slice none 0 0, .string ⟨#[]⟩, .string ⟨#[]⟩, .int .i64 0] 25)) := hy0
 have B0 : Hid (Below Y.heap.size Y y0) := by rw [hy0]; exact bl_alloc (Below.refl _ _) _
 have S0 : Hid (Sp be R y0) := hS.keep B0.out
 have W0 : Hid (Below Wb.heap.size Wb y0) := bl_trans hWb B0.out
 have RR0 : Hid (y0.heap[Y.heap.size]? = some (.cells Z7 25 (0, 0))) := by rw [hy0]; exact heap_alloc_new Y _
 have LL0 : Hid (Y.heap.size < y0.heap.size) := by rw [hy0]; show _ < _; simp
 obtain ⟨H, hH⟩ : ∃ H, H = headI (kindL (nxS L0).1) L0 [] := ⟨_, rfl⟩
 have HW : Hid (∀ v, pcells (headI (kindL (nxS L0).1) L0 (wantsI 10 R1)) v = pcells H v) := fun v => by rw [hH]; exact head_cells _ _ _ _
 have HH : Hid (headI (kindL (nxS L0).1) L0 [] = H) := hH.symm
 clear hy0 hEnv hbe hS hWb hL0 hR1 hH
 obtain ⟨k0, b0, se0, wz, h0, c0, t0⟩ := H
 go_enter Tryz.func24, Tryz.ntmps24
 go_wp2_with fail
 rw [← HY0.out]
 refine (endedNext be R y0 S0.out (HEnv.out.keep W0.out)).mono ?_
 rw [HN0.out]
 rintro e y1 ⟨rfl, s1, x1⟩
 have S1 : Hid (Sp be R1 y1) := s1
 have X1 : Hid (Ex be y0 y1) := x1
 have W1 : Hid (Below Wb.heap.size Wb y1) := W0.out.trans (x1.below HbE.out W0.out.size)
 obtain ⟨x0, hx0⟩ : ∃ x, x = wd L0 := ⟨_, rfl⟩
 have HX0 : Hid (x0 = wd L0) := hx0
 rw [show wd (L0, R1).1 = x0 from hx0.symm]
 obtain ⟨y2, hy2⟩ : ∃ y2, y2 = y1.alloc (.cells #[.string x0] 99) := ⟨_, rfl⟩
 have HY2 : Hid (y2 = y1.alloc (.cells #[.string x0] 99)) := hy2
 have A2 : Hid (At Wb y1.heap.size L0 0 y2) := by rw [hy2]; exact at_new hx0 HL0l.out W1.out W1.out.size
 have B2 : Hid (Below y1.heap.size y1 y2) := by rw [hy2]; exact bl_alloc (Below.refl _ _) _
 clear s1 x1 hx0 hy2
 go_wp2_with fail
 rw [← HY2.out]
 refine (readHead_at A2.out HEnv.out HL0l.out).mono ?_
 rw [HH.out]
 rintro e y3 ⟨rfl, x3⟩
 have B3 : Hid (Below y1.heap.size y1 y3) := Ex.mono B2.out x3 (Nat.le_refl _)
 clear x3
 simp only [pcells]
 obtain ⟨y4, hy4⟩ : ∃ y4, y4 = y3.alloc (.cells #[.int .i64 k0, .string b0, .int .i64 se0, .slice none 0 0, .string h0, .string c0, .int .i64 t0] 25) := ⟨_, rfl⟩
 have HY4 : Hid (y4 = y3.alloc (.cells #[.int .i64 k0, .string b0, .int .i64 se0, .slice none 0 0, .string h0, .string c0, .int .i64 t0] 25)) := hy4
 have B4 : Hid (Below y3.heap.size y3 y4) := by rw [hy4]; exact bl_alloc (Below.refl _ _) _
 have P4 : Hid (Pl Y be y3.heap.size #[.int .i64 k0, .string b0, .int .i64 se0, .slice none 0 0, .string h0, .string c0, .int .i64 t0] y4) := by
  have h1 := LL0.out
  have h2 := X1.out.size
  have h3 := B3.out.size
  have h4 := HeY.out
  refine ⟨((Ex.of_below B0.out).trans X1.out).trans (Ex.of_below (bl_trans B3.out B4.out)), fun k => by rw [hy4, World.cell?_alloc_new], fun k => by rw [hy4]; simp [go_sem], by rw [hy4]; simp, ?_, by omega, h4⟩
  rw [(bl_trans B3.out B4.out).block _ (by omega), X1.out.block _ h1 (by omega)]
  exact RR0.out
 have S4 : Hid (Sp be R1 y4) := S1.out.keep (bl_trans B3.out B4.out)
 have W4 : Hid (Below Wb.heap.size Wb y4) := bl_trans W1.out (bl_trans B3.out B4.out)
 obtain ⟨bp, hbp⟩ : ∃ bp, bp = y3.heap.size := ⟨_, rfl⟩
 have HBP : Hid (bp = y3.heap.size) := hbp
 rw [← hbp] at P4
 clear hy4 hbp
 go_wp2_with fail
 rw [← HY4.out, ← HBP.out]
 refine (endedNext be R1 y4 S4.out (HEnv.out.keep W4.out)).mono ?_
 rintro e y5 ⟨rfl, s5, x5⟩
 have P5 : Hid (PS Y be bp (fun v => #[.int .i64 k0, .string b0, .int .i64 se0, v, .string h0, .string c0, .int .i64 t0]) (nxE R1).2 [] (.slice none 0 0) y5) := ⟨P4.out.text x5, s5, Rw.nil _ _⟩
 have W5 : Hid (Below Wb.heap.size Wb y5) := W4.out.trans (x5.below HbE.out W4.out.size)
 clear s5 x5
 go_wp2_with fail
 go_loopw [4] (fun x wx => ∃ (ws : List W.WantD) (r : List UInt8) (V : Value), x = .string (wd (nxE r).1) ∧ ws.length ≤ 10 ∧ Hid (r.length ≤ 1048576) ∧ Hid (wantsI 10 R1 = ws ++ wantsI (10 - ws.length) r) ∧ Hid (PS Y be bp (OP k0 b0 se0 h0 c0 t0) (nxE r).2 ws V wx) ∧ Hid (Below Wb.heap.size Wb wx)) (fun _ wx => 10 - cntW bp wx)
 case atStart => exact ⟨[], R1, _, rfl, by simp, HR1l.out, rfl, P5.out, W5.out⟩
 case round =>
  obtain ⟨ws, r, V, rfl, hl10, HRl, HWs, HPS0, HWx⟩ := hrel
  obtain ⟨aV, cV, rfl⟩ := HPS0.out.r.shape
  obtain ⟨L, hL⟩ : ∃ L, L = (nxE r).1 := ⟨_, rfl⟩
  obtain ⟨r2, hr2⟩ : ∃ r2, r2 = (nxE r).2 := ⟨_, rfl⟩
  obtain ⟨xL, hxL⟩ : ∃ x, x = wd L := ⟨_, rfl⟩
  have HL : Hid (L = (nxE r).1) := hL
  have HR2 : Hid (r2 = (nxE r).2) := hr2
  have HXL : Hid (xL = wd L) := hxL
  rw [← hr2] at HPS0
  rw [← hL, ← hxL]
  clear hL hr2 hxL
  have kb0 : wr.cell? ⟨bp, 0, none⟩ = some (.int .i64 k0) := HPS0.out.p.b 0
  have kb1 : wr.cell? ⟨bp, 1, none⟩ = some (.string b0) := HPS0.out.p.b 1
  have kb2 : wr.cell? ⟨bp, 2, none⟩ = some (.int .i64 se0) := HPS0.out.p.b 2
  have kb3 : wr.cell? ⟨bp, 3, none⟩ = some (.slice aV ws.length cV) := HPS0.out.p.b 3
  have kb4 : wr.cell? ⟨bp, 4, none⟩ = some (.string h0) := HPS0.out.p.b 4
  have kb5 : wr.cell? ⟨bp, 5, none⟩ = some (.string c0) := HPS0.out.p.b 5
  have kb6 : wr.cell? ⟨bp, 6, none⟩ = some (.int .i64 t0) := HPS0.out.p.b 6
  have HPS : Hid (PS Y be bp (OP k0 b0 se0 h0 c0 t0) r2 ws (.slice aV ws.length cV) wr) := HPS0.out
  clear HPS0
  by_cases hgo : xL.toList.isEmpty = false ∧ ws.length < 10
  ·
   obtain ⟨hne, hlt⟩ := hgo
   have i10 : (ws.length : Int) < 10 := by omega
   have HLL : Hid (L.length ≤ 1048576) := by
    have h1 := (nxE_len r).1
    rw [← HL.out] at h1
    exact Nat.le_trans h1 HRl.out
   have HWb : Hid (Below Wb.heap.size Wb wr) := HWx.out
   go_wp2_with fail
   refine wp_region_any (by kernel_rfl) ?_
   refine reg_invY slR 10 8 9 6 shR (GR Wb wr bp (.slice aV ws.length cV) L xL) (fun y => Below wr.heap.size wr y) (PA Y be bp (OP k0 b0 se0 h0 c0 t0) r2 (ws ++ [wantI L]) (.slice aV ws.length cV)) (fun y => ∃ v', PS Y be bp (OP k0 b0 se0 h0 c0 t0) r2 (ws ++ [wantI L]) v' y) (by decide) rfl (bl_drew (Below.refl _ _)) ?doneR ?stepR
   case stepR =>
    intro listed x y i hI hi hlt
    obtain rfl | rfl | rfl | rfl | rfl | rfl | rfl | rfl | rfl | rfl | rfl : i = 0 ∨ i = 1 ∨ i = 2 ∨ i = 3 ∨ i = 4 ∨ i = 5 ∨ i = 6 ∨ i = 7 ∨ i = 8 ∨ i = 9 ∨ i = 10 := by omega
    ·
     have hA : listed.getD 8 false = false := by
      cases hc : listed.getD 8 false with
      | false => rfl
      | true =>
       have q1 := hI.tr 8 1 (by rfl) hc
       have q0 := hI.tr 1 0 (by rfl) q1
       exact (not_open hi q0).elim
     have hn0 : listed.getD 10 false = false := by
      cases hc : listed.getD 10 false with
      | false => rfl
      | true => have q := hI.tr 10 8 (by rfl) hc; rw [hA] at q; cases q
     have hD := hI.d1 hA
     have HI : Hid (_ ∈ Region.ready .any _ listed) := hi
     clear hi
     refine wpOp_plain rfl rfl (wp_cover fun K hK => ?_)
     have i3 : x.tmps[3]?.getD undef = _ := ev_tmp (hI.out 3 (slR_out 3 (by decide)))
     have HJ : Hid (Iy _ _ _ _ _ _ _ _ _ _ _ _ _ _ _) := hI
     clear hI
     go_simp
     exact hK.out _ _ (HJ.out.put HI.out (by omega) (by omega) (by omega) hA hn0 (lb rfl) (slR_inj (by omega)) (rfl) (fun j u _ _ _ h => h) (hD))
    ·
     have hA : listed.getD 8 false = false := by
      cases hc : listed.getD 8 false with
      | false => rfl
      | true =>
       have q1 := hI.tr 8 1 (by rfl) hc
       exact (not_open hi q1).elim
     have hn0 : listed.getD 10 false = false := by
      cases hc : listed.getD 10 false with
      | false => rfl
      | true => have q := hI.tr 10 8 (by rfl) hc; rw [hA] at q; cases q
     have gd0 := hI.good 0 (by omega) (waits_of hi (j := 0) (by rfl)) hn0 (Or.inl hA) (fun hs => by cases hs)
     have hD := hI.d1 hA
     have HI : Hid (_ ∈ Region.ready .any _ listed) := hi
     clear hi
     refine wpOp_plain rfl rfl (wp_cover fun K hK => ?_)
     have e0 : x.tmps[23]?.getD undef = _ := ev_tmp gd0
     have k9 : y.cell? ⟨bp, 3, none⟩ = some (.slice aV ws.length cV) := (HPS.out.below hD).p.b 3
     have HJ : Hid (Iy _ _ _ _ _ _ _ _ _ _ _ _ _ _ _) := hI
     clear hI gd0
     go_simp
     exact hK.out _ _ (HJ.out.put HI.out (by omega) (by omega) (by omega) hA hn0 (lb rfl) (slR_inj (by omega)) (rfl) (fun j u _ _ _ h => h) (hD))
    ·
     have hA : listed.getD 8 false = false := by
      cases hc : listed.getD 8 false with
      | false => rfl
      | true =>
       have q7 := hI.tr 8 7 (by rfl) hc
       have q6 := hI.tr 7 6 (by rfl) q7
       have q5 := hI.tr 6 5 (by rfl) q6
       have q4 := hI.tr 5 4 (by rfl) q5
       have q3 := hI.tr 4 3 (by rfl) q4
       have q2 := hI.tr 3 2 (by rfl) q3
       exact (not_open hi q2).elim
     have hn0 : listed.getD 10 false = false := by
      cases hc : listed.getD 10 false with
      | false => rfl
      | true => have q := hI.tr 10 8 (by rfl) hc; rw [hA] at q; cases q
     have hD := hI.d1 hA
     have HI : Hid (_ ∈ Region.ready .any _ listed) := hi
     clear hi
     refine wpOp_plain rfl rfl (wp_cover fun K hK => ?_)
     have i4 : x.tmps[4]?.getD undef = _ := ev_tmp (hI.out 4 (slR_out 4 (by decide)))
     have HJ : Hid (Iy _ _ _ _ _ _ _ _ _ _ _ _ _ _ _) := hI
     clear hI
     go_simp
     exact hK.out _ _ (HJ.out.put HI.out (by omega) (by omega) (by omega) hA hn0 (lb rfl) (slR_inj (by omega)) (rfl) (fun j u _ _ _ h => h) (hD))
    ·
     have hA : listed.getD 8 false = false := by
      cases hc : listed.getD 8 false with
      | false => rfl
      | true =>
       have q7 := hI.tr 8 7 (by rfl) hc
       have q6 := hI.tr 7 6 (by rfl) q7
       have q5 := hI.tr 6 5 (by rfl) q6
       have q4 := hI.tr 5 4 (by rfl) q5
       have q3 := hI.tr 4 3 (by rfl) q4
       exact (not_open hi q3).elim
     have hn0 : listed.getD 10 false = false := by
      cases hc : listed.getD 10 false with
      | false => rfl
      | true => have q := hI.tr 10 8 (by rfl) hc; rw [hA] at q; cases q
     have gd2 := hI.good 2 (by omega) (waits_of hi (j := 2) (by rfl)) hn0 (Or.inl hA) (fun hs => by cases hs)
     have hD := hI.d1 hA
     have HI : Hid (_ ∈ Region.ready .any _ listed) := hi
     clear hi
     refine wpOp_plain rfl rfl (wp_cover fun K hK => ?_)
     have e2 : x.tmps[25]?.getD undef = _ := ev_tmp gd2
     have HJ : Hid (Iy _ _ _ _ _ _ _ _ _ _ _ _ _ _ _) := hI
     clear hI gd2
     go_simp
     exact hK.out _ _ (HJ.out.put HI.out (by omega) (by omega) (by omega) hA hn0 (lb rfl) (slR_inj (by omega)) (rfl) (fun j u _ _ _ h => h) (hD))
    ·
     have hA : listed.getD 8 false = false := by
      cases hc : listed.getD 8 false with
      | false => rfl
      | true =>
       have q7 := hI.tr 8 7 (by rfl) hc
       have q6 := hI.tr 7 6 (by rfl) q7
       have q5 := hI.tr 6 5 (by rfl) q6
       have q4 := hI.tr 5 4 (by rfl) q5
       exact (not_open hi q4).elim
     have hn0 : listed.getD 10 false = false := by
      cases hc : listed.getD 10 false with
      | false => rfl
      | true => have q := hI.tr 10 8 (by rfl) hc; rw [hA] at q; cases q
     have gd3 := hI.good 3 (by omega) (waits_of hi (j := 3) (by rfl)) hn0 (Or.inl hA) (fun hs => by cases hs)
     have hD := hI.d1 hA
     have HI : Hid (_ ∈ Region.ready .any _ listed) := hi
     clear hi
     refine wpOp_plain rfl rfl (wp_cover fun K hK => ?_)
     have e3 : x.tmps[26]?.getD undef = _ := ev_tmp gd3
     have HJ : Hid (Iy _ _ _ _ _ _ _ _ _ _ _ _ _ _ _) := hI
     clear hI gd3
     go_simp
     have hb : Below y.heap.size y (y.alloc (.cells #[.string xL] 99)) := bl_alloc (Below.refl _ _) _
     exact hK.out _ _ (HJ.out.put HI.out (by omega) (by omega) (by omega) hA hn0 (lb rfl) (slR_inj (by omega)) (⟨y.heap.size, rfl, at_new HXL.out HLL.out (bl_trans HWb.out hD) (Nat.le_trans HWb.out.size hD.size), hD.size⟩) (fun j u _ _ _ h => GR.keep hb j u h) (bl_trans hD hb))
    ·
     have hA : listed.getD 8 false = false := by
      cases hc : listed.getD 8 false with
      | false => rfl
      | true =>
       have q7 := hI.tr 8 7 (by rfl) hc
       have q6 := hI.tr 7 6 (by rfl) q7
       have q5 := hI.tr 6 5 (by rfl) q6
       exact (not_open hi q5).elim
     have hn0 : listed.getD 10 false = false := by
      cases hc : listed.getD 10 false with
      | false => rfl
      | true => have q := hI.tr 10 8 (by rfl) hc; rw [hA] at q; cases q
     have hC : listed.getD 6 false = false := by
      cases hc : listed.getD 6 false with
      | false => rfl
      | true => exact (not_open hi (hI.tr 6 5 (by rfl) hc)).elim
     have gd4 := hI.good 4 (by omega) (waits_of hi (j := 4) (by rfl)) hn0 (Or.inl hA) (fun _ => hC)
     have hD := hI.d1 hA
     have HI : Hid (_ ∈ Region.ready .any _ listed) := hi
     clear hi
     refine wpOp_plain rfl rfl (wp_cover fun K hK => ?_)
     obtain ⟨bs, g1, g2, g3⟩ := gd4
     have e4 : x.tmps[27]?.getD undef = _ := ev_tmp g1
     have G2 : Hid (At Wb bs L 0 y) := g2
     have HJ : Hid (Iy _ _ _ _ _ _ _ _ _ _ _ _ _ _ _) := hI
     clear hI g1 g2
     go_simp
     exact hK.out _ _ (HJ.out.put HI.out (by omega) (by omega) (by omega) hA hn0 (lb rfl) (slR_inj (by omega)) (⟨bs, rfl, G2.out, g3⟩) (fun j u _ _ _ h => h) (hD))
    ·
     have hA : listed.getD 8 false = false := by
      cases hc : listed.getD 8 false with
      | false => rfl
      | true =>
       have q7 := hI.tr 8 7 (by rfl) hc
       have q6 := hI.tr 7 6 (by rfl) q7
       exact (not_open hi q6).elim
     have hn0 : listed.getD 10 false = false := by
      cases hc : listed.getD 10 false with
      | false => rfl
      | true => have q := hI.tr 10 8 (by rfl) hc; rw [hA] at q; cases q
     have hC : listed.getD 6 false = false := by
      cases hc : listed.getD 6 false with
      | false => rfl
      | true => exact (not_open hi hc).elim
     have h7 : listed.getD 7 false = false := by
      cases hc : listed.getD 7 false with
      | false => rfl
      | true => exact (not_open hi (hI.tr 7 6 (by rfl) hc)).elim
     have gd5 := hI.good 5 (by omega) (waits_of hi (j := 5) (by rfl)) hn0 (Or.inl hA) (fun _ => hC)
     have hD := hI.d1 hA
     have HI : Hid (_ ∈ Region.ready .any _ listed) := hi
     clear hi
     refine wpOp_plain rfl rfl (wp_cover fun K hK => ?_)
     obtain ⟨bs, g1, g2, g3⟩ := gd5
     have e5 : x.tmps[28]?.getD undef = _ := ev_tmp g1
     have G2 : Hid (At Wb bs L 0 y) := g2
     have HJ : Hid (Iy _ _ _ _ _ _ _ _ _ _ _ _ _ _ _) := hI
     clear hI g1 g2
     go_simp
     refine (readWant_at G2.out HEnv.out HLL.out).mono ?_
     rintro e y' ⟨rfl, hx⟩
     exact hK.out _ _ (HJ.out.put HI.out (by omega) (by omega) (by omega) hA hn0 (lb rfl) (slR_inj (by omega)) (rfl) (fun j u hj hl hs h => GR.free j u (fun e => hs (by rw [e]; rfl) rfl) (fun e => hs (by rw [e]; rfl) rfl) (fun e => by rw [e, h7] at hl; cases hl) h) (hD.trans (hx.below g3 hD.size)))
    ·
     have hA : listed.getD 8 false = false := by
      cases hc : listed.getD 8 false with
      | false => rfl
      | true =>
       have q7 := hI.tr 8 7 (by rfl) hc
       exact (not_open hi q7).elim
     have hn0 : listed.getD 10 false = false := by
      cases hc : listed.getD 10 false with
      | false => rfl
      | true => have q := hI.tr 10 8 (by rfl) hc; rw [hA] at q; cases q
     have gd6 := hI.good 6 (by omega) (waits_of hi (j := 6) (by rfl)) hn0 (Or.inl hA) (fun hs => by cases hs)
     have hD := hI.d1 hA
     have HI : Hid (_ ∈ Region.ready .any _ listed) := hi
     clear hi
     refine wpOp_plain rfl rfl (wp_cover fun K hK => ?_)
     refine wp_bldW (.tmp 29) rfl (wantI L) gd6 ?_
     have HJ : Hid (Iy _ _ _ _ _ _ _ _ _ _ _ _ _ _ _) := hI
     clear hI gd6
     have hb : Below y.heap.size y (y.alloc (.cells (wcells (wantI L)) 46)) := bl_alloc (Below.refl _ _) _
     exact hK.out _ _ (HJ.out.put HI.out (by omega) (by omega) (by omega) hA hn0 (lb rfl) (slR_inj (by omega)) (GR7_new _ _ _ _ _ _ _) (fun j u _ _ _ h => GR.keep hb j u h) (bl_trans hD hb))
    ·
     have hA : listed.getD 8 false = false := by
      cases hc : listed.getD 8 false with
      | false => rfl
      | true => exact (not_open hi hc).elim
     have hn0 : listed.getD 10 false = false := by
      cases hc : listed.getD 10 false with
      | false => rfl
      | true => have q := hI.tr 10 8 (by rfl) hc; rw [hA] at q; cases q
     have gd1 := hI.good 1 (by omega) (waits_of hi (j := 1) (by rfl)) hn0 (Or.inl hA) (fun hs => by cases hs)
     have gd7 := hI.good 7 (by omega) (waits_of hi (j := 7) (by rfl)) hn0 (Or.inl hA) (fun hs => by cases hs)
     have hD := hI.d1 hA
     have HI : Hid (_ ∈ Region.ready .any _ listed) := hi
     clear hi
     refine wpOp_plain rfl rfl (wp_cover fun K hK => ?_)
     obtain ⟨g, g1, g2, g3⟩ := gd7
     have hP := HPS.out.below hD
     refine wantApp bp (.tmp 24) (.tmp 30) rfl ws (wantI L) (.slice aV ws.length cV) g gd1 hP.r (by have := hP.p.f; omega) g1 g3 (by omega) ?_
     intro v' w' hr hg
     have hge := hP.r.ge
     have hnn := hP.p.n
     have hee := hP.p.e
     exact hK.out _ _ (hI.putA HI.out (by omega) (by omega) hn0 (by omega) (lb rfl) (slR_inj (by omega)) hA (fun u h => h) ⟨hP.p.grow hg (fun g hq => by have := hge g hq; omega), hP.s.grow hg (fun hq => by have := hge be hq.symm; omega), hr⟩)
    ·
     have hn0 : listed.getD 10 false = false := by
      cases hc : listed.getD 10 false with
      | false => rfl
      | true => exact (not_open hi (hI.tr 10 9 (by rfl) hc)).elim
     have HI : Hid (_ ∈ Region.ready .any _ listed) := hi
     clear hi
     refine wpOp_plain rfl rfl (wp_cover fun K hK => ?_)
     have i3 : x.tmps[3]?.getD undef = _ := ev_tmp (hI.out 3 (slR_out 3 (by decide)))
     have HJ : Hid (Iy _ _ _ _ _ _ _ _ _ _ _ _ _ _ _) := hI
     clear hI
     go_simp
     exact hK.out _ _ (HJ.out.putF HI.out (by omega) (by omega) (by omega) hn0 (by omega) (lb rfl) (slR_inj (by omega)) rfl)
    ·
     have hn0 : listed.getD 10 false = false := by
      cases hc : listed.getD 10 false with
      | false => rfl
      | true => exact (not_open hi hc).elim
     have hA1 : listed.getD 8 false = true := waits_of hi (j := 8) (by rfl)
     have gd9 := hI.good 9 (by omega) (waits_of hi (j := 9) (by rfl)) hn0 (Or.inr rfl) (fun hs => by cases hs)
     have hD2 := hI.d2 hA1 hn0
     have HI : Hid (_ ∈ Region.ready .any _ listed) := hi
     clear hi
     refine wpOp_plain rfl rfl (wp_cover fun K hK => ?_)
     obtain ⟨p1, p2, p3⟩ := hD2
     obtain ⟨aa, cc, hv⟩ := p3.shape
     have e8 : x.tmps[31]?.getD undef = _ := ev_tmp hv
     have e9 : x.tmps[32]?.getD undef = _ := ev_tmp gd9
     rw [show x.tmps.getD (slR 8) undef = _ from hv] at p3
     have k1 : y.cell? ⟨bp, 3, none⟩ = some (.slice aV ws.length cV) := p1.b 3
     have k2 : y.frozen? ⟨bp, 3, none⟩ = false := p1.c 3
     have HE2 : Hid (∃ v', PS Y be bp (OP k0 b0 se0 h0 c0 t0) r2 (ws ++ [wantI L]) v' (y.setCell ⟨bp, 3, none⟩ (.slice aa (ws ++ [wantI L]).length cc))) := ⟨_, p1.set 3 (lb rfl) _, (p2.ex (Ex.set (Ex.refl bp y) 3 _) (by have := p1.n; have := p1.e; omega)), p3.ex (Ex.set (Ex.refl bp y) 3 _) (Nat.le_refl _)⟩
     generalize hlen : (ws ++ [wantI L]).length = nn at *
     have HJ : Hid (Iy _ _ _ _ _ _ _ _ _ _ _ _ _ _ _) := hI
     clear hI hv gd9 p1 p2 p3
     go_simp
     exact hK.out _ _ (HJ.out.last (u := undef) HI.out (by omega) hA1 HE2.out)
   case doneR =>
    intro a y df sz out hE
    obtain ⟨l, hl, ha⟩ := frameP_of (lo := 23) (n := 10) df sz (fun j hj => out j (fun i hi => slR_far j hj i hi)) (lb rfl)
    subst ha
    obtain ⟨q0, l0, rfl, hl0⟩ := lenP_succ hl
    obtain ⟨q1, l1, rfl, hl1⟩ := lenP_succ hl0
    obtain ⟨q2, l2, rfl, hl2⟩ := lenP_succ hl1
    obtain ⟨q3, l3, rfl, hl3⟩ := lenP_succ hl2
    obtain ⟨q4, l4, rfl, hl4⟩ := lenP_succ hl3
    obtain ⟨q5, l5, rfl, hl5⟩ := lenP_succ hl4
    obtain ⟨q6, l6, rfl, hl6⟩ := lenP_succ hl5
    obtain ⟨q7, l7, rfl, hl7⟩ := lenP_succ hl6
    obtain ⟨q8, l8, rfl, hl8⟩ := lenP_succ hl7
    obtain ⟨q9, l9, rfl, hl9⟩ := lenP_succ hl8
    obtain rfl := lenP_zero hl9
    simp only [List.take_succ_cons, List.take_zero, List.drop_succ_cons, List.drop_zero, List.cons_append, List.nil_append, Nat.reduceAdd]
    obtain ⟨v', hP'⟩ := hE
    have HP' : Hid (PS Y be bp (OP k0 b0 se0 h0 c0 t0) r2 (ws ++ [wantI L]) v' y) := hP'
    clear hP' df sz out
    have WY : Hid (Below Wb.heap.size Wb y) := HWY.out.trans (HP'.out.p.x.below HbE.out HWY.out.size)
    go_wp2_with fail
    refine (endedNext be r2 y HP'.out.s (HEnv.out.keep WY.out)).mono ?_
    rintro e y' ⟨rfl, s', x'⟩
    have PN : Hid (PS Y be bp (OP k0 b0 se0 h0 c0 t0) (nxE r2).2 (ws ++ [wantI L]) v' y') := ⟨HP'.out.p.text x', s', HP'.out.r.ex x' (by have := HP'.out.p.n; have := HP'.out.p.e; omega)⟩
    have WN : Hid (Below Wb.heap.size Wb y') := WY.out.trans (x'.below HbE.out WY.out.size)
    clear s' x'
    go_wp2_with fail
    have hLne : (nxE r).1 ≠ [] := by rw [← HL.out]; exact wd_nonempty (by rw [← HXL.out]; exact hne)
    have hc1 : cntW bp wr = ws.length := cnt_of kb3
    have hc2 : cntW bp y' = ws.length + 1 := by
     obtain ⟨a2, c2, hv2⟩ := PN.out.r.shape
     have h3 : y'.cell? ⟨bp, 3, none⟩ = some v' := PN.out.p.b 3
     rw [hv2] at h3
     rw [cnt_of h3, List.length_append]
     rfl
    refine ⟨⟨ws ++ [wantI L], r2, v', rfl, by simp; omega, HPS.out.s.l, ?_, PN.out, WN.out⟩, by rw [hc1, hc2]; omega⟩
    show wantsI 10 R1 = _
    rw [HWs.out, show 10 - ws.length = (10 - (ws ++ [wantI L]).length) + 1 from by simp; omega, wantsI_step hLne, ← HL.out, ← HR2.out]
    simp
  ·
   have HEnd : Hid (wantsI (10 - ws.length) r = []) := by
    by_cases h1 : xL.toList.isEmpty = false
    ·
     have h2 : 10 - ws.length = 0 := by have h9 : ¬ ws.length < 10 := fun h => hgo ⟨h1, h⟩; omega
     show _ = _
     rw [h2]
     rfl
    ·
     refine wantsI_stop ?_
     rw [← HL.out]
     exact wd_empty (by rw [← HXL.out]; simpa using h1)
   obtain ⟨F1, F2, F3⟩ := HPS.out.p.fin #[.int .i64 k0, .string b0, .int .i64 se0, .slice aV ws.length cV, .string h0, .string c0, .int .i64 t0]
   have HR : Hid (wr.heap[Y.heap.size]? = some (.cells Z7 25 (0, 0))) := HPS.out.p.r
   have kz : Y.heap.size < wr.heap.size := HPS.out.p.lt
   have HSl : Hid (W.Sl (wr.setRow Y.heap.size #[.int .i64 k0, .string b0, .int .i64 se0, .slice aV ws.length cV, .string h0, .string c0, .int .i64 t0]) (.slice aV ws.length cV) (wantsI 10 R1) (Y.heap.size + 1)) := by
    have h1 := HWs.out
    rw [HEnd.out, List.append_nil] at h1
    rw [h1]
    refine Sl_low (HPS.out.r.sl.grown F3.out ?_) (by have := HPS.out.p.n; omega)
    cases hv : (Value.slice aV ws.length cV).ownBlock with
    | none => exact Or.inl rfl
    | some k =>
     right
     intro e
     have h2 := HPS.out.r.ge k hv
     have h3 := HPS.out.p.n
     have e2 := Option.some.inj e
     omega
   have HCap : Hid (∀ g n c, (Value.slice aV ws.length cV) = .slice (some ⟨g, 0, none⟩) n c → n ≤ c) := HPS.out.r.cap
   by_cases h1 : xL.toList.isEmpty = true
   ·
    go_wp2_with (refine wpList_store_row (by rfl) 25 _ _ (by rfl) Y.heap.size #[.int .i64 k0, .string b0, .int .i64 se0, .slice aV ws.length cV, .string h0, .string c0, .int .i64 t0] (by rfl) (by rfl) 25 Z7 HR.out (by kernel_rfl) rfl (by simp [Value.oneCell']) ?_)
    have s0 := F1.out 0; have s1 := F1.out 1; have s2 := F1.out 2; have s3 := F1.out 3; have s4 := F1.out 4; have s5 := F1.out 5; have s6 := F1.out 6
    exact bodyPost_ret (v := .agg #[.int .i64 k0, .string b0, .int .i64 se0, .slice aV ws.length cV, .string h0, .string c0, .int .i64 t0]) (by simp [results, Tryz.results24, go_sem, s0, s1, s2, s3, s4, s5, s6]) rfl ⟨⟨_, by rw [HW.out]; rfl, HSl.out, HCap.out⟩, F2.out⟩
   ·
    have h2 : xL.toList.isEmpty = false := by simpa using h1
    have h3 : ¬ ((ws.length : Int) < 10) := by have h9 : ¬ ws.length < 10 := fun h => hgo ⟨h2, h⟩; omega
    clear h1 hgo
    go_wp2_with (refine wpList_store_row (by rfl) 25 _ _ (by rfl) Y.heap.size #[.int .i64 k0, .string b0, .int .i64 se0, .slice aV ws.length cV, .string h0, .string c0, .int .i64 t0] (by rfl) (by rfl) 25 Z7 HR.out (by kernel_rfl) rfl (by simp [Value.oneCell']) ?_)
    have s0 := F1.out 0; have s1 := F1.out 1; have s2 := F1.out 2; have s3 := F1.out 3; have s4 := F1.out 4; have s5 := F1.out 5; have s6 := F1.out 6
    exact bodyPost_ret (v := .agg #[.int .i64 k0, .string b0, .int .i64 se0, .slice aV ws.length cV, .string h0, .string c0, .int .i64 t0]) (by simp [results, Tryz.results24, go_sem, s0, s1, s2, s3, s4, s5, s6]) rfl ⟨⟨_, by rw [HW.out]; rfl, HSl.out, HCap.out⟩, F2.out⟩
end Go.Proofs.YtgakmkhbnjofhaaGreatDoor
