import Derived.Test.YtgehmpnlfnlboaaGreatDoorJ20
/- change at a book that is ok: a tick. -/
namespace Go.Proofs.YtgehmpnlfnlboaaGreatDoor
open Go.RowKit Go.Maps Go.WideMaps
set_option linter.unusedVariables false

theorem srt_raw {ps : List P.PlaceD} (h : P.AscN ps ps.length) : Pr.Srt (ps.map Pr.raw) := by
  refine Pr.srt_asc ?_
  intro j q r hj hq hr
  rw [List.getElem?_map] at hq hr
  obtain ⟨p, hp, rfl⟩ := Option.map_eq_some_iff.1 hq
  obtain ⟨p', hp', rfl⟩ := Option.map_eq_some_iff.1 hr
  exact h j p p' (by rw [List.length_map] at hj; exact hj) hp hp'

set_option maxRecDepth 4000 in
set_option maxHeartbeats 4000000 in
theorem change_over (hK1 : G.KeysSay) (hS1 : G.SortedSay) (hK2 : Pr.KeysSay) (hS2 : Pr.SortedSay) (t : Int) (gs : List G.GrantD) (ps : List P.PlaceD) (b1 b2 : Nat) (w : World) (f : Value) (hA : P.LandAt w gs ps b1 b2) (hF : P.Fit gs ps) (hok : P.LandSay t gs ps) (ht : 2000000 ≤ t) (ev : Value) (hev : w.cell? ⟨1, 0, none⟩ = some ev) (hev0 : 1 < w.heap.size) (hv : ∃ te pe, ev = .iface te pe) (hf : f = .func (.func 21) #[] #[]) :
    Calls Tryz.prog 20 #[.agg #[.int .i64 t, .slice (some ⟨b1, 0, none⟩) gs.length gs.length, .slice (some ⟨b2, 0, none⟩) ps.length ps.length], f] w fun e w' => (∃ qs s1 s2, e = .returned (.tuple #[.agg #[.int .i64 t, s1, s2], .slice none 0 0, ev]) ∧ P.Like qs ps ∧ LdO w' w.heap.size gs qs s1 s2) ∧ Below w.heap.size w w' := by
  subst hf
  have hinfo : (Tryz.prog.info? 30).map (·.size) = some 3 := by kernel_rfl
  obtain ⟨W1, hW1⟩ : ∃ W1, W1 = (w.alloc (.cells #[.int .i64 t, .slice (some ⟨b1, 0, none⟩) gs.length gs.length, .slice (some ⟨b2, 0, none⟩) ps.length ps.length] 30)).alloc (.cells #[.int .i64 0, .slice none 0 0, .slice none 0 0] 30) := ⟨_, rfl⟩
  have HW1 : Hid (W1 = (w.alloc (.cells #[.int .i64 t, .slice (some ⟨b1, 0, none⟩) gs.length gs.length, .slice (some ⟨b2, 0, none⟩) ps.length ps.length] 30)).alloc (.cells #[.int .i64 0, .slice none 0 0, .slice none 0 0] 30)) := hW1
  have B1 : Hid (Below w.heap.size w W1) := by rw [hW1]; exact bl_alloc (bl_alloc (Below.refl _ _) _) _
  have HA : Hid (P.LandAt w gs ps b1 b2) := hA
  have HF : Hid (P.Fit gs ps) := hF
  have HK : Hid (P.LandSay t gs ps) := hok
  have ht0 : 0 ≤ t := by
    have h := hok.1
    simp [P.timeB, inB] at h
    omega
  have OK : Hid (Calls Tryz.prog 41 #[.agg #[.int .i64 t, .slice (some ⟨b1, 0, none⟩) gs.length gs.length, .slice (some ⟨b2, 0, none⟩) ps.length ps.length]] W1 fun e w' => e = .returned (.bool true) ∧ Below W1.heap.size W1 w') := by
    refine (P.implLandOk t gs ps b1 b2 W1 (hA.keep B1.out) hF).mono ?_
    rintro e w' ⟨⟨q, rfl, hq⟩, hb⟩
    exact ⟨by rw [hq.2 hok], hb⟩
  have hz1 : W1.heap.size = w.heap.size + 2 := by rw [hW1]; simp
  have Z1 : Hid (W1.heap.size = w.heap.size + 2) := hz1
  have T1 : Hid (∀ y, Below W1.heap.size W1 y → y.heap[w.heap.size + 1]? = some (.cells #[.int .i64 0, .slice none 0 0, .slice none 0 0] 30 (0, 0))) := by
    intro y hy
    refine (hy.block _ (by omega)).trans ?_
    rw [hW1]
    have h := heap_alloc_newL (w.alloc (.cells #[.int .i64 t, .slice (some ⟨b1, 0, none⟩) gs.length gs.length, .slice (some ⟨b2, 0, none⟩) ps.length ps.length] 30)) (.cells #[.int .i64 0, .slice none 0 0, .slice none 0 0] 30)
    rw [World.size_alloc] at h
    exact h
  have K0 : Hid (∀ y, Below W1.heap.size W1 y → ∀ j, y.cell? ⟨w.heap.size, j, none⟩ = (#[.int .i64 t, .slice (some ⟨b1, 0, none⟩) gs.length gs.length, .slice (some ⟨b2, 0, none⟩) ps.length ps.length] : Array Value)[j]?) := by
    intro y hy j
    rw [hy.cell (p := ⟨w.heap.size, j, none⟩) (by show w.heap.size < _; omega), hW1]
    simp [go_sem]
  have BO : Hid (∀ y, Below W1.heap.size W1 y → Calls Tryz.prog 42 #[.agg #[.int .i64 t, .slice (some ⟨b1, 0, none⟩) gs.length gs.length, .slice (some ⟨b2, 0, none⟩) ps.length ps.length]] y fun e w' => (∃ d m1 m2, e = .returned (.pointer (some ⟨d, 0, none⟩)) ∧ (y.heap.size ≤ d ∧ y.heap.size ≤ m1 ∧ y.heap.size ≤ m2 ∧ d ≠ m1 ∧ d ≠ m2) ∧ Book w' d t m1 m2 gs (ps.map Pr.raw)) ∧ Below y.heap.size y w') := by
    intro y hy
    have hy2 := bl_trans B1.out hy
    have h := bookOf_any t gs (ps.map Pr.raw) b1 b2 gs.length ps.length y (hA.g.keep hA.g1 hy2) (Nat.lt_of_lt_of_le hA.g1 hy2.size) (Pr.raw_rows (hA.p.keep hA.p1 hy2)) (Nat.lt_of_lt_of_le hA.p1 hy2.size) (fun r hr => (hF.g r hr).1) (fun r hr => by obtain ⟨p, hp, rfl⟩ := List.mem_map.1 hr; exact (hF.p p hp).1) hF.gl (by rw [List.length_map]; exact hF.pl) (G.srt_asc hok.2.1.2.1) (srt_raw hok.2.2.1.2.1)
    rw [List.length_map] at h
    exact h
  have TO : Hid (∀ y d u m1 m2, Below w.heap.size w y → Book y d u m1 m2 gs (ps.map Pr.raw) → Calls Tryz.prog 43 #[.pointer (some ⟨d, 0, none⟩)] y fun e w' => (∃ B Z lb qs s1 a2 c2, e = .returned (.agg #[.int .i64 u, s1, .slice a2 ps.length c2]) ∧ y.heap.size < B ∧ Pt w' B Z lb u gs ps qs ps.length s1 a2 c2) ∧ Below y.heap.size y w') := by
    intro y d u m1 m2 hy hB
    exact told_any hK1 hS1 hK2 hS2 d m1 m2 u gs ps (ps.map Pr.raw) rfl y hB (G.srt_asc hok.2.1.2.1) (srt_raw hok.2.2.1.2.1) (fun r hr => (hF.g r hr).1) (fun r hr => by obtain ⟨p, hp, rfl⟩ := List.mem_map.1 hr; exact (hF.p p hp).1) hF.gl (by rw [List.length_map]; exact hF.pl) (fun q hq => ⟨src_blk ((hA.k q hq).keep hy), hF.ln q hq⟩)
  obtain ⟨te, pe, rfl⟩ := hv
  have HEV : Hid (∀ y, Below w.heap.size w y → y.cell? ⟨1, 0, none⟩ = some (.iface te pe)) := fun y hy => (hy.cell (p := ⟨1, 0, none⟩) hev0).trans hev
  have HT : Hid (2000000 ≤ t) := ht
  clear hA hF hok hW1 hz1 hev ht hK1 hS1 hK2 hS2
  go_enter Tryz.func20, Tryz.ntmps20
  go_wp2_with fail
  rw [← HW1.out]
  refine OK.out.mono ?_
  rintro e w2 ⟨rfl, c2⟩
  have D2 : Hid (Below W1.heap.size W1 w2) := c2
  clear c2
  have t0 : w2.cell? ⟨w.heap.size, 0, none⟩ = some (.int .i64 t) := K0.out w2 D2.out 0
  have t1 : w2.cell? ⟨w.heap.size, 1, none⟩ = some (.slice (some ⟨b1, 0, none⟩) gs.length gs.length) := K0.out w2 D2.out 1
  have t2 : w2.cell? ⟨w.heap.size, 2, none⟩ = some (.slice (some ⟨b2, 0, none⟩) ps.length ps.length) := K0.out w2 D2.out 2
  go_wp2_with fail
  clear t0 t1 t2
  refine (BO.out w2 D2.out).mono ?_
  rintro e w3 ⟨⟨d, m1, m2, rfl, hd, hB⟩, c3⟩
  have D3 : Hid (Below W1.heap.size W1 w3) := bl_trans D2.out c3
  have HD : Hid (W1.heap.size ≤ d ∧ d ≠ m1 ∧ d ≠ m2) := ⟨Nat.le_trans D2.out.size hd.1, hd.2.2.2.1, hd.2.2.2.2⟩
  have HB : Hid (Book w3 d t m1 m2 gs (ps.map Pr.raw)) := hB
  clear hd hB c3
  go_wp2_with fail
  refine (work_tick d w3 (fun v1 v2 w' => v1 = .slice none 0 0 ∧ v2 = .iface te pe ∧ Below w3.heap.size w3 w') ((tick_over d m1 m2 t gs (ps.map Pr.raw) w3 HB.out HT.out (.iface te pe) (HEV.out w3 (bl_trans B1.out D3.out)) ⟨te, pe, rfl⟩).mono (by rintro e w' ⟨rfl, hb⟩; exact ⟨_, _, rfl, rfl, rfl, hb⟩))).mono ?_
  rintro e w4 ⟨v1, v2, rfl, rfl, rfl, c4⟩
  have D4 : Hid (Below W1.heap.size W1 w4) := bl_trans D3.out c4
  clear c4
  have t0 : w4.cell? ⟨w.heap.size, 0, none⟩ = some (.int .i64 t) := K0.out w4 D4.out 0
  have t1 : w4.cell? ⟨w.heap.size, 1, none⟩ = some (.slice (some ⟨b1, 0, none⟩) gs.length gs.length) := K0.out w4 D4.out 1
  have t2 : w4.cell? ⟨w.heap.size, 2, none⟩ = some (.slice (some ⟨b2, 0, none⟩) ps.length ps.length) := K0.out w4 D4.out 2
  go_wp2_with fail
  clear t0 t1 t2
  refine (BO.out w4 D4.out).mono ?_
  rintro e w6 ⟨⟨d', m1', m2', rfl, hd, hB⟩, c6⟩
  have D6 : Hid (Below W1.heap.size W1 w6) := bl_trans D4.out c6
  have HB' : Hid (Book w6 d' t m1' m2' gs (ps.map Pr.raw)) := hB
  clear hd hB c6
  go_wp2_with fail
  refine (TO.out w6 d' t m1' m2' (bl_trans B1.out D6.out) HB'.out).mono ?_
  rintro e w5 ⟨⟨B, Zz, lb, qs, s1, a2, c2, rfl, hBz, hP⟩, c5⟩
  obtain ⟨a1, c1, rfl⟩ := OG.shape hP.g
  have HBz : Hid (w6.heap.size < B) := hBz
  have HP : Hid (Pt w5 B Zz lb t gs ps qs ps.length (.slice a1 gs.length c1) a2 c2) := hP
  have C5 : Hid (Below w6.heap.size w6 w5) := c5
  have D5 : Hid (Below W1.heap.size W1 w5) := bl_trans D6.out c5
  have T5 : Hid (w5.there (w.heap.size + 1) 0 3) := there_land (T1.out w5 D5.out)
  clear hBz hP c5
  go_wp2_with (refine wpList_store_mid (by rfl) 30 _ _ (by rfl) (w.heap.size + 1) 0 #[.int .i64 t, .slice a1 gs.length c1, .slice a2 ps.length c2] (by rfl) (by rfl) (by exact T5.out) hinfo (by simp [Value.oneCell']) ?_)
  have RG := World.rangeAt_setCells_same w5 (w.heap.size + 1) 0 [.int .i64 t, .slice a1 gs.length c1, .slice a2 ps.length c2] T5.out
  have hx : Ex (w.heap.size + 1) w5 (World.setCells w5 (w.heap.size + 1) 0 [.int .i64 t, .slice a1 gs.length c1, .slice a2 ps.length c2]) := (Ex.refl _ _).cells _ _
  have BE : Below w.heap.size w (World.setCells w5 (w.heap.size + 1) 0 [.int .i64 t, .slice a1 gs.length c1, .slice a2 ps.length c2]) := Ex.mono (bl_trans B1.out D5.out) hx (Nat.le_succ _)
  have d0 := RG 0 _ rfl
  have d1 := RG 1 _ rfl
  have d2 := RG 2 _ rfl
  simp only [Nat.zero_add] at d0 d1 d2
  refine bodyPost_ret (v := .tuple #[.agg #[.int .i64 t, .slice a1 gs.length c1, .slice a2 ps.length c2], .slice none 0 0, .iface te pe]) (by simp [results, Tryz.results20, go_sem, d0, d1, d2]) rfl ⟨?_, BE⟩
  have hs : w.heap.size + 2 ≤ w6.heap.size := by have h1 := D6.out.size; have h2 := Z1.out; omega
  have hBB : w6.heap.size < B := HBz.out
  exact ⟨qs, _, _, rfl, HP.out.like, (pt_ldo (pt_other HP.out hx (by omega))).low (by omega)⟩

set_option maxRecDepth 4000 in
set_option maxHeartbeats 4000000 in
theorem change_go (hK1 : G.KeysSay) (hS1 : G.SortedSay) (hK2 : Pr.KeysSay) (hS2 : Pr.SortedSay) (t : Int) (gs : List G.GrantD) (ps : List P.PlaceD) (b1 b2 : Nat) (w : World) (f : Value) (hA : P.LandAt w gs ps b1 b2) (hF : P.Fit gs ps) (hok : P.LandSay t gs ps) (ht : t < 2000000) (hf : f = .func (.func 21) #[] #[]) :
    Calls Tryz.prog 20 #[.agg #[.int .i64 t, .slice (some ⟨b1, 0, none⟩) gs.length gs.length, .slice (some ⟨b2, 0, none⟩) ps.length ps.length], f] w fun e w' => (∃ qs ds s1 s2 v, e = .returned (.tuple #[.agg #[.int .i64 (t + 2), s1, s2], v, .nilIface]) ∧ P.Like qs ps ∧ ds.map Pc.PcD.says = ps.map toldSay ∧ TkO w' w.heap.size gs qs ds s1 s2 v) ∧ Below w.heap.size w w' := by
  subst hf
  have hinfo : (Tryz.prog.info? 30).map (·.size) = some 3 := by kernel_rfl
  obtain ⟨W1, hW1⟩ : ∃ W1, W1 = (w.alloc (.cells #[.int .i64 t, .slice (some ⟨b1, 0, none⟩) gs.length gs.length, .slice (some ⟨b2, 0, none⟩) ps.length ps.length] 30)).alloc (.cells #[.int .i64 0, .slice none 0 0, .slice none 0 0] 30) := ⟨_, rfl⟩
  have HW1 : Hid (W1 = (w.alloc (.cells #[.int .i64 t, .slice (some ⟨b1, 0, none⟩) gs.length gs.length, .slice (some ⟨b2, 0, none⟩) ps.length ps.length] 30)).alloc (.cells #[.int .i64 0, .slice none 0 0, .slice none 0 0] 30)) := hW1
  have B1 : Hid (Below w.heap.size w W1) := by rw [hW1]; exact bl_alloc (bl_alloc (Below.refl _ _) _) _
  have HA : Hid (P.LandAt w gs ps b1 b2) := hA
  have HF : Hid (P.Fit gs ps) := hF
  have HK : Hid (P.LandSay t gs ps) := hok
  have ht0 : 0 ≤ t := by
    have h := hok.1
    simp [P.timeB, inB] at h
    omega
  have OK : Hid (Calls Tryz.prog 41 #[.agg #[.int .i64 t, .slice (some ⟨b1, 0, none⟩) gs.length gs.length, .slice (some ⟨b2, 0, none⟩) ps.length ps.length]] W1 fun e w' => e = .returned (.bool true) ∧ Below W1.heap.size W1 w') := by
    refine (P.implLandOk t gs ps b1 b2 W1 (hA.keep B1.out) hF).mono ?_
    rintro e w' ⟨⟨q, rfl, hq⟩, hb⟩
    exact ⟨by rw [hq.2 hok], hb⟩
  have hz1 : W1.heap.size = w.heap.size + 2 := by rw [hW1]; simp
  have Z1 : Hid (W1.heap.size = w.heap.size + 2) := hz1
  have T1 : Hid (∀ y, Below W1.heap.size W1 y → y.heap[w.heap.size + 1]? = some (.cells #[.int .i64 0, .slice none 0 0, .slice none 0 0] 30 (0, 0))) := by
    intro y hy
    refine (hy.block _ (by omega)).trans ?_
    rw [hW1]
    have h := heap_alloc_newL (w.alloc (.cells #[.int .i64 t, .slice (some ⟨b1, 0, none⟩) gs.length gs.length, .slice (some ⟨b2, 0, none⟩) ps.length ps.length] 30)) (.cells #[.int .i64 0, .slice none 0 0, .slice none 0 0] 30)
    rw [World.size_alloc] at h
    exact h
  have K0 : Hid (∀ y, Below W1.heap.size W1 y → ∀ j, y.cell? ⟨w.heap.size, j, none⟩ = (#[.int .i64 t, .slice (some ⟨b1, 0, none⟩) gs.length gs.length, .slice (some ⟨b2, 0, none⟩) ps.length ps.length] : Array Value)[j]?) := by
    intro y hy j
    rw [hy.cell (p := ⟨w.heap.size, j, none⟩) (by show w.heap.size < _; omega), hW1]
    simp [go_sem]
  have BO : Hid (∀ y, Below W1.heap.size W1 y → Calls Tryz.prog 42 #[.agg #[.int .i64 t, .slice (some ⟨b1, 0, none⟩) gs.length gs.length, .slice (some ⟨b2, 0, none⟩) ps.length ps.length]] y fun e w' => (∃ d m1 m2, e = .returned (.pointer (some ⟨d, 0, none⟩)) ∧ (y.heap.size ≤ d ∧ y.heap.size ≤ m1 ∧ y.heap.size ≤ m2 ∧ d ≠ m1 ∧ d ≠ m2) ∧ Book w' d t m1 m2 gs (ps.map Pr.raw)) ∧ Below y.heap.size y w') := by
    intro y hy
    have hy2 := bl_trans B1.out hy
    have h := bookOf_any t gs (ps.map Pr.raw) b1 b2 gs.length ps.length y (hA.g.keep hA.g1 hy2) (Nat.lt_of_lt_of_le hA.g1 hy2.size) (Pr.raw_rows (hA.p.keep hA.p1 hy2)) (Nat.lt_of_lt_of_le hA.p1 hy2.size) (fun r hr => (hF.g r hr).1) (fun r hr => by obtain ⟨p, hp, rfl⟩ := List.mem_map.1 hr; exact (hF.p p hp).1) hF.gl (by rw [List.length_map]; exact hF.pl) (G.srt_asc hok.2.1.2.1) (srt_raw hok.2.2.1.2.1)
    rw [List.length_map] at h
    exact h
  have TO : Hid (∀ y d u m1 m2, Below w.heap.size w y → Book y d u m1 m2 gs (ps.map Pr.raw) → Calls Tryz.prog 43 #[.pointer (some ⟨d, 0, none⟩)] y fun e w' => (∃ B Z lb qs s1 a2 c2, e = .returned (.agg #[.int .i64 u, s1, .slice a2 ps.length c2]) ∧ y.heap.size < B ∧ Pt w' B Z lb u gs ps qs ps.length s1 a2 c2) ∧ Below y.heap.size y w') := by
    intro y d u m1 m2 hy hB
    exact told_any hK1 hS1 hK2 hS2 d m1 m2 u gs ps (ps.map Pr.raw) rfl y hB (G.srt_asc hok.2.1.2.1) (srt_raw hok.2.2.1.2.1) (fun r hr => (hF.g r hr).1) (fun r hr => by obtain ⟨p, hp, rfl⟩ := List.mem_map.1 hr; exact (hF.p p hp).1) hF.gl (by rw [List.length_map]; exact hF.pl) (fun q hq => ⟨src_blk ((hA.k q hq).keep hy), hF.ln q hq⟩)
  have TI : Hid (∀ y d m1 m2, Below W1.heap.size W1 y → W1.heap.size ≤ d → d ≠ m1 → d ≠ m2 → Book y d t m1 m2 gs (ps.map Pr.raw) → Calls Tryz.prog 22 #[.pointer (some ⟨d, 0, none⟩)] y fun e w' => ∃ v cs, e = .returned (.tuple #[v, .nilIface]) ∧ cs.length = ps.length ∧ Sn w' y.heap.size ps cs v ∧ Book w' d (t + 2) m1 m2 gs (ps.map Pr.raw) ∧ Ex d y w') := by
    intro y d m1 m2 hy hd h1 h2 hB
    exact tick_any hK2 hS2 d m1 m2 t gs ps (ps.map Pr.raw) rfl y hB h1 h2 (srt_raw hok.2.2.1.2.1) (fun r hr => by obtain ⟨p, hp, rfl⟩ := List.mem_map.1 hr; exact (hF.p p hp).1) (by rw [List.length_map]; exact hF.pl) ht0 ht (fun z he q hq => ⟨src_ex (hA.k q hq) (by omega) (bl_trans B1.out hy) he, hF.ln q hq⟩)
  clear hA hF hok hW1 hz1 ht hK1 hS1 hK2 hS2 ht0
  go_enter Tryz.func20, Tryz.ntmps20
  go_wp2_with fail
  rw [← HW1.out]
  refine OK.out.mono ?_
  rintro e w2 ⟨rfl, c2⟩
  have D2 : Hid (Below W1.heap.size W1 w2) := c2
  clear c2
  have t0 : w2.cell? ⟨w.heap.size, 0, none⟩ = some (.int .i64 t) := K0.out w2 D2.out 0
  have t1 : w2.cell? ⟨w.heap.size, 1, none⟩ = some (.slice (some ⟨b1, 0, none⟩) gs.length gs.length) := K0.out w2 D2.out 1
  have t2 : w2.cell? ⟨w.heap.size, 2, none⟩ = some (.slice (some ⟨b2, 0, none⟩) ps.length ps.length) := K0.out w2 D2.out 2
  go_wp2_with fail
  clear t0 t1 t2
  refine (BO.out w2 D2.out).mono ?_
  rintro e w3 ⟨⟨d, m1, m2, rfl, hd, hB⟩, c3⟩
  have D3 : Hid (Below W1.heap.size W1 w3) := bl_trans D2.out c3
  have HD : Hid (W1.heap.size ≤ d ∧ d ≠ m1 ∧ d ≠ m2) := ⟨Nat.le_trans D2.out.size hd.1, hd.2.2.2.1, hd.2.2.2.2⟩
  have HB : Hid (Book w3 d t m1 m2 gs (ps.map Pr.raw)) := hB
  clear hd hB c3
  go_wp2_with fail
  refine (work_tick d w3 (fun v1 v2 w' => v2 = .nilIface ∧ ∃ cs : List Pc.PcRaw, cs.length = ps.length ∧ Sn w' w3.heap.size ps cs v1 ∧ Book w' d (t + 2) m1 m2 gs (ps.map Pr.raw) ∧ Ex d w3 w') ((TI.out w3 d m1 m2 D3.out HD.out.1 HD.out.2.1 HD.out.2.2 HB.out).mono (by rintro e w' ⟨v, cs, rfl, h1, h2, h3, h4⟩; exact ⟨_, _, rfl, rfl, cs, h1, h2, h3, h4⟩))).mono ?_
  rintro e w4 ⟨v1, v2, rfl, rfl, cs, hcl, hSn, hB4, hE4⟩
  have D4 : Hid (Below W1.heap.size W1 w4) := Ex.mono D3.out hE4 HD.out.1
  have HB4 : Hid (Book w4 d (t + 2) m1 m2 gs (ps.map Pr.raw)) := hB4
  have HS : Hid (cs.length = ps.length ∧ Sn w4 w3.heap.size ps cs v1) := ⟨hcl, hSn⟩
  clear hcl hSn hB4 hE4
  go_wp2_with fail
  refine (TO.out w4 d (t + 2) m1 m2 (bl_trans B1.out D4.out) HB4.out).mono ?_
  rintro e w5 ⟨⟨B, Zz, lb, qs, s1, a2, c2, rfl, hBz, hP⟩, c5⟩
  obtain ⟨a1, c1, rfl⟩ := OG.shape hP.g
  have HBz : Hid (w4.heap.size < B) := hBz
  have HP : Hid (Pt w5 B Zz lb (t + 2) gs ps qs ps.length (.slice a1 gs.length c1) a2 c2) := hP
  have C5 : Hid (Below w4.heap.size w4 w5) := c5
  have D5 : Hid (Below W1.heap.size W1 w5) := bl_trans D4.out c5
  have T5 : Hid (w5.there (w.heap.size + 1) 0 3) := there_land (T1.out w5 D5.out)
  clear hBz hP c5
  go_wp2_with (refine wpList_store_mid (by rfl) 30 _ _ (by rfl) (w.heap.size + 1) 0 #[.int .i64 (t + 2), .slice a1 gs.length c1, .slice a2 ps.length c2] (by rfl) (by rfl) (by exact T5.out) hinfo (by simp [Value.oneCell']) ?_)
  have RG := World.rangeAt_setCells_same w5 (w.heap.size + 1) 0 [.int .i64 (t + 2), .slice a1 gs.length c1, .slice a2 ps.length c2] T5.out
  have hx : Ex (w.heap.size + 1) w5 (World.setCells w5 (w.heap.size + 1) 0 [.int .i64 (t + 2), .slice a1 gs.length c1, .slice a2 ps.length c2]) := (Ex.refl _ _).cells _ _
  have BE : Below w.heap.size w (World.setCells w5 (w.heap.size + 1) 0 [.int .i64 (t + 2), .slice a1 gs.length c1, .slice a2 ps.length c2]) := Ex.mono (bl_trans B1.out D5.out) hx (Nat.le_succ _)
  have d0 := RG 0 _ rfl
  have d1 := RG 1 _ rfl
  have d2 := RG 2 _ rfl
  simp only [Nat.zero_add] at d0 d1 d2
  refine bodyPost_ret (v := .tuple #[.agg #[.int .i64 (t + 2), .slice a1 gs.length c1, .slice a2 ps.length c2], v1, .nilIface]) (by simp [results, Tryz.results20, go_sem, d0, d1, d2]) rfl ⟨?_, BE⟩
  obtain ⟨ds, hc, hsay, hraw⟩ := sn_pco (HS.out.2.keep C5.out) HS.out.1
  have hs : w.heap.size + 2 ≤ w3.heap.size := by have h1 := D3.out.size; have h2 := Z1.out; omega
  have h34 : w.heap.size + 2 ≤ w4.heap.size := by have h1 := D4.out.size; have h2 := Z1.out; omega
  have hBB : w4.heap.size < B := HBz.out
  have hL : LdO (World.setCells w5 (w.heap.size + 1) 0 [.int .i64 (t + 2), .slice a1 gs.length c1, .slice a2 ps.length c2]) B gs qs (.slice a1 gs.length c1) (.slice a2 ps.length c2) := pt_ldo (pt_other HP.out hx (by omega))
  have hC := hc.off (off_of_ex hx) (fun g hg e => by have := (hc.lt g hg).1; omega)
  refine ⟨qs, ds, _, _, v1, rfl, HP.out.like, hsay, hL.low (by omega), hC.low (by omega), fun g hg hg' => ?_⟩
  have h1 := (hL.lt g hg).1
  have h2 : g < w4.heap.size := sn_lt HS.out.2 hraw g hg'
  omega
end Go.Proofs.YtgehmpnlfnlboaaGreatDoor
/- The program's tick of a book. -/
namespace Go.Proofs.YtgehmpnlfnlboaaGreatDoor
open Go.RowKit Go.Maps Go.WideMaps
set_option linter.unusedVariables false

/-- The book's two errors lie in their cells. -/
structure Errs (w : World) (e0 e1 : Value) : Prop where
  c0 : w.cell? ⟨0, 0, none⟩ = some e0
  c1 : w.cell? ⟨1, 0, none⟩ = some e1
  z0 : 0 < w.heap.size
  z1 : 1 < w.heap.size
  i0 : ∃ te pe, e0 = .iface te pe
  i1 : ∃ te pe, e1 = .iface te pe
theorem Errs.keep {w w' : World} {e0 e1 : Value} (h : Errs w e0 e1) (hb : Below w.heap.size w w') : Errs w' e0 e1 :=
  ⟨(hb.cell (p := ⟨0, 0, none⟩) h.z0).trans h.c0, (hb.cell (p := ⟨1, 0, none⟩) h.z1).trans h.c1, Nat.lt_of_lt_of_le h.z0 hb.size, Nat.lt_of_lt_of_le h.z1 hb.size, h.i0, h.i1⟩
theorem tko_none {w : World} {B : Nat} {gs : List G.GrantD} {qs : List P.PlaceD} {s1 s2 : Value} (h : LdO w B gs qs s1 s2) : TkO w B gs qs [] s1 s2 (.slice none 0 0) :=
  ⟨h, PcO.nil w B, fun g _ hg => by rcases hg with e | ⟨j, q, hq, -⟩; cases e; simp at hq⟩
theorem change_tick (hK1 : G.KeysSay) (hS1 : G.SortedSay) (hK2 : Pr.KeysSay) (hS2 : Pr.SortedSay) (t : Int) (gs : List G.GrantD) (ps : List P.PlaceD) (b1 b2 : Nat) (w : World) (hA : P.LandAt w gs ps b1 b2) (hF : P.Fit gs ps) (e0 e1 : Value) (hE : Errs w e0 e1) :
    Calls Tryz.prog 20 #[.agg #[.int .i64 t, .slice (some ⟨b1, 0, none⟩) gs.length gs.length, .slice (some ⟨b2, 0, none⟩) ps.length ps.length], .func (.func 21) #[] #[]] w fun e w' => (∃ t' gs' qs ds s1 s2 v er, e = .returned (.tuple #[.agg #[.int .i64 t', s1, s2], v, er]) ∧ TickSay t gs ps t' gs' qs ds ∧ TkO w' w.heap.size gs' qs ds s1 s2 v) ∧ Below w.heap.size w w' := by
  by_cases hok : P.LandSay t gs ps
  · by_cases ht : 2000000 ≤ t
    · refine (change_over hK1 hS1 hK2 hS2 t gs ps b1 b2 w _ hA hF hok ht e1 hE.c1 hE.z1 hE.i1 rfl).mono ?_
      rintro e w' ⟨⟨qs, s1, s2, rfl, hl, hL⟩, hb⟩
      exact ⟨⟨t, gs, qs, [], s1, s2, _, _, rfl, Or.inr ⟨hok, rfl, hl, Or.inl ⟨ht, rfl, rfl⟩⟩, tko_none hL⟩, hb⟩
    · refine (change_go hK1 hS1 hK2 hS2 t gs ps b1 b2 w _ hA hF hok (by omega) rfl).mono ?_
      rintro e w' ⟨⟨qs, ds, s1, s2, v, rfl, hl, hd, hT⟩, hb⟩
      exact ⟨⟨t + 2, gs, qs, ds, s1, s2, v, _, rfl, Or.inr ⟨hok, rfl, hl, Or.inr ⟨by omega, rfl, hd⟩⟩, hT⟩, hb⟩
  · refine (change_no t gs ps b1 b2 w _ hA hF hok e0 hE.c0 hE.z0 hE.i0 rfl).mono ?_
    rintro e w' ⟨rfl, hb⟩
    exact ⟨⟨0, [], [], [], _, _, _, _, rfl, Or.inl ⟨hok, rfl, rfl, rfl, rfl⟩, tko_none (LdO.nil _ _)⟩, hb⟩

set_option maxRecDepth 4000 in
set_option maxHeartbeats 4000000 in
theorem implTick (hK1 : G.KeysSay) (hS1 : G.SortedSay) (hK2 : Pr.KeysSay) (hS2 : Pr.SortedSay) (t : Int) (gs : List G.GrantD) (ps : List P.PlaceD) (b1 b2 : Nat) (w : World) (hA : P.LandAt w gs ps b1 b2) (hF : P.Fit gs ps) (e0 e1 : Value) (hE : Errs w e0 e1) :
    Calls Tryz.prog 7 #[.agg #[.int .i64 t, .slice (some ⟨b1, 0, none⟩) gs.length gs.length, .slice (some ⟨b2, 0, none⟩) ps.length ps.length]] w fun e w' => (∃ t' gs' qs ds s1 s2 v, e = .returned (.tuple #[.agg #[.int .i64 t', s1, s2], v]) ∧ TickSay t gs ps t' gs' qs ds ∧ TkO w' w.heap.size gs' qs ds s1 s2 v) ∧ Below w.heap.size w w' := by
  have hinfo : (Tryz.prog.info? 30).map (·.size) = some 3 := by kernel_rfl
  obtain ⟨W1, hW1⟩ : ∃ W1, W1 = (w.alloc (.cells #[.int .i64 t, .slice (some ⟨b1, 0, none⟩) gs.length gs.length, .slice (some ⟨b2, 0, none⟩) ps.length ps.length] 30)).alloc (.cells #[.int .i64 0, .slice none 0 0, .slice none 0 0] 30) := ⟨_, rfl⟩
  have HW1 : Hid (W1 = (w.alloc (.cells #[.int .i64 t, .slice (some ⟨b1, 0, none⟩) gs.length gs.length, .slice (some ⟨b2, 0, none⟩) ps.length ps.length] 30)).alloc (.cells #[.int .i64 0, .slice none 0 0, .slice none 0 0] 30)) := hW1
  have B1 : Hid (Below w.heap.size w W1) := by rw [hW1]; exact bl_alloc (bl_alloc (Below.refl _ _) _) _
  have Z1 : Hid (W1.heap.size = w.heap.size + 2) := by rw [hW1]; show _ = _; simp
  have T1 : Hid (∀ y, Below W1.heap.size W1 y → y.there (w.heap.size + 1) 0 3) := by
    intro y hy
    refine there_land ((hy.block _ (by have := Z1.out; omega)).trans ?_)
    rw [hW1]
    have h := heap_alloc_newL (w.alloc (.cells #[.int .i64 t, .slice (some ⟨b1, 0, none⟩) gs.length gs.length, .slice (some ⟨b2, 0, none⟩) ps.length ps.length] 30)) (.cells #[.int .i64 0, .slice none 0 0, .slice none 0 0] 30)
    rw [World.size_alloc] at h
    exact h
  have CH : Hid (Calls Tryz.prog 20 #[.agg #[.int .i64 t, .slice (some ⟨b1, 0, none⟩) gs.length gs.length, .slice (some ⟨b2, 0, none⟩) ps.length ps.length], .func (.func 21) #[] #[]] W1 fun e w' => (∃ t' gs' qs ds s1 s2 v er, e = .returned (.tuple #[.agg #[.int .i64 t', s1, s2], v, er]) ∧ TickSay t gs ps t' gs' qs ds ∧ TkO w' W1.heap.size gs' qs ds s1 s2 v) ∧ Below W1.heap.size W1 w') := change_tick hK1 hS1 hK2 hS2 t gs ps b1 b2 W1 (hA.keep B1.out) hF e0 e1 (hE.keep B1.out)
  clear hK1 hS1 hK2 hS2 hA hF hE hW1
  go_enter Tryz.func7, Tryz.ntmps7
  go_wp2_with fail
  rw [← HW1.out]
  refine CH.out.mono ?_
  rintro e w2 ⟨⟨t', gs', qs, ds, s1, s2, v, er, rfl, hS, hT⟩, c2⟩
  obtain ⟨a1, p1, rfl⟩ := G.Sl.shape hT.l.g
  obtain ⟨a2, p2, hs2⟩ := Pr.Sl.shape hT.l.p.o
  rw [List.length_map] at hs2
  subst hs2
  have HS : Hid (TickSay t gs ps t' gs' qs ds) := hS
  have HT : Hid (TkO w2 W1.heap.size gs' qs ds (.slice a1 gs'.length p1) (.slice a2 qs.length p2) v) := hT
  have D2 : Hid (Below W1.heap.size W1 w2) := c2
  have T3 : Hid ((w2.alloc (.cells #[.int .i64 t', .slice a1 gs'.length p1, .slice a2 qs.length p2] 30)).there (w.heap.size + 1) 0 3) := T1.out _ (bl_trans c2 (bl_alloc (Below.refl _ _) _))
  clear hS hT c2 CH
  go_wp2_with (refine wpList_store_mid (by rfl) 30 _ _ (by rfl) (w.heap.size + 1) 0 #[.int .i64 t', .slice a1 gs'.length p1, .slice a2 qs.length p2] (by rfl) (by rfl) (by exact T3.out) hinfo (by simp [Value.oneCell']) ?_)
  have hrg := World.rangeAt_setCells_same (w2.alloc (.cells #[.int .i64 t', .slice a1 gs'.length p1, .slice a2 qs.length p2] 30)) (w.heap.size + 1) 0 [.int .i64 t', .slice a1 gs'.length p1, .slice a2 qs.length p2] (by exact T3.out)
  have d0 := hrg 0 _ rfl
  have d1 := hrg 1 _ rfl
  have d2 := hrg 2 _ rfl
  simp only [Nat.zero_add] at d0 d1 d2
  have hb : Below w2.heap.size w2 (w2.alloc (.cells #[.int .i64 t', .slice a1 gs'.length p1, .slice a2 qs.length p2] 30)) := bl_alloc (Below.refl _ _) _
  have hx : Ex (w.heap.size + 1) (w2.alloc (.cells #[.int .i64 t', .slice a1 gs'.length p1, .slice a2 qs.length p2] 30)) ((w2.alloc (.cells #[.int .i64 t', .slice a1 gs'.length p1, .slice a2 qs.length p2] 30)).setCells (w.heap.size + 1) 0 [.int .i64 t', .slice a1 gs'.length p1, .slice a2 qs.length p2]) := (Ex.refl _ _).cells _ _
  have hz : W1.heap.size = w.heap.size + 2 := Z1.out
  exact bodyPost_ret (v := .tuple #[.agg #[.int .i64 t', .slice a1 gs'.length p1, .slice a2 qs.length p2], v]) (by simp [results, Tryz.results7, go_sem, d0, d1, d2]) rfl ⟨⟨t', gs', qs, ds, _, _, v, rfl, HS.out, ((HT.out.keep hb).off (off_of_ex hx) (fun g hg e => by have := (HT.out.lt g hg).1; omega)).low (by omega)⟩, Ex.mono (bl_trans B1.out (bl_trans D2.out hb)) hx (by omega)⟩
end Go.Proofs.YtgehmpnlfnlboaaGreatDoor
