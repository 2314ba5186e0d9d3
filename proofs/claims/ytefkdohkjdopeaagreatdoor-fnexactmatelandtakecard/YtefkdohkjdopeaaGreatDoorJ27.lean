import Derived.Test.YtefkdohkjdopeaaGreatDoorJ26
namespace Go.Proofs.YtefkdohkjdopeaaGreatDoor
open Go.RowKit Go.Maps Go.WideMaps
set_option linter.unusedVariables false
def pcOf (x : SaysC) : Pc.PcD := ⟨x.1, x.2.1, x.2.2.1, none, 0, [], x.2.2.2.2.1, x.2.2.2.2.2.1, x.2.2.2.2.2.2⟩
theorem pcOf_says {x : SaysC} (h : x.2.2.2.1 = []) : (pcOf x).says = x := by
 obtain ⟨a, b, c, d, e, f, g⟩ := x
 simp only at h
 subst h
 rfl
theorem tko_one {w : World} {B B' g9 : Nat} {gs : List G.GrantD} {qs : List P.PlaceD} {s1 s2 : Value} {x : SaysC} (hL : LdO w B gs qs s1 s2) (h1 : g9 < B) (h2 : B' ≤ g9) (hr : w.heap[g9]? = some (.cells (arrS x) 41 (0, 0))) (hx : x.2.2.2.1 = []) : TkO w B' gs qs [pcOf x] s1 s2 (.slice (some ⟨g9, 0, none⟩) 1 1) := by
 have hlt : g9 < w.heap.size := (Array.getElem?_eq_some_iff.1 hr).1
 have hc : ∀ j v, (arrS x).toList[j]? = some v → w.cell? ⟨g9, j, none⟩ = some v := fun j v hj => by
  have := blk_cells hr j v hj
  rw [Addr.add_mid, Nat.zero_add] at this
  exact this
 refine ⟨hL.low (by omega), ⟨Or.inr ⟨g9, 1, rfl, h2, hlt, ?_, ?_⟩, ?_, ?_, ?_⟩, ?_⟩
 ·
  intro k r hk
  cases k with
  | zero =>
   cases hk
   intro j v hj
   rw [Nat.zero_add]
   exact hc j v hj
  | succ k => simp at hk
 ·
  intro j hj
  have hj7 : j < 7 := by simpa using hj
  refine ⟨?_, ?_⟩
  ·
   rw [Nat.zero_add]
   have : j < (arrS x).toList.length := hj7
   rw [hc j _ (List.getElem?_eq_getElem this)]
   rfl
  ·
   simp [World.frozen?, hr]
 ·
  intro j q hq
  cases j with
  | zero => cases hq; exact Or.inl ⟨rfl, rfl⟩
  | succ j => simp at hq
 ·
  intro j q g hq hg
  cases j with
  | zero => cases hq; cases hg
  | succ j => simp at hq
 ·
  intro i j q r g hij hq hr'
  cases j with
  | zero => omega
  | succ j => simp at hr'
 ·
  rintro g hg (e | ⟨j, q, hq, e⟩)
  ·
   have h3 := (hL.lt g hg).1
   have e' : g9 = g := Option.some.inj e
   omega
  ·
   cases j with
   | zero => cases hq; cases e
   | succ j => simp at hq
theorem work_take (d qb : Nat) (p : TakeP) (s : Int) (a : Option Addr) (nw cw : Nat) (w : World) (R : Value → Value → World → Prop) (hc : ∀ j, w.cell? ⟨qb, j, none⟩ = (#[.int .i64 p.k, .string p.b, .int .i64 s, .slice a nw cw, .string p.h, .string p.c, .int .i64 p.t] : Array Value)[j]?) (h : Calls Tryz.prog 33 #[.pointer (some ⟨d, 0, none⟩), .agg #[.int .i64 p.k, .string p.b, .int .i64 s, .slice a nw cw, .string p.h, .string p.c, .int .i64 p.t]] w fun e w' => ∃ v er, e = .returned (.tuple #[v, er]) ∧ R v er w') :
  Calls Tryz.prog 32 #[.pointer (some ⟨d, 0, none⟩), .pointer (some ⟨qb, 0, none⟩)] w fun e w' => ∃ v er, e = .returned (.tuple #[v, er]) ∧ R v er w' := by
 have H : Hid (Calls Tryz.prog 33 #[.pointer (some ⟨d, 0, none⟩), .agg #[.int .i64 p.k, .string p.b, .int .i64 s, .slice a nw cw, .string p.h, .string p.c, .int .i64 p.t]] w fun e w' => ∃ v er, e = .returned (.tuple #[v, er]) ∧ R v er w') := h
 have k0 : w.cell? ⟨qb, 0, none⟩ = some (.int .i64 p.k) := hc 0
 have k1 : w.cell? ⟨qb, 1, none⟩ = some (.string p.b) := hc 1
 have k2 : w.cell? ⟨qb, 2, none⟩ = some (.int .i64 s) := hc 2
 have k3 : w.cell? ⟨qb, 3, none⟩ = some (.slice a nw cw) := hc 3
 have k4 : w.cell? ⟨qb, 4, none⟩ = some (.string p.h) := hc 4
 have k5 : w.cell? ⟨qb, 5, none⟩ = some (.string p.c) := hc 5
 have k6 : w.cell? ⟨qb, 6, none⟩ = some (.int .i64 p.t) := hc 6
 clear h hc
 go_enter Tryz.func32, Tryz.ntmps32
 go_wp2_with fail
 refine H.out.mono ?_
 rintro e w1 ⟨v, er, rfl, hR⟩
 have HR : Hid (R v er w1) := hR
 clear hR H k0 k1 k2 k3 k4 k5 k6
 go_wp2_with fail
 exact bodyPost_ret (v := .tuple #[v, er]) (by simp [results, Tryz.results32, go_sem]) rfl ⟨v, er, rfl, HR.out⟩
set_option maxRecDepth 4000 in
set_option maxHeartbeats 2000000 in
theorem change_tno (t : Int) (gs : List G.GrantD) (ps : List P.PlaceD) (b1 b2 : Nat) (w : World) (f : Value) (hA : P.LandAt w gs ps b1 b2) (hF : P.Fit gs ps) (hno : ¬ P.LandSay t gs ps) (ev : Value) (hev : w.cell? ⟨0, 0, none⟩ = some ev) (hev0 : 0 < w.heap.size) (hv : ∃ te pe, ev = .iface te pe) :
  Calls Tryz.prog 31 #[.agg #[.int .i64 t, .slice (some ⟨b1, 0, none⟩) gs.length gs.length, .slice (some ⟨b2, 0, none⟩) ps.length ps.length], f] w fun e w' => e = .returned (.tuple #[.agg #[.int .i64 0, .slice none 0 0, .slice none 0 0], .slice none 0 0, ev]) ∧ Below w.heap.size w w' := by
 obtain ⟨te, pe, rfl⟩ := hv
 obtain ⟨W1, hW1⟩ : ∃ W1, W1 = (w.alloc (.cells #[.int .i64 t, .slice (some ⟨b1, 0, none⟩) gs.length gs.length, .slice (some ⟨b2, 0, none⟩) ps.length ps.length] 34)).alloc (.cells #[.int .i64 0, .slice none 0 0, .slice none 0 0] 34) := ⟨_, rfl⟩
 have HW1 : Hid (W1 = (w.alloc (.cells #[.int .i64 t, .slice (some ⟨b1, 0, none⟩) gs.length gs.length, .slice (some ⟨b2, 0, none⟩) ps.length ps.length] 34)).alloc (.cells #[.int .i64 0, .slice none 0 0, .slice none 0 0] 34)) := hW1
 have B1 : Hid (Below w.heap.size w W1) := by rw [hW1]; exact bl_alloc (bl_alloc (Below.refl _ _) _) _
 have OK : Hid (Calls Tryz.prog 52 #[.agg #[.int .i64 t, .slice (some ⟨b1, 0, none⟩) gs.length gs.length, .slice (some ⟨b2, 0, none⟩) ps.length ps.length]] W1 fun e w' => e = .returned (.bool false) ∧ Below W1.heap.size W1 w') := by
  refine (P.implLandOk t gs ps b1 b2 W1 (hA.keep B1.out) hF).mono ?_
  rintro e w' ⟨⟨q, rfl, hq⟩, hb⟩
  refine ⟨?_, hb⟩
  cases q with
  | false => rfl
  | true => exact (hno (hq.1 rfl)).elim
 have hz1 : W1.heap.size = w.heap.size + 2 := by rw [hW1]; simp
 have T1 : Hid (W1.heap[w.heap.size + 1]? = some (.cells #[.int .i64 0, .slice none 0 0, .slice none 0 0] 34 (0, 0))) := by
  rw [hW1]
  have h := heap_alloc_newL (w.alloc (.cells #[.int .i64 t, .slice (some ⟨b1, 0, none⟩) gs.length gs.length, .slice (some ⟨b2, 0, none⟩) ps.length ps.length] 34)) (.cells #[.int .i64 0, .slice none 0 0, .slice none 0 0] 34)
  rw [World.size_alloc] at h
  exact h
 clear hA hF hno hW1
 go_enter Tryz.func31, Tryz.ntmps31
 go_wp2_with fail
 rw [← HW1.out]
 refine OK.out.mono ?_
 rintro e w2 ⟨rfl, b2'⟩
 have he2 : w2.cell? ⟨0, 0, none⟩ = some (.iface te pe) := ((bl_trans B1.out b2').cell (p := ⟨0, 0, none⟩) hev0).trans hev
 have T3 : Hid (w2.heap[w.heap.size + 1]? = some (.cells #[.int .i64 0, .slice none 0 0, .slice none 0 0] 34 (0, 0))) := (b2'.block _ (by omega)).trans T1.out
 have T2 : Hid (w2.there (w.heap.size + 1) 0 3) := there_land ((b2'.block _ (by omega)).trans T1.out)
 have B2 : Hid (Below w.heap.size w w2) := bl_trans B1.out b2'
 clear b2' hev
 have hT := (T3.out)
 have t0 : w2.cell? ⟨w.heap.size + 1, 0, none⟩ = some (.int .i64 0) := by simp [World.cell?, hT]
 have t1 : w2.cell? ⟨w.heap.size + 1, 1, none⟩ = some (.slice none 0 0) := by simp [World.cell?, hT]
 have t2 : w2.cell? ⟨w.heap.size + 1, 2, none⟩ = some (.slice none 0 0) := by simp [World.cell?, hT]
 have z0 : w2.frozen? ⟨w.heap.size + 1, 0, none⟩ = false := by simp [World.frozen?, hT]
 have z1 : w2.frozen? ⟨w.heap.size + 1, 1, none⟩ = false := by simp [World.frozen?, hT]
 have z2 : w2.frozen? ⟨w.heap.size + 1, 2, none⟩ = false := by simp [World.frozen?, hT]
 have BF : Hid (∀ n, Below w.heap.size w ((((w2.drewN n).setCell ⟨w.heap.size + 1, 0, none⟩ (.int .i64 0)).setCell ⟨w.heap.size + 1, 1, none⟩ (.slice none 0 0)).setCell ⟨w.heap.size + 1, 2, none⟩ (.slice none 0 0))) := fun n => bl_set (bl_set (bl_set (⟨B2.out.os, B2.out.tape, B2.out.output, B2.out.size, B2.out.block⟩ : Below w.heap.size w (w2.drewN n)) (by show w.heap.size ≤ w.heap.size + 1; omega) _) (by show w.heap.size ≤ w.heap.size + 1; omega) _) (by show w.heap.size ≤ w.heap.size + 1; omega) _
 clear hT T2
 go_wp2_with fail
 go_region
 all_goals go_wp2
 all_goals exact bodyPost_ret (v := .tuple #[.agg #[.int .i64 0, .slice none 0 0, .slice none 0 0], .slice none 0 0, .iface te pe]) (by simp [results, Tryz.results31, go_sem, t0, t1, t2]) rfl ⟨rfl, BF.out _⟩
set_option maxRecDepth 4000 in
set_option maxHeartbeats 4000000 in
theorem change_terr (hK1 : G.KeysSay) (hS1 : G.SortedSay) (hK2 : Pr.KeysSay) (hS2 : Pr.SortedSay) (t : Int) (gs : List G.GrantD) (ps : List P.PlaceD) (b1 b2 : Nat) (w : World) (f : Value) (hA : P.LandAt w gs ps b1 b2) (hF : P.Fit gs ps) (hok : P.LandSay t gs ps) (bb : Nat) (hwk : ∀ y d m1 m2, Below w.heap.size w y → w.heap.size + 2 ≤ d → w.heap.size + 2 ≤ m1 → d ≠ m1 → Book y d t m1 m2 gs (ps.map Pr.raw) → (∃ n, n ≤ 1048576 ∧ y.ownsMap Tryz.prog 9 G.RV m1 n (G.dec gs)) → Calls Tryz.prog 32 #[.pointer (some ⟨d, 0, none⟩), .pointer (some ⟨bb, 0, none⟩)] y fun e w' => (∃ te pe, e = .returned (.tuple #[.slice none 0 0, .iface te pe])) ∧ Off (fun j => j = m1) y w') (hf : f = .func (.func 32) #[] #[.pointer (some ⟨bb, 0, none⟩)]) :
  Calls Tryz.prog 31 #[.agg #[.int .i64 t, .slice (some ⟨b1, 0, none⟩) gs.length gs.length, .slice (some ⟨b2, 0, none⟩) ps.length ps.length], f] w fun e w' => (∃ qs s1 s2 te pe, e = .returned (.tuple #[.agg #[.int .i64 t, s1, s2], .slice none 0 0, .iface te pe]) ∧ P.Like qs ps ∧ LdO w' w.heap.size gs qs s1 s2) ∧ Below w.heap.size w w' := by
 subst hf
 have hinfo : (Tryz.prog.info? 34).map (·.size) = some 3 := by kernel_rfl
 obtain ⟨W1, hW1⟩ : ∃ W1, W1 = (w.alloc (.cells #[.int .i64 t, .slice (some ⟨b1, 0, none⟩) gs.length gs.length, .slice (some ⟨b2, 0, none⟩) ps.length ps.length] 34)).alloc (.cells #[.int .i64 0, .slice none 0 0, .slice none 0 0] 34) := ⟨_, rfl⟩
 have HW1 : Hid (W1 = (w.alloc (.cells #[.int .i64 t, .slice (some ⟨b1, 0, none⟩) gs.length gs.length, .slice (some ⟨b2, 0, none⟩) ps.length ps.length] 34)).alloc (.cells #[.int .i64 0, .slice none 0 0, .slice none 0 0] 34)) := hW1
 have B1 : Hid (Below w.heap.size w W1) := by rw [hW1]; exact bl_alloc (bl_alloc (Below.refl _ _) _) _
 have HA : Hid (P.LandAt w gs ps b1 b2) := hA
 have HF : Hid (P.Fit gs ps) := hF
 have HK : Hid (P.LandSay t gs ps) := hok
 have OK : Hid (Calls Tryz.prog 52 #[.agg #[.int .i64 t, .slice (some ⟨b1, 0, none⟩) gs.length gs.length, .slice (some ⟨b2, 0, none⟩) ps.length ps.length]] W1 fun e w' => e = .returned (.bool true) ∧ Below W1.heap.size W1 w') := by
  refine (P.implLandOk t gs ps b1 b2 W1 (hA.keep B1.out) hF).mono ?_
  rintro e w' ⟨⟨q, rfl, hq⟩, hb⟩
  exact ⟨by rw [hq.2 hok], hb⟩
 have hz1 : W1.heap.size = w.heap.size + 2 := by rw [hW1]; simp
 have Z1 : Hid (W1.heap.size = w.heap.size + 2) := hz1
 have T1 : Hid (∀ y, Below W1.heap.size W1 y → y.heap[w.heap.size + 1]? = some (.cells #[.int .i64 0, .slice none 0 0, .slice none 0 0] 34 (0, 0))) := by
  intro y hy
  refine (hy.block _ (by omega)).trans ?_
  rw [hW1]
  have h := heap_alloc_newL (w.alloc (.cells #[.int .i64 t, .slice (some ⟨b1, 0, none⟩) gs.length gs.length, .slice (some ⟨b2, 0, none⟩) ps.length ps.length] 34)) (.cells #[.int .i64 0, .slice none 0 0, .slice none 0 0] 34)
  rw [World.size_alloc] at h
  exact h
 have K0 : Hid (∀ y, Below W1.heap.size W1 y → ∀ j, y.cell? ⟨w.heap.size, j, none⟩ = (#[.int .i64 t, .slice (some ⟨b1, 0, none⟩) gs.length gs.length, .slice (some ⟨b2, 0, none⟩) ps.length ps.length] : Array Value)[j]?) := by
  intro y hy j
  rw [hy.cell (p := ⟨w.heap.size, j, none⟩) (by show w.heap.size < _; omega), hW1]
  simp [go_sem]
 have BO : Hid (∀ y, Below W1.heap.size W1 y → Calls Tryz.prog 53 #[.agg #[.int .i64 t, .slice (some ⟨b1, 0, none⟩) gs.length gs.length, .slice (some ⟨b2, 0, none⟩) ps.length ps.length]] y fun e w' => (∃ d m1 m2, e = .returned (.pointer (some ⟨d, 0, none⟩)) ∧ (y.heap.size ≤ d ∧ y.heap.size ≤ m1 ∧ y.heap.size ≤ m2 ∧ d ≠ m1 ∧ d ≠ m2) ∧ Book w' d t m1 m2 gs (ps.map Pr.raw) ∧ ∃ n, n ≤ 1048576 ∧ w'.ownsMap Tryz.prog 9 G.RV m1 n (G.dec gs)) ∧ Below y.heap.size y w') := by
  intro y hy
  have hy2 := bl_trans B1.out hy
  have h := bookOf_m t gs (ps.map Pr.raw) b1 b2 gs.length ps.length y (hA.g.keep hA.g1 hy2) (Nat.lt_of_lt_of_le hA.g1 hy2.size) (Pr.raw_rows (hA.p.keep hA.p1 hy2)) (Nat.lt_of_lt_of_le hA.p1 hy2.size) (fun r hr => (hF.g r hr).1) (fun r hr => by obtain ⟨p, hp, rfl⟩ := List.mem_map.1 hr; exact (hF.p p hp).1) hF.gl (by rw [List.length_map]; exact hF.pl) (G.srt_asc hok.2.1.2.1) (srtP_raw (srtP hok.2.2.1.2.1))
  rw [List.length_map] at h
  exact h.mono (by rintro e w' ⟨⟨d, m1, m2, h1, h2, h3, -, h5⟩, h4⟩; exact ⟨⟨d, m1, m2, h1, h2, h3, h5⟩, h4⟩)
 have TO : Hid (∀ y d u m1 m2, Below w.heap.size w y → Book y d u m1 m2 gs (ps.map Pr.raw) → Calls Tryz.prog 54 #[.pointer (some ⟨d, 0, none⟩)] y fun e w' => (∃ B Z lb qs s1 a2 c2, e = .returned (.agg #[.int .i64 u, s1, .slice a2 ps.length c2]) ∧ y.heap.size < B ∧ Pt w' B Z lb u gs ps qs ps.length s1 a2 c2) ∧ Below y.heap.size y w') := by
  intro y d u m1 m2 hy hB
  exact told_any hK1 hS1 hK2 hS2 d m1 m2 u gs ps (ps.map Pr.raw) rfl y hB (G.srt_asc hok.2.1.2.1) (srtP_raw (srtP hok.2.2.1.2.1)) (fun r hr => (hF.g r hr).1) (fun r hr => by obtain ⟨p, hp, rfl⟩ := List.mem_map.1 hr; exact (hF.p p hp).1) hF.gl (by rw [List.length_map]; exact hF.pl) (fun q hq => ⟨src_blk ((hA.k q hq).keep hy), hF.ln q hq⟩)
 have WK : Hid (∀ y d m1 m2, Below w.heap.size w y → w.heap.size + 2 ≤ d → w.heap.size + 2 ≤ m1 → d ≠ m1 → Book y d t m1 m2 gs (ps.map Pr.raw) → (∃ n, n ≤ 1048576 ∧ y.ownsMap Tryz.prog 9 G.RV m1 n (G.dec gs)) → Calls Tryz.prog 32 #[.pointer (some ⟨d, 0, none⟩), .pointer (some ⟨bb, 0, none⟩)] y fun e w' => (∃ te pe, e = .returned (.tuple #[.slice none 0 0, .iface te pe])) ∧ Off (fun j => j = m1) y w') := hwk
 clear hA hF hok hW1 hz1 hK1 hS1 hK2 hS2 hwk
 go_enter Tryz.func31, Tryz.ntmps31
 go_wp2_with fail
 rw [← HW1.out]
 refine OK.out.mono ?_
 rintro e w2 ⟨rfl, c2⟩
 have D2 : Hid (Below W1.heap.size W1 w2) := c2
 clear c2
 have t0 : w2.cell? ⟨w.heap.size, 0, none⟩ = some (.int .i64 t) := K0.out w2 D2.out 0
 have t1 : w2.cell? ⟨w.heap.size, 1, none⟩ = some (.slice (some ⟨b1, 0, none⟩) gs.length gs.length) := K0.out w2 D2.out 1
 have t2 : w2.cell? ⟨w.heap.size, 2, none⟩ = some (.slice (some ⟨b2, 0, none⟩) ps.length ps.length) := K0.out w2 D2.out 2
 go_wp2_with fail
 clear t0 t1 t2
 refine (BO.out w2 D2.out).mono ?_
 rintro e w3 ⟨⟨d, m1, m2, rfl, hd, hB, hNB⟩, c3⟩
 have D3 : Hid (Below W1.heap.size W1 w3) := bl_trans D2.out c3
 have HD : Hid (W1.heap.size ≤ d ∧ W1.heap.size ≤ m1 ∧ d ≠ m1) := ⟨Nat.le_trans D2.out.size hd.1, Nat.le_trans D2.out.size hd.2.1, hd.2.2.2.1⟩
 have HNB : Hid (∃ n, n ≤ 1048576 ∧ w3.ownsMap Tryz.prog 9 G.RV m1 n (G.dec gs)) := hNB
 clear hNB
 have HB : Hid (Book w3 d t m1 m2 gs (ps.map Pr.raw)) := hB
 clear hd hB c3
 go_wp2_with fail
 refine (WK.out w3 d m1 m2 (bl_trans B1.out D3.out) (by have h1 := HD.out.1; have h2 := Z1.out; omega) (by have h1 := HD.out.2.1; have h2 := Z1.out; omega) HD.out.2.2 HB.out HNB.out).mono ?_
 rintro e w4 ⟨⟨te, pe, rfl⟩, o4⟩
 have D4 : Hid (Below W1.heap.size W1 w4) := D3.out.trans (o4.below (fun j hj => by rw [hj]; exact HD.out.2.1) D3.out.size)
 clear o4
 have t0 : w4.cell? ⟨w.heap.size, 0, none⟩ = some (.int .i64 t) := K0.out w4 D4.out 0
 have t1 : w4.cell? ⟨w.heap.size, 1, none⟩ = some (.slice (some ⟨b1, 0, none⟩) gs.length gs.length) := K0.out w4 D4.out 1
 have t2 : w4.cell? ⟨w.heap.size, 2, none⟩ = some (.slice (some ⟨b2, 0, none⟩) ps.length ps.length) := K0.out w4 D4.out 2
 go_wp2_with fail
 clear t0 t1 t2
 refine (BO.out w4 D4.out).mono ?_
 rintro e w6 ⟨⟨d', m1', m2', rfl, hd, hB, -⟩, c6⟩
 have D6 : Hid (Below W1.heap.size W1 w6) := bl_trans D4.out c6
 have HB' : Hid (Book w6 d' t m1' m2' gs (ps.map Pr.raw)) := hB
 clear hd hB c6
 go_wp2_with fail
 refine (TO.out w6 d' t m1' m2' (bl_trans B1.out D6.out) HB'.out).mono ?_
 rintro e w5 ⟨⟨B, Zz, lb, qs, s1, a2, c2, rfl, hBz, hP⟩, c5⟩
 obtain ⟨a1, c1, rfl⟩ := OG.shape hP.g
 have HBz : Hid (w6.heap.size < B) := hBz
 have HP : Hid (Pt w5 B Zz lb t gs ps qs ps.length (.slice a1 gs.length c1) a2 c2) := hP
 have C5 : Hid (Below w6.heap.size w6 w5) := c5
 have D5 : Hid (Below W1.heap.size W1 w5) := bl_trans D6.out c5
 have T5 : Hid (w5.there (w.heap.size + 1) 0 3) := there_land (T1.out w5 D5.out)
 clear hBz hP c5
 go_wp2_with (refine wpList_store_mid (by rfl) 34 _ _ (by rfl) (w.heap.size + 1) 0 #[.int .i64 t, .slice a1 gs.length c1, .slice a2 ps.length c2] (by rfl) (by rfl) (by exact T5.out) hinfo (by simp [Value.oneCell']) ?_)
 have RG := World.rangeAt_setCells_same w5 (w.heap.size + 1) 0 [.int .i64 t, .slice a1 gs.length c1, .slice a2 ps.length c2] T5.out
 have hx : Ex (w.heap.size + 1) w5 (World.setCells w5 (w.heap.size + 1) 0 [.int .i64 t, .slice a1 gs.length c1, .slice a2 ps.length c2]) := (Ex.refl _ _).cells _ _
 have BE : Below w.heap.size w (World.setCells w5 (w.heap.size + 1) 0 [.int .i64 t, .slice a1 gs.length c1, .slice a2 ps.length c2]) := Ex.mono (bl_trans B1.out D5.out) hx (Nat.le_succ _)
 have d0 := RG 0 _ rfl
 have d1 := RG 1 _ rfl
 have d2 := RG 2 _ rfl
 simp only [Nat.zero_add] at d0 d1 d2
 refine bodyPost_ret (v := .tuple #[.agg #[.int .i64 t, .slice a1 gs.length c1, .slice a2 ps.length c2], .slice none 0 0, .iface te pe]) (by simp [results, Tryz.results31, go_sem, d0, d1, d2]) rfl ⟨?_, BE⟩
 have hs : w.heap.size + 2 ≤ w6.heap.size := by have h1 := D6.out.size; have h2 := Z1.out; omega
 have hBB : w6.heap.size < B := HBz.out
 exact ⟨qs, _, _, te, pe, rfl, HP.out.like, (pt_ldo (pt_other HP.out hx (by omega))).low (by omega)⟩
set_option maxRecDepth 4000 in
set_option maxHeartbeats 4000000 in
theorem change_tgo (hK1 : G.KeysSay) (hS1 : G.SortedSay) (hK2 : Pr.KeysSay) (hS2 : Pr.SortedSay) (t : Int) (gs : List G.GrantD) (ps : List P.PlaceD) (b1 b2 : Nat) (w : World) (f : Value) (hA : P.LandAt w gs ps b1 b2) (hF : P.Fit gs ps) (hok : P.LandSay t gs ps) (bb : Nat) (gs' : List G.GrantD) (x : SaysC) (hx0 : x.2.2.2.1 = []) (hto : ∀ y d m1 m2, Below w.heap.size w y → Book y d t m1 m2 gs' (ps.map Pr.raw) → Calls Tryz.prog 54 #[.pointer (some ⟨d, 0, none⟩)] y fun e w' => (∃ B Z lb qs s1 a2 c2, e = .returned (.agg #[.int .i64 t, s1, .slice a2 ps.length c2]) ∧ y.heap.size < B ∧ Pt w' B Z lb t gs' ps qs ps.length s1 a2 c2) ∧ Below y.heap.size y w') (hwk : ∀ y d m1 m2, Below w.heap.size w y → w.heap.size + 2 ≤ d → w.heap.size + 2 ≤ m1 → d ≠ m1 → Book y d t m1 m2 gs (ps.map Pr.raw) → (∃ n, n ≤ 1048576 ∧ y.ownsMap Tryz.prog 9 G.RV m1 n (G.dec gs)) → Calls Tryz.prog 32 #[.pointer (some ⟨d, 0, none⟩), .pointer (some ⟨bb, 0, none⟩)] y fun e w' => (∃ g9, e = .returned (.tuple #[.slice (some ⟨g9, 0, none⟩) 1 1, .nilIface]) ∧ y.heap.size ≤ g9 ∧ w'.heap[g9]? = some (.cells (arrS x) 41 (0, 0))) ∧ Book w' d t m1 m2 gs' (ps.map Pr.raw) ∧ Off (fun j => j = m1) y w') (hf : f = .func (.func 32) #[] #[.pointer (some ⟨bb, 0, none⟩)]) :
  Calls Tryz.prog 31 #[.agg #[.int .i64 t, .slice (some ⟨b1, 0, none⟩) gs.length gs.length, .slice (some ⟨b2, 0, none⟩) ps.length ps.length], f] w fun e w' => (∃ qs s1 s2 v, e = .returned (.tuple #[.agg #[.int .i64 t, s1, s2], v, .nilIface]) ∧ P.Like qs ps ∧ TkO w' w.heap.size gs' qs [pcOf x] s1 s2 v) ∧ Below w.heap.size w w' := by
 subst hf
 have hinfo : (Tryz.prog.info? 34).map (·.size) = some 3 := by kernel_rfl
 obtain ⟨W1, hW1⟩ : ∃ W1, W1 = (w.alloc (.cells #[.int .i64 t, .slice (some ⟨b1, 0, none⟩) gs.length gs.length, .slice (some ⟨b2, 0, none⟩) ps.length ps.length] 34)).alloc (.cells #[.int .i64 0, .slice none 0 0, .slice none 0 0] 34) := ⟨_, rfl⟩
 have HW1 : Hid (W1 = (w.alloc (.cells #[.int .i64 t, .slice (some ⟨b1, 0, none⟩) gs.length gs.length, .slice (some ⟨b2, 0, none⟩) ps.length ps.length] 34)).alloc (.cells #[.int .i64 0, .slice none 0 0, .slice none 0 0] 34)) := hW1
 have B1 : Hid (Below w.heap.size w W1) := by rw [hW1]; exact bl_alloc (bl_alloc (Below.refl _ _) _) _
 have HA : Hid (P.LandAt w gs ps b1 b2) := hA
 have HF : Hid (P.Fit gs ps) := hF
 have HK : Hid (P.LandSay t gs ps) := hok
 have OK : Hid (Calls Tryz.prog 52 #[.agg #[.int .i64 t, .slice (some ⟨b1, 0, none⟩) gs.length gs.length, .slice (some ⟨b2, 0, none⟩) ps.length ps.length]] W1 fun e w' => e = .returned (.bool true) ∧ Below W1.heap.size W1 w') := by
  refine (P.implLandOk t gs ps b1 b2 W1 (hA.keep B1.out) hF).mono ?_
  rintro e w' ⟨⟨q, rfl, hq⟩, hb⟩
  exact ⟨by rw [hq.2 hok], hb⟩
 have hz1 : W1.heap.size = w.heap.size + 2 := by rw [hW1]; simp
 have Z1 : Hid (W1.heap.size = w.heap.size + 2) := hz1
 have T1 : Hid (∀ y, Below W1.heap.size W1 y → y.heap[w.heap.size + 1]? = some (.cells #[.int .i64 0, .slice none 0 0, .slice none 0 0] 34 (0, 0))) := by
  intro y hy
  refine (hy.block _ (by omega)).trans ?_
  rw [hW1]
  have h := heap_alloc_newL (w.alloc (.cells #[.int .i64 t, .slice (some ⟨b1, 0, none⟩) gs.length gs.length, .slice (some ⟨b2, 0, none⟩) ps.length ps.length] 34)) (.cells #[.int .i64 0, .slice none 0 0, .slice none 0 0] 34)
  rw [World.size_alloc] at h
  exact h
 have K0 : Hid (∀ y, Below W1.heap.size W1 y → ∀ j, y.cell? ⟨w.heap.size, j, none⟩ = (#[.int .i64 t, .slice (some ⟨b1, 0, none⟩) gs.length gs.length, .slice (some ⟨b2, 0, none⟩) ps.length ps.length] : Array Value)[j]?) := by
  intro y hy j
  rw [hy.cell (p := ⟨w.heap.size, j, none⟩) (by show w.heap.size < _; omega), hW1]
  simp [go_sem]
 have BO : Hid (∀ y, Below W1.heap.size W1 y → Calls Tryz.prog 53 #[.agg #[.int .i64 t, .slice (some ⟨b1, 0, none⟩) gs.length gs.length, .slice (some ⟨b2, 0, none⟩) ps.length ps.length]] y fun e w' => (∃ d m1 m2, e = .returned (.pointer (some ⟨d, 0, none⟩)) ∧ (y.heap.size ≤ d ∧ y.heap.size ≤ m1 ∧ y.heap.size ≤ m2 ∧ d ≠ m1 ∧ d ≠ m2) ∧ Book w' d t m1 m2 gs (ps.map Pr.raw) ∧ ∃ n, n ≤ 1048576 ∧ w'.ownsMap Tryz.prog 9 G.RV m1 n (G.dec gs)) ∧ Below y.heap.size y w') := by
  intro y hy
  have hy2 := bl_trans B1.out hy
  have h := bookOf_m t gs (ps.map Pr.raw) b1 b2 gs.length ps.length y (hA.g.keep hA.g1 hy2) (Nat.lt_of_lt_of_le hA.g1 hy2.size) (Pr.raw_rows (hA.p.keep hA.p1 hy2)) (Nat.lt_of_lt_of_le hA.p1 hy2.size) (fun r hr => (hF.g r hr).1) (fun r hr => by obtain ⟨p, hp, rfl⟩ := List.mem_map.1 hr; exact (hF.p p hp).1) hF.gl (by rw [List.length_map]; exact hF.pl) (G.srt_asc hok.2.1.2.1) (srtP_raw (srtP hok.2.2.1.2.1))
  rw [List.length_map] at h
  exact h.mono (by rintro e w' ⟨⟨d, m1, m2, h1, h2, h3, -, h5⟩, h4⟩; exact ⟨⟨d, m1, m2, h1, h2, h3, h5⟩, h4⟩)
 have TO : Hid (∀ y d u m1 m2, Below w.heap.size w y → Book y d u m1 m2 gs (ps.map Pr.raw) → Calls Tryz.prog 54 #[.pointer (some ⟨d, 0, none⟩)] y fun e w' => (∃ B Z lb qs s1 a2 c2, e = .returned (.agg #[.int .i64 u, s1, .slice a2 ps.length c2]) ∧ y.heap.size < B ∧ Pt w' B Z lb u gs ps qs ps.length s1 a2 c2) ∧ Below y.heap.size y w') := by
  intro y d u m1 m2 hy hB
  exact told_any hK1 hS1 hK2 hS2 d m1 m2 u gs ps (ps.map Pr.raw) rfl y hB (G.srt_asc hok.2.1.2.1) (srtP_raw (srtP hok.2.2.1.2.1)) (fun r hr => (hF.g r hr).1) (fun r hr => by obtain ⟨p, hp, rfl⟩ := List.mem_map.1 hr; exact (hF.p p hp).1) hF.gl (by rw [List.length_map]; exact hF.pl) (fun q hq => ⟨src_blk ((hA.k q hq).keep hy), hF.ln q hq⟩)
 have WK : Hid (∀ y d m1 m2, Below w.heap.size w y → w.heap.size + 2 ≤ d → w.heap.size + 2 ≤ m1 → d ≠ m1 → Book y d t m1 m2 gs (ps.map Pr.raw) → (∃ n, n ≤ 1048576 ∧ y.ownsMap Tryz.prog 9 G.RV m1 n (G.dec gs)) → Calls Tryz.prog 32 #[.pointer (some ⟨d, 0, none⟩), .pointer (some ⟨bb, 0, none⟩)] y fun e w' => (∃ g9, e = .returned (.tuple #[.slice (some ⟨g9, 0, none⟩) 1 1, .nilIface]) ∧ y.heap.size ≤ g9 ∧ w'.heap[g9]? = some (.cells (arrS x) 41 (0, 0))) ∧ Book w' d t m1 m2 gs' (ps.map Pr.raw) ∧ Off (fun j => j = m1) y w') := hwk
 have TQ : Hid (∀ y d m1 m2, Below w.heap.size w y → Book y d t m1 m2 gs' (ps.map Pr.raw) → Calls Tryz.prog 54 #[.pointer (some ⟨d, 0, none⟩)] y fun e w' => (∃ B Z lb qs s1 a2 c2, e = .returned (.agg #[.int .i64 t, s1, .slice a2 ps.length c2]) ∧ y.heap.size < B ∧ Pt w' B Z lb t gs' ps qs ps.length s1 a2 c2) ∧ Below y.heap.size y w') := hto
 clear hA hF hok hW1 hz1 hK1 hS1 hK2 hS2 hwk hto
 go_enter Tryz.func31, Tryz.ntmps31
 go_wp2_with fail
 rw [← HW1.out]
 refine OK.out.mono ?_
 rintro e w2 ⟨rfl, c2⟩
 have D2 : Hid (Below W1.heap.size W1 w2) := c2
 clear c2
 have t0 : w2.cell? ⟨w.heap.size, 0, none⟩ = some (.int .i64 t) := K0.out w2 D2.out 0
 have t1 : w2.cell? ⟨w.heap.size, 1, none⟩ = some (.slice (some ⟨b1, 0, none⟩) gs.length gs.length) := K0.out w2 D2.out 1
 have t2 : w2.cell? ⟨w.heap.size, 2, none⟩ = some (.slice (some ⟨b2, 0, none⟩) ps.length ps.length) := K0.out w2 D2.out 2
 go_wp2_with fail
 clear t0 t1 t2
 refine (BO.out w2 D2.out).mono ?_
 rintro e w3 ⟨⟨d, m1, m2, rfl, hd, hB, hNB⟩, c3⟩
 have D3 : Hid (Below W1.heap.size W1 w3) := bl_trans D2.out c3
 have HD : Hid (W1.heap.size ≤ d ∧ W1.heap.size ≤ m1 ∧ d ≠ m1) := ⟨Nat.le_trans D2.out.size hd.1, Nat.le_trans D2.out.size hd.2.1, hd.2.2.2.1⟩
 have HNB : Hid (∃ n, n ≤ 1048576 ∧ w3.ownsMap Tryz.prog 9 G.RV m1 n (G.dec gs)) := hNB
 clear hNB
 have HB : Hid (Book w3 d t m1 m2 gs (ps.map Pr.raw)) := hB
 clear hd hB c3
 go_wp2_with fail
 refine (WK.out w3 d m1 m2 (bl_trans B1.out D3.out) (by have h1 := HD.out.1; have h2 := Z1.out; omega) (by have h1 := HD.out.2.1; have h2 := Z1.out; omega) HD.out.2.2 HB.out HNB.out).mono ?_
 rintro e w4 ⟨⟨g9, rfl, hg9, hrow⟩, hB4, o4⟩
 have HG9 : Hid (w3.heap.size ≤ g9 ∧ g9 < w4.heap.size) := ⟨hg9, (Array.getElem?_eq_some_iff.1 hrow).1⟩
 have HRW : Hid (w4.heap[g9]? = some (.cells (arrS x) 41 (0, 0))) := hrow
 have D4 : Hid (Below W1.heap.size W1 w4) := D3.out.trans (o4.below (fun j hj => by rw [hj]; exact HD.out.2.1) D3.out.size)
 have HB4 : Hid (Book w4 d t m1 m2 gs' (ps.map Pr.raw)) := hB4
 clear o4 hB4 hg9 hrow
 go_wp2_with fail
 refine (TQ.out w4 d m1 m2 (bl_trans B1.out D4.out) HB4.out).mono ?_
 rintro e w5 ⟨⟨B, Zz, lb, qs, s1, a2, c2, rfl, hBz, hP⟩, c5⟩
 obtain ⟨a1, c1, rfl⟩ := OG.shape hP.g
 have HBz : Hid (w4.heap.size < B) := hBz
 have HP : Hid (Pt w5 B Zz lb t gs' ps qs ps.length (.slice a1 gs'.length c1) a2 c2) := hP
 have C5 : Hid (Below w4.heap.size w4 w5) := c5
 have D5 : Hid (Below W1.heap.size W1 w5) := bl_trans D4.out c5
 have T5 : Hid (w5.there (w.heap.size + 1) 0 3) := there_land (T1.out w5 D5.out)
 clear hBz hP c5
 go_wp2_with (refine wpList_store_mid (by rfl) 34 _ _ (by rfl) (w.heap.size + 1) 0 #[.int .i64 t, .slice a1 gs'.length c1, .slice a2 ps.length c2] (by rfl) (by rfl) (by exact T5.out) hinfo (by simp [Value.oneCell']) ?_)
 have RG := World.rangeAt_setCells_same w5 (w.heap.size + 1) 0 [.int .i64 t, .slice a1 gs'.length c1, .slice a2 ps.length c2] T5.out
 have hx : Ex (w.heap.size + 1) w5 (World.setCells w5 (w.heap.size + 1) 0 [.int .i64 t, .slice a1 gs'.length c1, .slice a2 ps.length c2]) := (Ex.refl _ _).cells _ _
 have BE : Below w.heap.size w (World.setCells w5 (w.heap.size + 1) 0 [.int .i64 t, .slice a1 gs'.length c1, .slice a2 ps.length c2]) := Ex.mono (bl_trans B1.out D5.out) hx (Nat.le_succ _)
 have d0 := RG 0 _ rfl
 have d1 := RG 1 _ rfl
 have d2 := RG 2 _ rfl
 simp only [Nat.zero_add] at d0 d1 d2
 refine bodyPost_ret (v := .tuple #[.agg #[.int .i64 t, .slice a1 gs'.length c1, .slice a2 ps.length c2], .slice (some ⟨g9, 0, none⟩) 1 1, .nilIface]) (by simp [results, Tryz.results31, go_sem, d0, d1, d2]) rfl ⟨?_, BE⟩
 have hs : w.heap.size + 2 ≤ w4.heap.size := by have h1 := D4.out.size; have h2 := Z1.out; omega
 have hBB : w4.heap.size < B := HBz.out
 have h3 := D3.out.size
 have h9 := HG9.out
 have hz2 := Z1.out
 have hr5 : (World.setCells w5 (w.heap.size + 1) 0 [.int .i64 t, .slice a1 gs'.length c1, .slice a2 ps.length c2]).heap[g9]? = some (.cells (arrS x) 41 (0, 0)) := (hx.block g9 (Nat.lt_of_lt_of_le h9.2 C5.out.size) (by omega)).trans ((C5.out.block g9 h9.2).trans HRW.out)
 exact ⟨qs, _, _, _, rfl, HP.out.like, tko_one (pt_ldo (pt_other HP.out hx (by omega))) (by omega) (by omega) hr5 hx0⟩
end Go.Proofs.YtefkdohkjdopeaaGreatDoor
