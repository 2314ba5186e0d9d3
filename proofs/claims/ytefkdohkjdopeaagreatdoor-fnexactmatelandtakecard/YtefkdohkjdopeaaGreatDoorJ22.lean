import Derived.Test.YtefkdohkjdopeaaGreatDoorJ21
namespace Go.Proofs.YtefkdohkjdopeaaGreatDoor
open Go.RowKit Go.Maps Go.WideMaps
set_option linter.unusedVariables false
theorem hinfoG : (Tryz.prog.info? 61).map (·.size) = some 5 := by kernel_rfl
theorem there_newG (y : World) (O : Array Value) (ty : TypeId) {k : Nat} (h : O.size = k) : (y.alloc (.cells O ty)).there y.heap.size 0 k := by
 subst h
 intro j hj
 have h1 := heap_alloc_newL y (.cells O ty)
 generalize y.alloc (.cells O ty) = x at h1 ⊢
 simp [World.cell?, World.frozen?, h1, hj]
def zeroG : G.GrantD := ⟨⟨#[]⟩, ⟨#[]⟩, ⟨#[]⟩, 0, 0⟩
def FoundG (h : ByteArray) (gs : List G.GrantD) (g : G.GrantD) (q : Bool) : Prop := (q = true ∧ g ∈ gs ∧ g.h = h) ∨ (q = false ∧ ∀ r ∈ gs, r.h ≠ h)
theorem foundG (h : ByteArray) (gs : List G.GrantD) (hs : G.Srt gs) (hh : h.size ≤ maxLen) : ∃ g q, FoundG h gs g q ∧ ∀ (y : World) (m n : Nat), y.ownsMap Tryz.prog 9 G.RV m n (G.dec gs) → Sem.run Tryz.prog (Instr.lookup 107 (.map (some m)) (.string h) true) y = .ok (.tuple #[.agg #[.string g.h, .string g.b, .string g.c, .int .i64 g.t, .int .i64 g.u], .bool q]) y := by
 by_cases hx : ∃ r ∈ gs, r.h = h
 ·
  obtain ⟨r, hr, e⟩ := hx
  refine ⟨r, true, Or.inl ⟨rfl, hr, e⟩, fun y m n ho => ?_⟩
  rcases G.lookV m n gs ho hs h hh with ⟨r', hr', e', hrun⟩ | ⟨hno, -⟩
  ·
   rw [srtG_one hs hr hr' (e'.trans e.symm)] at hrun
   exact hrun
  ·
   exact (hno r hr e).elim
 ·
  refine ⟨zeroG, false, Or.inr ⟨rfl, fun r hr e => hx ⟨r, hr, e⟩⟩, fun y m n ho => ?_⟩
  rcases G.lookV m n gs ho hs h hh with ⟨r', hr', e', -⟩ | ⟨-, hrun⟩
  ·
   exact (hx ⟨r', hr', e'⟩).elim
  ·
   exact hrun
def slLk : Nat → Nat
 | 0 => 8
 | 1 => 9
 | 2 => 10
 | 3 => 11
 | 4 => 12
 | 5 => 13
 | 6 => 14
 | 7 => 7
 | 8 => 15
 | 9 => 16
 | 10 => 5
 | 11 => 100011
 | 12 => 6
 | _ => 0
theorem slLk_inj (i : Nat) (hi : i < 13) : ∀ j, j < 13 → slLk j = slLk i → j = i := by
 have h : ∀ a : _root_.Fin 13, ∀ b : _root_.Fin 13, slLk b.1 = slLk a.1 → b.1 = a.1 := by decide +kernel
 intro j hj e
 exact h ⟨i, hi⟩ ⟨j, hj⟩ e
theorem slLk_far : ∀ j, j < 100000 → (j < 5 ∨ 5 + 12 ≤ j) → ∀ i, i < 13 → slLk i ≠ j := by
 intro j h1 h2 i hi
 match i, hi with
 | 0, _ => show 8 ≠ j; omega
 | 1, _ => show 9 ≠ j; omega
 | 2, _ => show 10 ≠ j; omega
 | 3, _ => show 11 ≠ j; omega
 | 4, _ => show 12 ≠ j; omega
 | 5, _ => show 13 ≠ j; omega
 | 6, _ => show 14 ≠ j; omega
 | 7, _ => show 7 ≠ j; omega
 | 8, _ => show 15 ≠ j; omega
 | 9, _ => show 16 ≠ j; omega
 | 10, _ => show 5 ≠ j; omega
 | 11, _ => show 100011 ≠ j; omega
 | 12, _ => show 6 ≠ j; omega
 | m + 13, h => exact absurd h (by omega)
def GLk (d pb m1 : Nat) (h : ByteArray) (g : G.GrantD) (q : Bool) (Z : Nat) (L : Array Bool) (w : World) : Nat → Value → Prop
 | 0, v => v = .pointer (some ⟨d, 0, none⟩)
 | 1, v => v = .pointer (some ⟨d, 0, none⟩)
 | 2, v => v = .pointer (some ⟨d, 1, none⟩)
 | 3, v => v = .map (some m1)
 | 4, v => v = .pointer (some ⟨pb, 4, none⟩)
 | 5, v => v = .string h
 | 6, v => v = .tuple #[.agg #[.string g.h, .string g.b, .string g.c, .int .i64 g.t, .int .i64 g.u], .bool q]
 | 7, v => v = .tuple #[.agg #[.string g.h, .string g.b, .string g.c, .int .i64 g.t, .int .i64 g.u], .bool q]
 | 8, v => v = .agg #[.string g.h, .string g.b, .string g.c, .int .i64 g.t, .int .i64 g.u]
 | 9, v => v = .bool q
 | 10, v => ∃ A, v = .pointer (some ⟨A, 0, none⟩) ∧ Z ≤ A ∧ A < w.heap.size ∧ (L.getD 11 false = false → w.there A 0 5) ∧ (L.getD 11 false = true → w.rangeAt A 0 g.cells)
 | 11, v => True
 | 12, v => v = .bool q
 | _, _ => True
theorem GLk.keep {d pb m1 : Nat} {h : ByteArray} {g : G.GrantD} {q : Bool} {Z : Nat} {L L' : Array Bool} {w : World} (h11 : L'.getD 11 false = L.getD 11 false) : ∀ j v, GLk d pb m1 h g q Z L w j v → GLk d pb m1 h g q Z L' w j v
 | 0, _, h => h
 | 1, _, h => h
 | 2, _, h => h
 | 3, _, h => h
 | 4, _, h => h
 | 5, _, h => h
 | 6, _, h => h
 | 7, _, h => h
 | 8, _, h => h
 | 9, _, h => h
 | 10, _, h => by
  obtain ⟨A, h1, h2, h3, h4, h5⟩ := h
  exact ⟨A, h1, h2, h3, fun e => h4 (by rw [← h11]; exact e), fun e => h5 (by rw [← h11]; exact e)⟩
 | 11, _, h => h
 | 12, _, h => h
 | _ + 13, _, h => h
theorem GLk.keepN {d pb m1 : Nat} {h : ByteArray} {g : G.GrantD} {q : Bool} {Z : Nat} {L L' : Array Bool} {w w' : World}  : ∀ j v, j ≠ 10 → GLk d pb m1 h g q Z L w j v → GLk d pb m1 h g q Z L' w' j v
 | 0, _, h10, h => h
 | 1, _, h10, h => h
 | 2, _, h10, h => h
 | 3, _, h10, h => h
 | 4, _, h10, h => h
 | 5, _, h10, h => h
 | 6, _, h10, h => h
 | 7, _, h10, h => h
 | 8, _, h10, h => h
 | 9, _, h10, h => h
 | 10, _, h10, h => (h10 rfl).elim
 | 11, _, h10, h => h
 | 12, _, h10, h => h
 | _ + 13, _, h10, h => h
set_option maxRecDepth 4000 in
set_option maxHeartbeats 4000000 in
theorem mayGive_any (d m1 m2 : Nat) (t : Int) (p : TakeP) (s : Int) (a : Option Addr) (nw cw : Nat) (gs : List G.GrantD) (rs : List Pr.PlRaw) (w : World) (hB : Book w d t m1 m2 gs rs) (hs : G.Srt gs) (hf : p.fits) :
  Calls Tryz.prog 78 #[.pointer (some ⟨d, 0, none⟩), .agg #[.int .i64 p.k, .string p.b, .int .i64 s, .slice a nw cw, .string p.h, .string p.c, .int .i64 p.t]] w fun e w' => e = .returned (.bool (mayG t p gs)) ∧ Below w.heap.size w w' := by
 obtain ⟨g, q, hgq, hlk⟩ := foundG p.h gs hs hf.h
 obtain ⟨W0, hW0⟩ : ∃ W0, W0 = w.alloc (.cells #[.int .i64 p.k, .string p.b, .int .i64 s, .slice a nw cw, .string p.h, .string p.c, .int .i64 p.t] 41) := ⟨_, rfl⟩
 have HW0 : Hid (W0 = w.alloc (.cells #[.int .i64 p.k, .string p.b, .int .i64 s, .slice a nw cw, .string p.h, .string p.c, .int .i64 p.t] 41)) := hW0
 have B0 : Hid (Below w.heap.size w W0) := by rw [hW0]; exact bl_alloc (Below.refl _ _) _
 obtain ⟨pb, hpb⟩ : ∃ pb, pb = w.heap.size := ⟨_, rfl⟩
 have KP : Hid (∀ y, Below W0.heap.size W0 y → ∀ j, y.cell? ⟨pb, j, none⟩ = (#[.int .i64 p.k, .string p.b, .int .i64 s, .slice a nw cw, .string p.h, .string p.c, .int .i64 p.t] : Array Value)[j]?) := by
  intro y hb j
  rw [hW0] at hb
  rw [hpb, box_keep hb j]
  simp [go_sem]
 have KD : Hid (∀ y, Below W0.heap.size W0 y → y.cell? ⟨d, 1, none⟩ = some (.map (some m1))) := fun y hy => (hB.keep (bl_trans B0.out hy)).c 1
 have LK : Hid (∀ y, Below W0.heap.size W0 y → Sem.run Tryz.prog (Instr.lookup 107 (.map (some m1)) (.string p.h) true) y = .ok (.tuple #[.agg #[.string g.h, .string g.b, .string g.c, .int .i64 g.t, .int .i64 g.u], .bool q]) y) := fun y hy => by
  obtain ⟨n, ho⟩ := (hB.keep (bl_trans B0.out hy)).o1
  exact hlk y m1 n ho
 have IOv : Hid (∀ y, Below W0.heap.size W0 y → Calls Tryz.prog 94 #[.pointer (some ⟨d, 0, none⟩), .agg #[.string g.h, .string g.b, .string g.c, .int .i64 g.t, .int .i64 g.u]] y fun e w' => e = .returned (.bool (overG t g)) ∧ Below y.heap.size y w') := fun y hy => isOver_any d t g y ((hB.keep (bl_trans B0.out hy)).c 0) (hB.keep (bl_trans B0.out hy)).l
 have HM : Hid (mayG t p gs = (!q || (overG t g || mineG p g))) := by
  rcases hgq with ⟨rfl, h1, h2⟩ | ⟨rfl, h1⟩
  ·
   exact may_of hs h1 h2
  ·
   exact may_none h1
 clear hB hs hf hW0 hlk hgq
 go_enter Tryz.func78, Tryz.ntmps78
 go_wp2_with fail
 rw [← HW0.out, ← hpb]
 have HPB : Hid (pb = w.heap.size) := hpb
 clear hpb
 refine wp_region_any (by kernel_rfl) ?_
 refine reg_invG slLk 13 (GLk d pb m1 p.h g q W0.heap.size) (fun _ y => Below W0.heap.size W0 y) (by decide) rfl (bl_drew (Below.refl _ _)) ?done ?step
 case done =>
  intro L a y hL hdf hsz hout hG hD
  obtain ⟨A, hA, hZ, hA2, -, hrow⟩ := hG 10 (by omega)
  have h6 : _ = Value.bool q := hG 12 (by omega)
  have HROW : Hid (y.rangeAt A 0 g.cells) := hrow (hL 11 (by omega))
  have HY : Hid (Below W0.heap.size W0 y) := hD
  have HA2 : Hid (A < y.heap.size) := hA2
  clear hrow hG hD hL
  obtain ⟨l', hl', ha⟩ := frameP_of (lo := 5) (n := 12) hdf hsz (fun j hj => by
   by_cases hj9 : j < 100000
   ·
    exact hout j (fun i hi => slLk_far j hj9 hj i hi)
   ·
    rw [Array.getD_eq_getD_getElem?, Array.getD_eq_getD_getElem?, Array.getElem?_eq_none (Nat.le_trans (Nat.le_of_eq hsz) (Nat.le_trans (Nat.le_of_ble_eq_true rfl) (Nat.le_of_not_lt hj9))), Array.getElem?_eq_none (Nat.le_trans (Nat.le_of_ble_eq_true rfl) (Nat.le_of_not_lt hj9))]) (Nat.le_of_ble_eq_true rfl)
  subst ha
  obtain ⟨u0, ul0, rfl, uh0⟩ := lenP_succ hl'
  obtain ⟨u1, ul1, rfl, uh1⟩ := lenP_succ uh0
  obtain ⟨u2, ul2, rfl, uh2⟩ := lenP_succ uh1
  obtain ⟨u3, ul3, rfl, uh3⟩ := lenP_succ uh2
  obtain ⟨u4, ul4, rfl, uh4⟩ := lenP_succ uh3
  obtain ⟨u5, ul5, rfl, uh5⟩ := lenP_succ uh4
  obtain ⟨u6, ul6, rfl, uh6⟩ := lenP_succ uh5
  obtain ⟨u7, ul7, rfl, uh7⟩ := lenP_succ uh6
  obtain ⟨u8, ul8, rfl, uh8⟩ := lenP_succ uh7
  obtain ⟨u9, ul9, rfl, uh9⟩ := lenP_succ uh8
  obtain ⟨u10, ul10, rfl, uh10⟩ := lenP_succ uh9
  obtain ⟨u11, ul11, rfl, uh11⟩ := lenP_succ uh10
  obtain rfl := lenP_zero uh11
  have hA' : u0 = _ := hA
  have h6' : u1 = _ := h6
  subst hA' h6'
  clear hA h6 hdf hsz hout
  simp only [List.take_succ_cons, List.take_zero, List.drop_succ_cons, List.drop_zero, List.cons_append, List.nil_append, Nat.reduceAdd]
  have c0 : ∀ z, Below y.heap.size y z → z.cell? ⟨A, 0, none⟩ = some (.string g.h) := fun z hz => (hz.cell (p := ⟨A, 0, none⟩) HA2.out).trans (HROW.out 0 _ rfl)
  have c1 : ∀ z, Below y.heap.size y z → z.cell? ⟨A, 1, none⟩ = some (.string g.b) := fun z hz => (hz.cell (p := ⟨A, 1, none⟩) HA2.out).trans (HROW.out 1 _ rfl)
  have c2 : ∀ z, Below y.heap.size y z → z.cell? ⟨A, 2, none⟩ = some (.string g.c) := fun z hz => (hz.cell (p := ⟨A, 2, none⟩) HA2.out).trans (HROW.out 2 _ rfl)
  have c3 : ∀ z, Below y.heap.size y z → z.cell? ⟨A, 3, none⟩ = some (.int .i64 g.t) := fun z hz => (hz.cell (p := ⟨A, 3, none⟩) HA2.out).trans (HROW.out 3 _ rfl)
  have c4 : ∀ z, Below y.heap.size y z → z.cell? ⟨A, 4, none⟩ = some (.int .i64 g.u) := fun z hz => (hz.cell (p := ⟨A, 4, none⟩) HA2.out).trans (HROW.out 4 _ rfl)
  have CA : Hid (∀ z, Below y.heap.size y z → z.cell? ⟨A, 0, none⟩ = some (.string g.h) ∧ z.cell? ⟨A, 1, none⟩ = some (.string g.b) ∧ z.cell? ⟨A, 2, none⟩ = some (.string g.c) ∧ z.cell? ⟨A, 3, none⟩ = some (.int .i64 g.t) ∧ z.cell? ⟨A, 4, none⟩ = some (.int .i64 g.u)) := fun z hz => ⟨c0 z hz, c1 z hz, c2 z hz, c3 z hz, c4 z hz⟩
  clear c0 c1 c2 c3 c4
  cases q
  ·
   go_wp2
   go_ret
   exact ⟨by rw [HM.out]; rfl, bl_trans B0.out HY.out⟩
  ·
   obtain ⟨k0, k1, k2, k3, k4⟩ := CA.out y (Below.refl _ _)
   go_wp2_with fail
   clear k0 k1 k2 k3 k4
   refine (IOv.out y HY.out).mono ?_
   rintro e y2 ⟨rfl, hb2⟩
   have HB2 : Hid (Below y.heap.size y y2) := hb2
   clear hb2
   cases hov : overG t g
   ·
    have p1 : y2.cell? ⟨pb, 1, none⟩ = some (.string p.b) := KP.out y2 (bl_trans HY.out HB2.out) 1
    have p5 : y2.cell? ⟨pb, 5, none⟩ = some (.string p.c) := KP.out y2 (bl_trans HY.out HB2.out) 5
    have p6 : y2.cell? ⟨pb, 6, none⟩ = some (.int .i64 p.t) := KP.out y2 (bl_trans HY.out HB2.out) 6
    obtain ⟨k0, k1, k2, k3, k4⟩ := CA.out y2 HB2.out
    cases q1 : (g.b.toList == p.b.toList)
    ·
     have HE : Hid (mayG t p gs = false) := by show _ = _; rw [HM.out, hov]; unfold mineG eqT; rw [q1]; rfl
     go_wp2
     go_ret
     exact ⟨by rw [HE.out]; rfl, bl_trans B0.out (bl_trans HY.out HB2.out)⟩
    ·
     cases q2 : (g.c.toList == p.c.toList)
     ·
      have HE : Hid (mayG t p gs = false) := by show _ = _; rw [HM.out, hov]; unfold mineG eqT; rw [q1, q2]; rfl
      go_wp2
      go_ret
      exact ⟨by rw [HE.out]; rfl, bl_trans B0.out (bl_trans HY.out HB2.out)⟩
     ·
      have HE : Hid (mayG t p gs = decide (g.t ≤ p.t)) := by show _ = _; rw [HM.out, hov]; unfold mineG eqT; rw [q1, q2]; rfl
      go_wp2
      go_ret
      exact ⟨by rw [HE.out]; rfl, bl_trans B0.out (bl_trans HY.out HB2.out)⟩
   ·
    have HE : Hid (mayG t p gs = true) := by show _ = _; rw [HM.out, hov]; rfl
    go_wp2
    go_ret
    exact ⟨by rw [HE.out]; rfl, bl_trans B0.out (bl_trans HY.out HB2.out)⟩
 case step =>
  intro listed x y i hI hi hlt
  obtain rfl | rfl | rfl | rfl | rfl | rfl | rfl | rfl | rfl | rfl | rfl | rfl | rfl : i = 0 ∨ i = 1 ∨ i = 2 ∨ i = 3 ∨ i = 4 ∨ i = 5 ∨ i = 6 ∨ i = 7 ∨ i = 8 ∨ i = 9 ∨ i = 10 ∨ i = 11 ∨ i = 12 := by omega
  ·
   have e1 : x.tmps[0]?.getD undef = .pointer (some ⟨d, 0, none⟩) := ev_tmp (hI.out 0 (fun i hi => slLk_far 0 (by omega) (by omega) i hi))
   have ho := ready_open hi
   have HLZ : Hid (listed.size = 13) := hI.lz
   have HD : Hid (Below W0.heap.size W0 y) := hI.d
   have HJ : Hid (Ig _ _ _ _ _ _ _ _ _) := hI
   have HI : Hid (_ ∈ Region.ready _ _ _) := hi
   have HO : Hid (_ = false) := ho
   clear hi hI ho
   refine wpOp_plain rfl rfl ?_
   refine wp_cover (fun K hK => ?_)
   go_simp
   exact hK.out _ _ (HJ.out.put HI.out (by omega) (Nat.le_of_ble_eq_true rfl) (slLk_inj _ (by omega)) (rfl) (fun j u _ _ _ _ h => GLk.keep (setT_ne (by decide)) j u h) (HD.out))
  ·
   have gf0 : GLk d pb m1 p.h g q W0.heap.size listed y 0 (x.tmps.getD 8 undef) := hI.good 0 (by omega) (waits_of hi (by rfl))
   have e1 : x.tmps[8]?.getD undef = .pointer (some ⟨d, 0, none⟩) := ev_tmp gf0
   have ho := ready_open hi
   have HLZ : Hid (listed.size = 13) := hI.lz
   have HD : Hid (Below W0.heap.size W0 y) := hI.d
   have HJ : Hid (Ig _ _ _ _ _ _ _ _ _) := hI
   have HI : Hid (_ ∈ Region.ready _ _ _) := hi
   have HO : Hid (_ = false) := ho
   clear hi hI ho
   refine wpOp_plain rfl rfl ?_
   refine wp_cover (fun K hK => ?_)
   go_simp
   exact hK.out _ _ (HJ.out.put HI.out (by omega) (Nat.le_of_ble_eq_true rfl) (slLk_inj _ (by omega)) (rfl) (fun j u _ _ _ _ h => GLk.keep (setT_ne (by decide)) j u h) (HD.out))
  ·
   have gf1 : GLk d pb m1 p.h g q W0.heap.size listed y 1 (x.tmps.getD 9 undef) := hI.good 1 (by omega) (waits_of hi (by rfl))
   have e1 : x.tmps[9]?.getD undef = .pointer (some ⟨d, 0, none⟩) := ev_tmp gf1
   have ho := ready_open hi
   have HLZ : Hid (listed.size = 13) := hI.lz
   have HD : Hid (Below W0.heap.size W0 y) := hI.d
   have HJ : Hid (Ig _ _ _ _ _ _ _ _ _) := hI
   have HI : Hid (_ ∈ Region.ready _ _ _) := hi
   have HO : Hid (_ = false) := ho
   clear hi hI ho
   refine wpOp_plain rfl rfl ?_
   refine wp_cover (fun K hK => ?_)
   go_simp
   exact hK.out _ _ (HJ.out.put HI.out (by omega) (Nat.le_of_ble_eq_true rfl) (slLk_inj _ (by omega)) (rfl) (fun j u _ _ _ _ h => GLk.keep (setT_ne (by decide)) j u h) (HD.out))
  ·
   have gf2 : GLk d pb m1 p.h g q W0.heap.size listed y 2 (x.tmps.getD 10 undef) := hI.good 2 (by omega) (waits_of hi (by rfl))
   have e1 : x.tmps[10]?.getD undef = .pointer (some ⟨d, 1, none⟩) := ev_tmp gf2
   have k1 : y.cell? ⟨d, 1, none⟩ = some (.map (some m1)) := KD.out y hI.d
   have ho := ready_open hi
   have HLZ : Hid (listed.size = 13) := hI.lz
   have HD : Hid (Below W0.heap.size W0 y) := hI.d
   have HJ : Hid (Ig _ _ _ _ _ _ _ _ _) := hI
   have HI : Hid (_ ∈ Region.ready _ _ _) := hi
   have HO : Hid (_ = false) := ho
   clear hi hI ho
   refine wpOp_plain rfl rfl ?_
   refine wp_cover (fun K hK => ?_)
   go_simp
   exact hK.out _ _ (HJ.out.put HI.out (by omega) (Nat.le_of_ble_eq_true rfl) (slLk_inj _ (by omega)) (rfl) (fun j u _ _ _ _ h => GLk.keep (setT_ne (by decide)) j u h) (HD.out))
  ·
   have e1 : x.tmps[3]?.getD undef = .pointer (some ⟨pb, 0, none⟩) := ev_tmp (hI.out 3 (fun i hi => slLk_far 3 (by omega) (by omega) i hi))
   have ho := ready_open hi
   have HLZ : Hid (listed.size = 13) := hI.lz
   have HD : Hid (Below W0.heap.size W0 y) := hI.d
   have HJ : Hid (Ig _ _ _ _ _ _ _ _ _) := hI
   have HI : Hid (_ ∈ Region.ready _ _ _) := hi
   have HO : Hid (_ = false) := ho
   clear hi hI ho
   refine wpOp_plain rfl rfl ?_
   refine wp_cover (fun K hK => ?_)
   go_simp
   exact hK.out _ _ (HJ.out.put HI.out (by omega) (Nat.le_of_ble_eq_true rfl) (slLk_inj _ (by omega)) (rfl) (fun j u _ _ _ _ h => GLk.keep (setT_ne (by decide)) j u h) (HD.out))
  ·
   have gf4 : GLk d pb m1 p.h g q W0.heap.size listed y 4 (x.tmps.getD 12 undef) := hI.good 4 (by omega) (waits_of hi (by rfl))
   have e1 : x.tmps[12]?.getD undef = .pointer (some ⟨pb, 4, none⟩) := ev_tmp gf4
   have k1 : y.cell? ⟨pb, 4, none⟩ = some (.string p.h) := KP.out y hI.d 4
   have ho := ready_open hi
   have HLZ : Hid (listed.size = 13) := hI.lz
   have HD : Hid (Below W0.heap.size W0 y) := hI.d
   have HJ : Hid (Ig _ _ _ _ _ _ _ _ _) := hI
   have HI : Hid (_ ∈ Region.ready _ _ _) := hi
   have HO : Hid (_ = false) := ho
   clear hi hI ho
   refine wpOp_plain rfl rfl ?_
   refine wp_cover (fun K hK => ?_)
   go_simp
   exact hK.out _ _ (HJ.out.put HI.out (by omega) (Nat.le_of_ble_eq_true rfl) (slLk_inj _ (by omega)) (rfl) (fun j u _ _ _ _ h => GLk.keep (setT_ne (by decide)) j u h) (HD.out))
  ·
   have gf3 : GLk d pb m1 p.h g q W0.heap.size listed y 3 (x.tmps.getD 11 undef) := hI.good 3 (by omega) (waits_of hi (by rfl))
   have e1 : x.tmps[11]?.getD undef = .map (some m1) := ev_tmp gf3
   have gf5 : GLk d pb m1 p.h g q W0.heap.size listed y 5 (x.tmps.getD 13 undef) := hI.good 5 (by omega) (waits_of hi (by rfl))
   have e2 : x.tmps[13]?.getD undef = .string p.h := ev_tmp gf5
   have k1 := LK.out y hI.d
   have ho := ready_open hi
   have HLZ : Hid (listed.size = 13) := hI.lz
   have HD : Hid (Below W0.heap.size W0 y) := hI.d
   have HJ : Hid (Ig _ _ _ _ _ _ _ _ _) := hI
   have HI : Hid (_ ∈ Region.ready _ _ _) := hi
   have HO : Hid (_ = false) := ho
   clear hi hI ho
   refine wpOp_plain rfl rfl ?_
   refine wp_cover (fun K hK => ?_)
   go_simp
   exact hK.out _ _ (HJ.out.put HI.out (by omega) (Nat.le_of_ble_eq_true rfl) (slLk_inj _ (by omega)) (rfl) (fun j u _ _ _ _ h => GLk.keep (setT_ne (by decide)) j u h) (HD.out))
  ·
   have gf6 : GLk d pb m1 p.h g q W0.heap.size listed y 6 (x.tmps.getD 14 undef) := hI.good 6 (by omega) (waits_of hi (by rfl))
   have e1 : x.tmps[14]?.getD undef = .tuple #[.agg #[.string g.h, .string g.b, .string g.c, .int .i64 g.t, .int .i64 g.u], .bool q] := ev_tmp gf6
   have ho := ready_open hi
   have HLZ : Hid (listed.size = 13) := hI.lz
   have HD : Hid (Below W0.heap.size W0 y) := hI.d
   have HJ : Hid (Ig _ _ _ _ _ _ _ _ _) := hI
   have HI : Hid (_ ∈ Region.ready _ _ _) := hi
   have HO : Hid (_ = false) := ho
   clear hi hI ho
   refine wpOp_plain rfl rfl ?_
   refine wp_cover (fun K hK => ?_)
   go_simp
   exact hK.out _ _ (HJ.out.put HI.out (by omega) (Nat.le_of_ble_eq_true rfl) (slLk_inj _ (by omega)) (rfl) (fun j u _ _ _ _ h => GLk.keep (setT_ne (by decide)) j u h) (HD.out))
  ·
   have gf7 : GLk d pb m1 p.h g q W0.heap.size listed y 7 (x.tmps.getD 7 undef) := hI.good 7 (by omega) (waits_of hi (by rfl))
   have e1 : x.tmps[7]?.getD undef = .tuple #[.agg #[.string g.h, .string g.b, .string g.c, .int .i64 g.t, .int .i64 g.u], .bool q] := ev_tmp gf7
   have ho := ready_open hi
   have HLZ : Hid (listed.size = 13) := hI.lz
   have HD : Hid (Below W0.heap.size W0 y) := hI.d
   have HJ : Hid (Ig _ _ _ _ _ _ _ _ _) := hI
   have HI : Hid (_ ∈ Region.ready _ _ _) := hi
   have HO : Hid (_ = false) := ho
   clear hi hI ho
   refine wpOp_plain rfl rfl ?_
   refine wp_cover (fun K hK => ?_)
   go_simp
   exact hK.out _ _ (HJ.out.put HI.out (by omega) (Nat.le_of_ble_eq_true rfl) (slLk_inj _ (by omega)) (rfl) (fun j u _ _ _ _ h => GLk.keep (setT_ne (by decide)) j u h) (HD.out))
  ·
   have gf7 : GLk d pb m1 p.h g q W0.heap.size listed y 7 (x.tmps.getD 7 undef) := hI.good 7 (by omega) (waits_of hi (by rfl))
   have e1 : x.tmps[7]?.getD undef = .tuple #[.agg #[.string g.h, .string g.b, .string g.c, .int .i64 g.t, .int .i64 g.u], .bool q] := ev_tmp gf7
   have ho := ready_open hi
   have HLZ : Hid (listed.size = 13) := hI.lz
   have HD : Hid (Below W0.heap.size W0 y) := hI.d
   have HJ : Hid (Ig _ _ _ _ _ _ _ _ _) := hI
   have HI : Hid (_ ∈ Region.ready _ _ _) := hi
   have HO : Hid (_ = false) := ho
   clear hi hI ho
   refine wpOp_plain rfl rfl ?_
   refine wp_cover (fun K hK => ?_)
   go_simp
   exact hK.out _ _ (HJ.out.put HI.out (by omega) (Nat.le_of_ble_eq_true rfl) (slLk_inj _ (by omega)) (rfl) (fun j u _ _ _ _ h => GLk.keep (setT_ne (by decide)) j u h) (HD.out))
  ·
   have ho := ready_open hi
   have HLZ : Hid (listed.size = 13) := hI.lz
   have HD : Hid (Below W0.heap.size W0 y) := hI.d
   have h11 : listed.getD 11 false = false := hI.shut ho (by rfl)
   have HJ : Hid (Ig _ _ _ _ _ _ _ _ _) := hI
   have HI : Hid (_ ∈ Region.ready _ _ _) := hi
   have HO : Hid (_ = false) := ho
   clear hi hI ho
   refine wpOp_plain rfl rfl ?_
   refine wp_cover (fun K hK => ?_)
   go_simp
   have hbl : Below y.heap.size y (y.alloc (.cells #[.string ⟨#[]⟩, .string ⟨#[]⟩, .string ⟨#[]⟩, .int .i64 0, .int .i64 0] 61)) := bl_alloc (Below.refl _ _) _
   exact hK.out _ _ (HJ.out.put HI.out (by omega) (Nat.le_of_ble_eq_true rfl) (slLk_inj _ (by omega)) (⟨y.heap.size, rfl, HD.out.size, by simp, fun _ => there_newG y _ _ (by rfl), fun e => by rw [setT_ne (by decide), h11] at e; cases e⟩) (fun j u _ _ hne _ h => GLk.keepN j u hne h) (bl_trans HD.out hbl))
  ·
   have gf8 : GLk d pb m1 p.h g q W0.heap.size listed y 8 (x.tmps.getD 15 undef) := hI.good 8 (by omega) (waits_of hi (by rfl))
   have gf10 : GLk d pb m1 p.h g q W0.heap.size listed y 10 (x.tmps.getD 5 undef) := hI.good 10 (by omega) (waits_of hi (by rfl))
   have ho := ready_open hi
   have HLZ : Hid (listed.size = 13) := hI.lz
   have HD : Hid (Below W0.heap.size W0 y) := hI.d
   have h11 : listed.getD 11 false = false := noT (fun h => openT ho h)
   obtain ⟨A, hA, hZ, hA2, hth, -⟩ := gf10
   have hT : Hid (y.there A 0 5) := hth h11
   have hz9 : 11 < listed.size := by rw [hI.lz]; omega
   clear hth
   have HJ : Hid (Ig _ _ _ _ _ _ _ _ _) := hI
   have HI : Hid (_ ∈ Region.ready _ _ _) := hi
   have HO : Hid (_ = false) := ho
   clear hi hI ho
   refine wpOp_plain rfl rfl ?_
   refine wp_cover (fun K hK => ?_)
   refine wp_store_mid 61 _ _ rfl A 0 #[.string g.h, .string g.b, .string g.c, .int .i64 g.t, .int .i64 g.u] hA gf8 hT.out hinfoG (by simp [Value.oneCell']) ?_
   have hx : Ex A y (y.setCells A 0 [.string g.h, .string g.b, .string g.c, .int .i64 g.t, .int .i64 g.u]) := (Ex.refl _ _).cells _ _
   have hrg : (y.setCells A 0 [.string g.h, .string g.b, .string g.c, .int .i64 g.t, .int .i64 g.u]).rangeAt A 0 g.cells := World.rangeAt_setCells_same y A 0 _ hT.out
   exact hK.out _ _ (HJ.out.nil HI.out (by omega) (fun _ => trivial) (fun j u hu hj hne hl h => by
    by_cases e10 : j = 10
    ·
     subst e10
     exact ⟨A, hu.trans hA, hZ, Nat.lt_of_lt_of_le hA2 hx.size, (fun e => by rw [setT_same hz9] at e; cases e), fun _ => hrg⟩
    ·
     exact GLk.keepN j u e10 h) (Ex.mono HD.out hx hZ) undef)
  ·
   have gf9 : GLk d pb m1 p.h g q W0.heap.size listed y 9 (x.tmps.getD 16 undef) := hI.good 9 (by omega) (waits_of hi (by rfl))
   have e1 : x.tmps[16]?.getD undef = .bool q := ev_tmp gf9
   have ho := ready_open hi
   have HLZ : Hid (listed.size = 13) := hI.lz
   have HD : Hid (Below W0.heap.size W0 y) := hI.d
   have HJ : Hid (Ig _ _ _ _ _ _ _ _ _) := hI
   have HI : Hid (_ ∈ Region.ready _ _ _) := hi
   have HO : Hid (_ = false) := ho
   clear hi hI ho
   refine wpOp_plain rfl rfl ?_
   refine wp_cover (fun K hK => ?_)
   go_simp
   exact hK.out _ _ (HJ.out.put HI.out (by omega) (Nat.le_of_ble_eq_true rfl) (slLk_inj _ (by omega)) (rfl) (fun j u _ _ _ _ h => GLk.keep (setT_ne (by decide)) j u h) (HD.out))
end Go.Proofs.YtefkdohkjdopeaaGreatDoor
