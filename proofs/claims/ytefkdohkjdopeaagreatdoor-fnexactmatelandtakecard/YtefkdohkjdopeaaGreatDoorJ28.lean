import Derived.Test.YtefkdohkjdopeaaGreatDoorJ27
import Derived.Test.YtefkdohkjdopeaaGreatDoorJ20
namespace Go.Proofs.YtefkdohkjdopeaaGreatDoor
open Go.RowKit Go.Maps Go.WideMaps
set_option linter.unusedVariables false
theorem takeF_cases (t : Int) (gs : List G.GrantD) (ps : List P.PlaceD) (p : TakeP) : takeF t gs ps p = (gs, []) ∨ ∃ x : SaysC, (takeF t gs ps p).2 = [x] ∧ x.2.2.2.1 = [] := by
 unfold takeF
 split
 ·
  split
  ·
   split
   ·
    exact Or.inr ⟨_, rfl, rfl⟩
   ·
    exact Or.inl rfl
  ·
   split
   ·
    exact Or.inr ⟨_, rfl, rfl⟩
   ·
    exact Or.inl rfl
 ·
  exact Or.inl rfl
theorem takeF_srt {t : Int} {gs : List G.GrantD} {ps : List P.PlaceD} {p : TakeP} (hs : G.Srt gs) : G.Srt (takeF t gs ps p).1 := by
 unfold takeF
 split
 ·
  split
  ·
   split
   ·
    exact Ord.insS_srt G.keyV _ _ (left_srt hs)
   ·
    exact hs
  ·
   split
   ·
    exact List.Pairwise.filter _ hs
   ·
    exact hs
 ·
  exact hs
theorem takeF_mem {t : Int} {gs : List G.GrantD} {ps : List P.PlaceD} {p : TakeP} : ∀ g ∈ (takeF t gs ps p).1, g = newG t p ∨ g ∈ gs := by
 unfold takeF
 split
 ·
  split
  ·
   split
   ·
    intro g hg
    rcases Ord.insS_mem G.keyV _ _ g hg with h | h
    ·
     exact Or.inl h
    ·
     exact Or.inr (left_mem g h)
   ·
    exact fun g hg => Or.inr hg
  ·
   split
   ·
    exact fun g hg => Or.inr (List.mem_filter.1 hg).1
   ·
    exact fun g hg => Or.inr hg
 ·
  exact fun g hg => Or.inr hg
theorem takeF_len {t : Int} {gs : List G.GrantD} {ps : List P.PlaceD} {p : TakeP} : (takeF t gs ps p).1.length ≤ gs.length + 1 := by
 unfold takeF
 split
 ·
  split
  ·
   split
   ·
    exact Nat.le_trans (Ord.insS_len G.keyV _ _) (Nat.succ_le_succ left_len)
   ·
    exact Nat.le_succ _
  ·
   split
   ·
    exact Nat.le_trans (List.length_filter_le ..) (Nat.le_succ _)
   ·
    exact Nat.le_succ _
 ·
  exact Nat.le_succ _
def ErrZ (w : World) (n : Nat) : Prop := ErrAt w n ∧ n < w.heap.size
theorem ErrZ.keep {w w' : World} {n : Nat} (h : ErrZ w n) (hb : Below w.heap.size w w') : ErrZ w' n := by
 obtain ⟨⟨te, pe, hc⟩, hz⟩ := h
 exact ⟨⟨te, pe, (hb.cell (p := ⟨n, 0, none⟩) hz).trans hc⟩, Nat.lt_of_lt_of_le hz hb.size⟩
theorem ErrZ.grown {w y z : World} {n m : Nat} (h : ErrZ w n) (hb : Below w.heap.size w y) (hm : w.heap.size ≤ m) (hg : y.grownBy z (some m)) : ErrAt z n := by
 obtain ⟨⟨te, pe, hc⟩, hz⟩ := h.keep hb
 have h2 := h.2
 exact ⟨te, pe, grown_cell hg hz (by omega) hc⟩
structure Er6 (w : World) : Prop where
 e0 : ErrZ w 0
 e1 : ErrZ w 1
 e2 : ErrZ w 2
 e3 : ErrZ w 3
 e4 : ErrZ w 4
 e5 : ErrZ w 5
theorem Er6.keep {w w' : World} (h : Er6 w) (hb : Below w.heap.size w w') : Er6 w' := ⟨h.e0.keep hb, h.e1.keep hb, h.e2.keep hb, h.e3.keep hb, h.e4.keep hb, h.e5.keep hb⟩
theorem change_take (hK1 : G.KeysSay) (hS1 : G.SortedSay) (hK2 : Pr.KeysSay) (hS2 : Pr.SortedSay) (t : Int) (gs : List G.GrantD) (ps : List P.PlaceD) (b1 b2 : Nat) (p : TakeP) (s : Int) (a : Option Addr) (nw cw : Nat) (w : World) (hA : P.LandAt w gs ps b1 b2) (hF : P.Fit gs ps) (hf : p.fits) (qb : Nat) (zq : qb < w.heap.size) (hc : ∀ j, w.cell? ⟨qb, j, none⟩ = (#[.int .i64 p.k, .string p.b, .int .i64 s, .slice a nw cw, .string p.h, .string p.c, .int .i64 p.t] : Array Value)[j]?) (hE : Er6 w) :
  Calls Tryz.prog 31 #[.agg #[.int .i64 t, .slice (some ⟨b1, 0, none⟩) gs.length gs.length, .slice (some ⟨b2, 0, none⟩) ps.length ps.length], .func (.func 32) #[] #[.pointer (some ⟨qb, 0, none⟩)]] w fun e w' => (∃ t' gs' qs ds s1 s2 v er, e = .returned (.tuple #[.agg #[.int .i64 t', s1, s2], v, er]) ∧ TakeLSay t gs ps p t' gs' qs ds ∧ TkO w' w.heap.size gs' qs ds s1 s2 v) ∧ Below w.heap.size w w' := by
 by_cases hok : P.LandSay t gs ps
 ·
  have hsg : G.Srt gs := G.srt_asc hok.2.1.2.1
  have hsp : Ord.Srt keyP ps := srtP hok.2.2.1.2.1
  have htm : 0 ≤ t ∧ t ≤ 2000000 := by
   have h := hok.1
   unfold P.timeB inB at h
   simp only [Bool.and_eq_true, decide_eq_true_eq] at h
   exact h.1
  have TA : ∀ y d m1 m2, Below w.heap.size w y → w.heap.size + 2 ≤ d → w.heap.size + 2 ≤ m1 → d ≠ m1 → Book y d t m1 m2 gs (ps.map Pr.raw) → (∃ n, n ≤ 1048576 ∧ y.ownsMap Tryz.prog 9 G.RV m1 n (G.dec gs)) → Calls Tryz.prog 32 #[.pointer (some ⟨d, 0, none⟩), .pointer (some ⟨qb, 0, none⟩)] y fun e w' => ∃ v er, e = .returned (.tuple #[v, er]) ∧ TakeEnds t p gs ps y w' d m1 m2 v er ∧ y.grownBy w' (some m1) := by
   rintro y d m1 m2 hy hd hm hdm hB ⟨n, hn, hown⟩
   refine work_take d qb p s a nw cw y (fun v er w' => TakeEnds t p gs ps y w' d m1 m2 v er ∧ y.grownBy w' (some m1)) (fun j => (hy.cell (p := ⟨qb, j, none⟩) zq).trans (hc j)) ?_
   refine (take_any d m1 m2 n t p s a nw cw gs ps y hB hn hown hdm hsg hF.gl (fun r hr => (hF.g r hr).1) hsp (fun q hq => src_blk ((hA.k q hq).keep hy)) (fun q hq => hF.ln q hq) hf htm (fun z hz => hE.e1.grown hy (by omega) hz) (fun z hz => hE.e2.grown hy (by omega) hz) (fun z hz => hE.e3.grown hy (by omega) hz) (fun z hz => hE.e4.grown hy (by omega) hz) (fun z hz => hE.e5.grown hy (by omega) hz)).mono ?_
   rintro e w' ⟨⟨v, er, rfl, h1⟩, h2⟩
   exact ⟨v, er, rfl, h1, h2⟩
  rcases takeF_cases t gs ps p with hnone | ⟨x, hx, hx0⟩
  ·
   refine (change_terr hK1 hS1 hK2 hS2 t gs ps b1 b2 w _ hA hF hok qb ?_ rfl).mono ?_
   ·
    intro y d m1 m2 hy hd hm hdm hB hnb
    refine (TA y d m1 m2 hy hd hm hdm hB hnb).mono ?_
    rintro e w' ⟨v, er, rfl, hends, hg⟩
    refine ⟨?_, Off.of_grown hg (fun j hj => (Option.some.inj hj).symm)⟩
    rcases hends with ⟨-, g9, x, hx, -⟩ | ⟨-, rfl, te, pe, rfl⟩
    ·
     rw [hnone] at hx
     cases hx
    ·
     exact ⟨te, pe, rfl⟩
   ·
    rintro e w' ⟨⟨qs, s1, s2, te, pe, rfl, hl, hL⟩, hbl⟩
    exact ⟨⟨t, gs, qs, [], s1, s2, _, _, rfl, Or.inr ⟨hok, rfl, hl, by rw [hnone], by rw [hnone]; rfl⟩, tko_none hL⟩, hbl⟩
  ·
   refine (change_tgo hK1 hS1 hK2 hS2 t gs ps b1 b2 w _ hA hF hok qb (takeF t gs ps p).1 x hx0 ?_ ?_ rfl).mono ?_
   ·
    intro y d m1 m2 hy hB
    refine told_any hK1 hS1 hK2 hS2 d m1 m2 t _ ps _ rfl y hB (takeF_srt hsg) (srtP_raw hsp) (fun r hr => ?_) (fun r hr => by obtain ⟨p, hp, rfl⟩ := List.mem_map.1 hr; exact (hF.p p hp).1) ?_ (by rw [List.length_map]; exact hF.pl) (fun q hq => ⟨src_blk ((hA.k q hq).keep hy), hF.ln q hq⟩)
    ·
     rcases takeF_mem r hr with rfl | h
     ·
      exact hf.h
     ·
      exact (hF.g r h).1
    ·
     have h1 := takeF_len (t := t) (gs := gs) (ps := ps) (p := p)
     have h2 : gs.length ≤ 40 := hok.2.1.1
     omega
   ·
    intro y d m1 m2 hy hd hm hdm hB hnb
    refine (TA y d m1 m2 hy hd hm hdm hB hnb).mono ?_
    rintro e w' ⟨v, er, rfl, hends, hg⟩
    rcases hends with ⟨rfl, g9, x', hx', -, rfl, h9, hrow, hbk⟩ | ⟨hnone, -⟩
    ·
     rw [hx] at hx'
     cases hx'
     exact ⟨⟨g9, rfl, h9, hrow⟩, hbk, Off.of_grown hg (fun j hj => (Option.some.inj hj).symm)⟩
    ·
     rw [hnone] at hx
     cases hx
   ·
    rintro e w' ⟨⟨qs, s1, s2, v, rfl, hl, hT⟩, hbl⟩
    exact ⟨⟨t, _, qs, _, s1, s2, v, _, rfl, Or.inr ⟨hok, rfl, hl, rfl, by rw [hx]; show [_] = [_]; rw [pcOf_says hx0]⟩, hT⟩, hbl⟩
 ·
  obtain ⟨⟨te, pe, hcell⟩, hz⟩ := hE.e0
  refine (change_tno t gs ps b1 b2 w _ hA hF hok _ hcell hz ⟨te, pe, rfl⟩).mono ?_
  rintro e w' ⟨rfl, hbl⟩
  exact ⟨⟨0, [], [], [], _, _, _, _, rfl, Or.inl ⟨hok, rfl, rfl, rfl, rfl⟩, tko_none (LdO.nil _ _)⟩, hbl⟩
set_option maxRecDepth 4000 in
set_option maxHeartbeats 4000000 in
theorem implLandTake (hK1 : G.KeysSay) (hS1 : G.SortedSay) (hK2 : Pr.KeysSay) (hS2 : Pr.SortedSay) (t : Int) (gs : List G.GrantD) (ps : List P.PlaceD) (b1 b2 : Nat) (p : TakeP) (s : Int) (a : Option Addr) (nw cw : Nat) (w : World) (hA : P.LandAt w gs ps b1 b2) (hF : P.Fit gs ps) (hf : p.fits) (hE : Er6 w) :
  Calls Tryz.prog 9 #[.agg #[.int .i64 t, .slice (some ⟨b1, 0, none⟩) gs.length gs.length, .slice (some ⟨b2, 0, none⟩) ps.length ps.length], .agg #[.int .i64 p.k, .string p.b, .int .i64 s, .slice a nw cw, .string p.h, .string p.c, .int .i64 p.t]] w fun e w' => (∃ t' gs' qs ds s1 s2 v, e = .returned (.tuple #[.agg #[.int .i64 t', s1, s2], v]) ∧ TakeLSay t gs ps p t' gs' qs ds ∧ TkO w' w.heap.size gs' qs ds s1 s2 v) ∧ Below w.heap.size w w' := by
 have hinfo : (Tryz.prog.info? 34).map (·.size) = some 3 := by kernel_rfl
 obtain ⟨W1, hW1⟩ : ∃ W1, W1 = ((w.alloc (.cells #[.int .i64 t, .slice (some ⟨b1, 0, none⟩) gs.length gs.length, .slice (some ⟨b2, 0, none⟩) ps.length ps.length] 34)).alloc (.cells #[.int .i64 p.k, .string p.b, .int .i64 s, .slice a nw cw, .string p.h, .string p.c, .int .i64 p.t] 41)).alloc (.cells #[.int .i64 0, .slice none 0 0, .slice none 0 0] 34) := ⟨_, rfl⟩
 have HW1 : Hid (W1 = ((w.alloc (.cells #[.int .i64 t, .slice (some ⟨b1, 0, none⟩) gs.length gs.length, .slice (some ⟨b2, 0, none⟩) ps.length ps.length] 34)).alloc (.cells #[.int .i64 p.k, .string p.b, .int .i64 s, .slice a nw cw, .string p.h, .string p.c, .int .i64 p.t] 41)).alloc (.cells #[.int .i64 0, .slice none 0 0, .slice none 0 0] 34)) := hW1
 have B1 : Hid (Below w.heap.size w W1) := by rw [hW1]; exact bl_alloc (bl_alloc (bl_alloc (Below.refl _ _) _) _) _
 have Z1 : Hid (W1.heap.size = w.heap.size + 3) := by rw [hW1]; show _ = _; simp
 have T1 : Hid (∀ y, Below W1.heap.size W1 y → y.there (w.heap.size + 1 + 1) 0 3) := by
  intro y hy
  refine there_land ((hy.block _ (by have := Z1.out; omega)).trans ?_)
  rw [hW1]
  have h := heap_alloc_newL ((w.alloc (.cells #[.int .i64 t, .slice (some ⟨b1, 0, none⟩) gs.length gs.length, .slice (some ⟨b2, 0, none⟩) ps.length ps.length] 34)).alloc (.cells #[.int .i64 p.k, .string p.b, .int .i64 s, .slice a nw cw, .string p.h, .string p.c, .int .i64 p.t] 41)) (.cells #[.int .i64 0, .slice none 0 0, .slice none 0 0] 34)
  simp only [World.size_alloc] at h
  exact h
 have KQ : Hid (∀ j, W1.cell? ⟨w.heap.size + 1, j, none⟩ = (#[.int .i64 p.k, .string p.b, .int .i64 s, .slice a nw cw, .string p.h, .string p.c, .int .i64 p.t] : Array Value)[j]?) := by
  intro j
  rw [hW1]
  simp [go_sem, World.cell?_alloc_past]
 have CH : Hid (Calls Tryz.prog 31 #[.agg #[.int .i64 t, .slice (some ⟨b1, 0, none⟩) gs.length gs.length, .slice (some ⟨b2, 0, none⟩) ps.length ps.length], .func (.func 32) #[] #[.pointer (some ⟨w.heap.size + 1, 0, none⟩)]] W1 fun e w' => (∃ t' gs' qs ds s1 s2 v er, e = .returned (.tuple #[.agg #[.int .i64 t', s1, s2], v, er]) ∧ TakeLSay t gs ps p t' gs' qs ds ∧ TkO w' W1.heap.size gs' qs ds s1 s2 v) ∧ Below W1.heap.size W1 w') := change_take hK1 hS1 hK2 hS2 t gs ps b1 b2 p s a nw cw W1 (hA.keep B1.out) hF hf (w.heap.size + 1) (by have := Z1.out; omega) KQ.out (hE.keep B1.out)
 clear hK1 hS1 hK2 hS2 hA hF hE hW1 hf KQ
 go_enter Tryz.func9, Tryz.ntmps9
 go_wp2_with fail
 rw [← HW1.out]
 refine CH.out.mono ?_
 rintro e w2 ⟨⟨t', gs', qs, ds, s1, s2, v, er, rfl, hS, hT⟩, c2⟩
 obtain ⟨a1, p1, rfl⟩ := G.Sl.shape hT.l.g
 obtain ⟨a2, p2, hs2⟩ := Pr.Sl.shape hT.l.p.o
 rw [List.length_map] at hs2
 subst hs2
 have HS : Hid (TakeLSay t gs ps p t' gs' qs ds) := hS
 have HT : Hid (TkO w2 W1.heap.size gs' qs ds (.slice a1 gs'.length p1) (.slice a2 qs.length p2) v) := hT
 have D2 : Hid (Below W1.heap.size W1 w2) := c2
 have T3 : Hid ((w2.alloc (.cells #[.int .i64 t', .slice a1 gs'.length p1, .slice a2 qs.length p2] 34)).there (w.heap.size + 1 + 1) 0 3) := T1.out _ (bl_trans c2 (bl_alloc (Below.refl _ _) _))
 clear hS hT c2 CH
 go_wp2_with (refine wpList_store_mid (by rfl) 34 _ _ (by rfl) (w.heap.size + 1 + 1) 0 #[.int .i64 t', .slice a1 gs'.length p1, .slice a2 qs.length p2] (by rfl) (by rfl) (by exact T3.out) hinfo (by simp [Value.oneCell']) ?_)
 have hrg := World.rangeAt_setCells_same (w2.alloc (.cells #[.int .i64 t', .slice a1 gs'.length p1, .slice a2 qs.length p2] 34)) (w.heap.size + 1 + 1) 0 [.int .i64 t', .slice a1 gs'.length p1, .slice a2 qs.length p2] (by exact T3.out)
 have d0 := hrg 0 _ rfl
 have d1 := hrg 1 _ rfl
 have d2 := hrg 2 _ rfl
 simp only [Nat.zero_add] at d0 d1 d2
 have hb : Below w2.heap.size w2 (w2.alloc (.cells #[.int .i64 t', .slice a1 gs'.length p1, .slice a2 qs.length p2] 34)) := bl_alloc (Below.refl _ _) _
 have hx : Ex (w.heap.size + 1 + 1) (w2.alloc (.cells #[.int .i64 t', .slice a1 gs'.length p1, .slice a2 qs.length p2] 34)) ((w2.alloc (.cells #[.int .i64 t', .slice a1 gs'.length p1, .slice a2 qs.length p2] 34)).setCells (w.heap.size + 1 + 1) 0 [.int .i64 t', .slice a1 gs'.length p1, .slice a2 qs.length p2]) := (Ex.refl _ _).cells _ _
 have hz : W1.heap.size = w.heap.size + 3 := Z1.out
 exact bodyPost_ret (v := .tuple #[.agg #[.int .i64 t', .slice a1 gs'.length p1, .slice a2 qs.length p2], v]) (by simp [results, Tryz.results9, go_sem, d0, d1, d2]) rfl ⟨⟨t', gs', qs, ds, _, _, v, rfl, HS.out, ((HT.out.keep hb).off (off_of_ex hx) (fun g hg e => by have := (HT.out.lt g hg).1; omega)).low (by omega)⟩, Ex.mono (bl_trans B1.out (bl_trans D2.out hb)) hx (by omega)⟩
end Go.Proofs.YtefkdohkjdopeaaGreatDoor
namespace Go.Proofs.YtefkdohkjdopeaaGreatDoor
open Go.RowKit Go.Maps Go.WideMaps
set_option linter.unusedVariables false
set_option maxRecDepth 4000 in
set_option maxHeartbeats 2000000 in
theorem l6Grant_any (t : Int) (gs : List G.GrantD) (a1 a2 : Option Addr) (c1 n2 c2 : Nat) (h : ByteArray) (w : World) (hG : G.GvG w a1 gs) (hl : gs.length ≤ 1048576) :
  Calls Tryz.prog 27 #[.agg #[.int .i64 t, .slice a1 gs.length c1, .slice a2 n2 c2], .string h] w fun e w' => (∃ n : Int, e = .returned (.int .i64 n) ∧ ((∃ (k : Nat) (g : G.GrantD), n = (k : Int) ∧ gs[k]? = some g ∧ g.h = h) ∨ (n = -1 ∧ ∀ g ∈ gs, g.h ≠ h))) ∧ Below w.heap.size w w' := by
 obtain ⟨W0, hW0⟩ : ∃ W0, W0 = w.alloc (.cells #[.int .i64 t, .slice a1 gs.length c1, .slice a2 n2 c2] 34) := ⟨_, rfl⟩
 have HW0 : Hid (W0 = w.alloc (.cells #[.int .i64 t, .slice a1 gs.length c1, .slice a2 n2 c2] 34)) := hW0
 have B0 : Hid (Below w.heap.size w W0) := by rw [hW0]; exact bl_alloc (Below.refl _ _) _
 obtain ⟨xb, hxb⟩ : ∃ xb, xb = w.heap.size := ⟨_, rfl⟩
 have HXB : Hid (xb = w.heap.size) := hxb
 have kx : W0.cell? ⟨xb, 1, none⟩ = some (.slice a1 gs.length c1) := by rw [hW0, hxb]; simp [go_sem]
 have HG : Hid (G.GvG W0 a1 gs) := hG.keep B0.out
 clear hG hW0
 go_enter Tryz.func27, Tryz.ntmps27
 go_wp2_with fail
 rw [← HW0.out, ← hxb]
 clear hxb
 go_loopw [5] (fun i wx => ∃ (k : Nat), k ≤ gs.length ∧ i = .int .i64 (k : Int) ∧ wx = W0 ∧ Hid (∀ (j : Nat) g, j < k → gs[j]? = some g → (g.h.toList == h.toList) = false)) (fun i _ => gs.length - (intOf i).toNat)
 case atStart => exact ⟨0, Nat.zero_le _, rfl, rfl, fun j g hj => absurd hj (by omega)⟩
 case round =>
  obtain ⟨k, hk, rfl, hwx, Ha⟩ := hrel
  have hwx2 := hwx.symm
  subst hwx2
  clear hwx
  by_cases hlt : k < gs.length
  ·
   have hki : (k : Int) < (gs.length : Int) := by omega
   have hk0 : (0 : Int) ≤ (k : Int) := by omega
   obtain ⟨g, hg⟩ : ∃ g, gs[k]? = some g := ⟨gs[k], List.getElem?_eq_getElem hlt⟩
   obtain ⟨bg, rfl, hbg, hrow⟩ : ∃ b, a1 = some ⟨b, 0, none⟩ ∧ b < W0.heap.size ∧ G.RowsAt W0 b 0 gs := by
    rcases HG.out with h | h
    ·
     rw [h] at hlt; cases hlt
    ·
     exact h
   obtain ⟨r0, r1, r2, r3, r4⟩ := hrow.at hg
   simp only [Nat.zero_add] at r0 r1 r2 r3 r4
   have HGK : Hid (gs[k]? = some g) := hg
   clear hg hrow r1 r2 r3 r4
   cases hc : (g.h.toList == h.toList)
   ·
    go_wp2
    refine ⟨⟨k + 1, by omega, by go_num, by first | rfl | trivial, fun j r hj hr => ?_⟩, by simp [intOf]; omega⟩
    by_cases e : j = k
    ·
     subst e
     rw [HGK.out] at hr
     cases hr
     exact hc
    ·
     exact Ha.out j r (by omega) hr
   ·
    go_wp2
    go_ret
    exact ⟨⟨k, rfl, Or.inl ⟨k, g, rfl, HGK.out, eqT_iff.1 hc⟩⟩, B0.out⟩
  ·
   have hki : ¬ (k : Int) < (gs.length : Int) := by omega
   go_wp2
   go_ret
   refine ⟨⟨-1, rfl, Or.inr ⟨rfl, fun g hg e => ?_⟩⟩, B0.out⟩
   obtain ⟨j, hj⟩ := List.getElem?_of_mem hg
   have hjl := (List.getElem?_eq_some_iff.1 hj).1
   have h9 : eqT g.h h = false := Ha.out j g (by omega) hj
   rw [eqT_iff.2 e] at h9
   cases h9
set_option maxRecDepth 4000 in
set_option maxHeartbeats 4000000 in
theorem l6Wants_any (t : Int) (p : TakeP) (ps : List P.PlaceD) (a1 a2 : Option Addr) (n1 c1 c2 : Nat) (w : World) (hP : P.GvP w a2 ps) (hsrc : ∀ q ∈ ps, W.Src w q.a q.c q.ws) (hl : ps.length ≤ 1048576) (hln : ∀ q ∈ ps, q.ws.length ≤ 1048576) :
  Calls Tryz.prog 48 #[.agg #[.int .i64 t, .slice a1 n1 c1, .slice a2 ps.length c2], .string p.b, .string p.c, .string p.h] w fun e w' => e = .returned (.bool (wantedL p ps)) ∧ Below w.heap.size w w' := by
 obtain ⟨W0, hW0⟩ : ∃ W0, W0 = w.alloc (.cells #[.int .i64 t, .slice a1 n1 c1, .slice a2 ps.length c2] 34) := ⟨_, rfl⟩
 have HW0 : Hid (W0 = w.alloc (.cells #[.int .i64 t, .slice a1 n1 c1, .slice a2 ps.length c2] 34)) := hW0
 have B0 : Hid (Below w.heap.size w W0) := by rw [hW0]; exact bl_alloc (Below.refl _ _) _
 obtain ⟨xb, hxb⟩ : ∃ xb, xb = w.heap.size := ⟨_, rfl⟩
 have ZX : Hid (xb < W0.heap.size) := by rw [hW0, hxb]; show _ < _; simp
 have KX0 : Hid (W0.cell? ⟨xb, 2, none⟩ = some (.slice a2 ps.length c2)) := by rw [hW0, hxb]; show _ = _; simp [go_sem]
 have KX : Hid (∀ y, Below W0.heap.size W0 y → y.cell? ⟨xb, 2, none⟩ = some (.slice a2 ps.length c2)) := fun y hy => (hy.cell (p := ⟨xb, 2, none⟩) ZX.out).trans KX0.out
 have HP : Hid (∀ y, Below W0.heap.size W0 y → P.GvP y a2 ps) := fun y hy => hP.keep (bl_trans B0.out hy)
 have HS : Hid (∀ y, Below W0.heap.size W0 y → ∀ q ∈ ps, W.Src y q.a q.c q.ws) := fun y hy q hq => (hsrc q hq).keep (bl_trans B0.out hy)
 have HLN : Hid (∀ q ∈ ps, q.ws.length ≤ 1048576) := hln
 clear hP hsrc hW0 hln
 go_enter Tryz.func48, Tryz.ntmps48
 go_wp2_with fail
 rw [← HW0.out, ← hxb]
 have HXB : Hid (xb = w.heap.size) := hxb
 clear hxb
 go_loopw [9] (fun i wx => ∃ (k : Nat), k ≤ ps.length ∧ i = .int .i64 (k : Int) ∧ Hid (∀ (j : Nat) q, j < k → ps[j]? = some q → (eqT q.b p.b && wantedW p q.ws) = false) ∧ Hid (Below W0.heap.size W0 wx)) (fun i _ => ps.length - (intOf i).toNat)
 case atStart => exact ⟨0, Nat.zero_le _, rfl, fun j g hj => absurd hj (by omega), Below.refl _ _⟩
 case round =>
  obtain ⟨k, hk, rfl, Ha, HB⟩ := hrel
  have kx := KX.out wr HB.out
  by_cases hlt : k < ps.length
  ·
   have hki : (k : Int) < (ps.length : Int) := by omega
   have hk0 : (0 : Int) ≤ (k : Int) := by omega
   obtain ⟨q, hq⟩ : ∃ q, ps[k]? = some q := ⟨ps[k], List.getElem?_eq_getElem hlt⟩
   have HQ : Hid (ps[k]? = some q) := hq
   obtain ⟨bp, rfl, hbp⟩ : ∃ b, a2 = some ⟨b, 0, none⟩ ∧ b < wr.heap.size := by
    rcases HP.out wr HB.out with h | ⟨b, h1, h2, -⟩
    ·
     rw [h] at hlt; cases hlt
    ·
     exact ⟨b, h1, h2⟩
   have HROW : Hid (∀ y, Below W0.heap.size W0 y → y.cell? ⟨bp, k * 3, none⟩ = some (.string q.b) ∧ y.cell? ⟨bp, k * 3 + 2, none⟩ = some (.slice q.a q.ws.length q.c)) := by
    intro y hy
    rcases HP.out y hy with h | ⟨b, h1, h2, h3⟩
    ·
     rw [h] at hlt; cases hlt
    ·
     have e : bp = b := by simpa using h1
     subst e
     obtain ⟨r0, r1, r2⟩ := h3.at hq
     simp only [Nat.zero_add] at r0 r1 r2
     exact ⟨r0, r2⟩
   have HWS : Hid (∀ y, Below W0.heap.size W0 y → W.Src y q.a q.c q.ws) := fun y hy => HS.out y hy q (List.mem_of_getElem? hq)
   have hwl : q.ws.length ≤ 1048576 := HLN.out q (List.mem_of_getElem? hq)
   clear hq
   go_wp2_with fail
   go_loopw [10] (fun i wx => ∃ (m : Nat), m ≤ q.ws.length ∧ i = .int .i64 (m : Int) ∧ Hid (∀ (j : Nat) r, j < m → q.ws[j]? = some r → (eqT q.b p.b && askW p r) = false) ∧ Hid (Below W0.heap.size W0 wx)) (fun i _ => q.ws.length - (intOf i).toNat)
   case atStart => exact ⟨0, Nat.zero_le _, rfl, fun j g hj => absurd hj (by omega), HB.out⟩
   case round =>
    obtain ⟨m, hm, rfl, Hb, HB2⟩ := hrel
    have kx2 := KX.out _ HB2.out
    obtain ⟨r0, r2⟩ := HROW.out _ HB2.out
    by_cases hlt2 : m < q.ws.length
    ·
     have hmi : (m : Int) < (q.ws.length : Int) := by omega
     have hm0 : (0 : Int) ≤ (m : Int) := by omega
     obtain ⟨r, hr⟩ : ∃ r, q.ws[m]? = some r := ⟨q.ws[m], List.getElem?_eq_getElem hlt2⟩
     have HR : Hid (q.ws[m]? = some r) := hr
     obtain ⟨bw, hbw, hbw2, hrow⟩ : ∃ b, q.a = some ⟨b, 0, none⟩ ∧ b < _ ∧ W.RowsAt _ b 0 q.ws := by
      rcases HWS.out _ HB2.out with ⟨-, -, h⟩ | h
      ·
       rw [h] at hlt2; cases hlt2
      ·
       exact h
     rw [hbw] at r2
     obtain ⟨d0, d1, d2, d3, d4, d5, d6⟩ := hrow.at hr
     simp only [Nat.zero_add] at d0 d1 d2 d3 d4 d5 d6
     clear hr hrow hbw
     have HBX : Hid (Below W0.heap.size W0 (wr.alloc (.cells #[.string r.c, .int .i64 r.v, .string r.h, .int .i64 r.p, .int .i64 r.s, .int .i64 r.d, .int .i64 r.g] 94))) := bl_trans HB2.out (bl_alloc (Below.refl _ _) _)
     have kx3 := KX.out _ HBX.out
     obtain ⟨s0, s2⟩ := HROW.out _ HBX.out
     cases q1 : (q.b.toList == p.b.toList)
     ·
      go_wp2
      refine ⟨⟨m + 1, by omega, by go_num, fun j r' hj hr' => ?_, HBX.out⟩, by simp [intOf]; omega⟩
      have h9 : eqT q.b p.b = false := q1
      rw [h9]; rfl
     ·
      cases q2 : (r.c.toList == p.c.toList)
      ·
       go_wp2
       refine ⟨⟨m + 1, by omega, by go_num, fun j r' hj hr' => ?_, HBX.out⟩, by simp [intOf]; omega⟩
       by_cases e : j = m
       ·
        subst e
        rw [HR.out] at hr'
        cases hr'
        unfold askW eqT
        rw [q2]
        simp
       ·
        exact Hb.out j r' (by omega) hr'
      ·
       cases q3 : (r.h.toList == p.h.toList)
       ·
        go_wp2
        refine ⟨⟨m + 1, by omega, by go_num, fun j r' hj hr' => ?_, HBX.out⟩, by simp [intOf]; omega⟩
        by_cases e : j = m
        ·
         subst e
         rw [HR.out] at hr'
         cases hr'
         unfold askW eqT
         rw [q2, q3]
         simp
        ·
         exact Hb.out j r' (by omega) hr'
       ·
        go_wp2
        go_ret
        refine ⟨?_, bl_trans B0.out HBX.out⟩
        have h9 : wantedL p ps = true := by
         unfold wantedL
         rw [List.any_eq_true]
         refine ⟨q, List.mem_of_getElem? HQ.out, ?_⟩
         rw [Bool.and_eq_true]
         refine ⟨q1, ?_⟩
         unfold wantedW
         rw [List.any_eq_true]
         refine ⟨r, List.mem_of_getElem? HR.out, ?_⟩
         unfold askW eqT
         rw [q2, q3]
         rfl
        rw [h9]
        rfl
    ·
     have hmi : ¬ (m : Int) < (q.ws.length : Int) := by omega
     go_wp2
     refine ⟨⟨k + 1, by omega, by go_num, fun j q' hj hq' => ?_, HB2.out⟩, by simp [intOf]; omega⟩
     by_cases e : j = k
     ·
      subst e
      rw [HQ.out] at hq'
      cases hq'
      have h9 : eqT q.b p.b = false ∨ wantedW p q.ws = false := by
       cases hx : eqT q.b p.b
       ·
        exact Or.inl rfl
       ·
        right
        unfold wantedW
        rw [List.any_eq_false]
        intro r hr h
        obtain ⟨j', hj'⟩ := List.getElem?_of_mem hr
        have hjl := (List.getElem?_eq_some_iff.1 hj').1
        have h8 := Hb.out j' r (by omega) hj'
        rw [hx, h] at h8
        cases h8
      rcases h9 with h9 | h9
      ·
       rw [h9]; rfl
      ·
       rw [h9, Bool.and_false]
     ·
      exact Ha.out j q' (by omega) hq'
  ·
   have hki : ¬ (k : Int) < (ps.length : Int) := by omega
   go_wp2
   go_ret
   refine ⟨?_, bl_trans B0.out HB.out⟩
   have h9 : wantedL p ps = false := by
    unfold wantedL
    rw [List.any_eq_false]
    intro q hq h
    obtain ⟨j, hj⟩ := List.getElem?_of_mem hq
    have hjl := (List.getElem?_eq_some_iff.1 hj).1
    rw [Ha.out j q (by omega) hj] at h
    cases h
   rw [h9]
   rfl
end Go.Proofs.YtefkdohkjdopeaaGreatDoor
