import Derived.Test.YtgehmpnlfnlboaaGreatDoorJ21
import Derived.Test.YtgehmpnlfnlboaaGreatDoorJ25
import Derived.Test.YtgehmpnlfnlboaaGreatDoorJ28
import Derived.Test.YtgehmpnlfnlboaaGreatDoorJ29
import Derived.Deep.RegionHeld3
import Derived.Laws.Pointers
import Derived.StillTactics
/- FnExactMateLandTick: the law's walk. -/
namespace Go.Proofs.YtgehmpnlfnlboaaGreatDoor
open Go.RowKit
set_option linter.unusedVariables false

/-- A box of the call's own. -/
structure Bo (y : World) (b : Nat) (O : Array Value) : Prop where
  c : ∀ k, y.cell? ⟨b, k, none⟩ = O[k]?
  l : b < y.heap.size
theorem Bo.keep {y z : World} {b : Nat} {O : Array Value} (h : Bo y b O) (hb : Below y.heap.size y z) : Bo z b O :=
  ⟨fun k => (hb.cell (p := ⟨b, k, none⟩) h.l).trans (h.c k), Nat.lt_of_lt_of_le h.l hb.size⟩
theorem Bo.off {X : Nat → Prop} {y z : World} {b : Nat} {O : Array Value} (h : Bo y b O) (ho : Off X y z) (hn : ¬ X b) : Bo z b O :=
  ⟨fun k => (ho.cell (p := ⟨b, k, none⟩) h.l hn).trans (h.c k), Nat.lt_of_lt_of_le h.l ho.size⟩
theorem Bo.new (y : World) (O : Array Value) (t : TypeId) : Bo (y.alloc (.cells O t)) y.heap.size O :=
  ⟨fun k => by simp [go_sem], by simp⟩
theorem bl_off2 {X : Nat → Prop} {w y z : World} (h : Below w.heap.size w y) (ho : Off X y z) (hP : ∀ j, X j → w.heap.size ≤ j) : Below w.heap.size w z := h.trans (ho.below hP h.size)
theorem lns_like {qs ps : List P.PlaceD} (h : P.Like qs ps) (hl : P.Lns ps) : ∀ q ∈ qs, q.ws.length ≤ 1048576 := by
  intro q hq
  obtain ⟨k, hk⟩ := List.getElem?_of_mem hq
  obtain ⟨p, hp, -, -, e⟩ := h.get hk
  rw [e]
  exact hl p (List.mem_of_getElem? hp)
/-- What a tick answers is small. -/
structure Small (gs : List G.GrantD) (qs : List P.PlaceD) (ds : List Pc.PcD) : Prop where
  a : gs.length ≤ 1048576
  b : qs.length ≤ 1048576
  c : ∀ q ∈ qs, q.ws.length ≤ 1048576
  d : ds.length ≤ 1048576
  e : ∀ d ∈ ds, d.ws.length ≤ 1048576
  f : gs.length ≤ 40 ∧ qs.length ≤ 4 ∧ ds.length ≤ 4
theorem TickSay.small {t : Int} {gs : List G.GrantD} {ps : List P.PlaceD} {t' : Int} {gs' : List G.GrantD} {qs : List P.PlaceD} {ds : List Pc.PcD} (h : TickSay t gs ps t' gs' qs ds) : Small gs' qs ds := by
  rcases h with ⟨-, -, rfl, rfl, rfl⟩ | ⟨y, rfl, k, z⟩
  · exact ⟨by simp, by simp, (fun q hq => by cases hq), by simp, (fun d hd => by cases hd), by simp, by simp, by simp⟩
  · have h1 : gs'.length ≤ 40 := y.2.1.1
    have h2 : qs.length ≤ 4 := by rw [k.len]; exact y.2.2.1.1
    have h3 : ∀ p ∈ ps, p.ws.length ≤ 10 := fun p hp => (y.2.2.1.2.2 p hp).2.2.1
    have h4 : ∀ q ∈ qs, q.ws.length ≤ 1048576 := by
      intro q hq
      obtain ⟨i, hi⟩ := List.getElem?_of_mem hq
      obtain ⟨p, hp, -, -, e⟩ := k.get hi
      have := h3 p (List.mem_of_getElem? hp)
      rw [e]
      omega
    have h5 : ds.length ≤ 4 ∧ ∀ d ∈ ds, d.ws.length ≤ 1048576 := by
      rcases z with ⟨-, -, rfl⟩ | ⟨-, -, e⟩
      · exact ⟨by simp, fun d hd => by cases hd⟩
      · have hl : ds.length = ps.length := by simpa using congrArg List.length e
        refine ⟨by rw [hl]; exact y.2.2.1.1, fun d hd => ?_⟩
        have hm : d.says ∈ ps.map toldSay := by rw [← e]; exact List.mem_map_of_mem hd
        obtain ⟨p, hp, ep⟩ := List.mem_map.1 hm
        have e2 : p.ws = d.ws := by
          have := congrArg (fun x => x.2.2.2.1) ep
          exact this
        have := h3 p hp
        rw [← e2]
        omega
    exact ⟨by omega, by omega, h4, by omega, h5.2, h1, h2, h5.1⟩
theorem Small.ends {gs : List G.GrantD} {qs : List P.PlaceD} {ds : List Pc.PcD} (h : Small gs qs ds) : 0 ≤ endP (endG 1 gs) qs ∧ endP (endG 1 gs) qs ≤ 100000000 ∧ 0 ≤ foldK stPc (endP (endG 1 gs) qs) ds ds.length := by
  have h1 := endG_le 1 gs
  have h2 := endP_le (endG 1 gs) qs h.c
  have h3 := foldPc_bound (endP (endG 1 gs) qs) ds h.e ds.length
  obtain ⟨f1, f2, f3⟩ := h.f
  omega
theorem ldK {w w5 y : World} {t : Int} {gs : List G.GrantD} {qs : List P.PlaceD} {v1 v2 : Value} {bx e1 e2 : Nat} (hA : ∀ k, w5.cell? ⟨w.heap.size, k, none⟩ = (#[.int .i64 t, v1, v2] : Array Value)[k]?) (hX : ∀ k, w5.cell? ⟨bx, k, none⟩ = (#[.int .i64 t, .slice (some ⟨e1, 0, none⟩) gs.length gs.length, .slice (some ⟨e2, 0, none⟩) qs.length qs.length] : Array Value)[k]?) (zA : w.heap.size < w5.heap.size) (zX : bx < w5.heap.size) (hb : Below w5.heap.size w5 y) :
    Below w5.heap.size w5 y ∧ (y.cell? ⟨w.heap.size, 0, none⟩ = some (.int .i64 t) ∧ y.cell? ⟨w.heap.size, 1, none⟩ = some (v1) ∧ y.cell? ⟨w.heap.size, 2, none⟩ = some (v2) ∧ y.cell? ⟨bx, 0, none⟩ = some (.int .i64 t) ∧ y.cell? ⟨bx, 1, none⟩ = some (.slice (some ⟨e1, 0, none⟩) gs.length gs.length) ∧ y.cell? ⟨bx, 2, none⟩ = some (.slice (some ⟨e2, 0, none⟩) qs.length qs.length)) := by
  have a : ∀ k, y.cell? ⟨w.heap.size, k, none⟩ = (#[.int .i64 t, v1, v2] : Array Value)[k]? := fun k => (hb.cell (p := ⟨w.heap.size, k, none⟩) zA).trans (hA k)
  have b : ∀ k, y.cell? ⟨bx, k, none⟩ = (#[.int .i64 t, .slice (some ⟨e1, 0, none⟩) gs.length gs.length, .slice (some ⟨e2, 0, none⟩) qs.length qs.length] : Array Value)[k]? := fun k => (hb.cell (p := ⟨bx, k, none⟩) zX).trans (hX k)
  exact ⟨hb, a 0, a 1, a 2, b 0, b 1, b 2⟩

set_option maxRecDepth 4000 in
set_option maxHeartbeats 8000000 in
theorem lawLandTick (hK1 : G.KeysSay) (hS1k : G.SortedSay) (hK2 : Pr.KeysSay) (hS2k : Pr.SortedSay) (t : Int) (gs : List G.GrantD) (ps : List P.PlaceD) (v1 v2 : Value) (w : World) (i1 : G.In w v1 gs) (i2 : P.In w v2 ps) (er0 er1 : Value) (hE : Errs w er0 er1) :
    Calls Tryz.prog 3 #[.agg #[.int .i64 t, v1, v2]] w fun e w' => e = .returned (.bool true) ∧ Below w.heap.size w w' := by
  have HE : Hid (Errs w er0 er1) := hE
  clear hE
  go_enter Tryz.func3, Tryz.ntmps3
  have C0 : Hid (Below w.heap.size w (w.alloc (.cells #[.int .i64 t, v1, v2] 25))) := bl_alloc (Below.refl _ _) _
  have A0 : Hid (Bo (w.alloc (.cells #[.int .i64 t, v1, v2] 25)) w.heap.size #[.int .i64 t, v1, v2]) := Bo.new _ _ _
  go_wp2_with fail
  refine (P.szLand t gs ps v1 v2 _ (i1.keep C0.out) (i2.keep C0.out)).mono ?_
  rintro e w1 ⟨hx, c⟩
  have C1 : Hid (Below w.heap.size w w1) := bl_trans C0.out c
  have A1 : Hid (Bo w1 w.heap.size #[.int .i64 t, v1, v2]) := (A0.out).keep c
  clear c C0 A0
  have ka := A1.out.c
  rcases hx with rfl | ⟨x, rfl, x0, l1, l2, hL⟩
  · go_wp2
    go_ret
    exact ⟨rfl, C1.out⟩
  have HL : Hid (P.Lns ps) := hL
  have HF : Hid (P.Fit gs ps) := ⟨i1.fits, fun p hp => ⟨(i2.inn p hp).1, (i2.inn p hp).2.fits⟩, l1, l2, hL⟩
  clear hL
  go_wp2_with fail
  refine (P.toLand_o t gs ps v1 v2 _ (i1.keep C1.out) (i2.keep C1.out) l1 l2 HL.out).mono ?_
  rintro e w2 ⟨⟨b1, b2, zs, rfl, hz, hA2, -⟩, c⟩
  have C2 : Hid (Below w.heap.size w w2) := bl_trans C1.out c
  have A2 : Hid (Bo w2 w.heap.size #[.int .i64 t, v1, v2]) := (A1.out).keep c
  clear c ka C1 A1
  have HZS : Hid (P.Like zs ps) := hz
  go_wp2_with fail
  refine (specTick t gs zs b1 b2 _ hA2 (HF.out.like HZS.out)).mono ?_
  rintro e w3 ⟨⟨t1, g1, q1, d1, s1, s2, sv, rfl, hS1, hT1⟩, c⟩
  have Z3 : Hid (w.heap.size < w2.heap.size ∧ w2.heap.size ≤ w3.heap.size) := ⟨A2.out.l, c.size⟩
  have C3 : Hid (Below w.heap.size w w3) := bl_trans C2.out c
  have A3 : Hid (Bo w3 w.heap.size #[.int .i64 t, v1, v2]) := (A2.out).keep c
  clear c hA2 hz C2 A2
  obtain ⟨a1, p1, rfl⟩ := G.Sl.shape hT1.l.g
  obtain ⟨a2, p2, hs2⟩ := Pr.Sl.shape hT1.l.p.o
  rw [List.length_map] at hs2
  subst hs2
  obtain ⟨a3, p3, hs3⟩ := Pc.Sl.shape hT1.c.o
  rw [List.length_map] at hs3
  subst hs3
  have HS1 : Hid (TickSay t gs zs t1 g1 q1 d1) := hS1
  have BD1 : Hid (Small g1 q1 d1) := hS1.small
  have V3 : Hid (TkO w3 w2.heap.size g1 q1 d1 (.slice a1 g1.length p1) (.slice a2 q1.length p2) (.slice a3 d1.length p3)) := hT1
  have VL : Hid (∀ g, TkO.bs q1 d1 (.slice a1 g1.length p1) (.slice a2 q1.length p2) (.slice a3 d1.length p3) g → w2.heap.size ≤ g ∧ g < w3.heap.size) := hT1.lt
  clear hS1 hT1
  obtain ⟨Y3, hY3⟩ : ∃ Y, Y = w3.alloc (.cells #[.int .i64 t1, .slice a1 g1.length p1, .slice a2 q1.length p2] 30) := ⟨_, rfl⟩
  have HY3 : Hid (Y3 = w3.alloc (.cells #[.int .i64 t1, .slice a1 g1.length p1, .slice a2 q1.length p2] 30)) := hY3
  have cY : Below w3.heap.size w3 Y3 := by rw [hY3]; exact bl_alloc (Below.refl _ _) _
  have C4 : Hid (Below w.heap.size w Y3) := bl_trans C3.out cY
  have A4 : Hid (Bo Y3 w.heap.size #[.int .i64 t, v1, v2]) := (A3.out).keep cY
  have V4 : Hid (TkO Y3 w2.heap.size g1 q1 d1 (.slice a1 g1.length p1) (.slice a2 q1.length p2) (.slice a3 d1.length p3)) := (V3.out).keep cY
  have W4 : Hid (Bo Y3 w3.heap.size #[.int .i64 t1, .slice a1 g1.length p1, .slice a2 q1.length p2]) := by rw [hY3]; exact Bo.new _ _ _
  have ZY3 : Hid (Y3.heap.size = w3.heap.size + 1) := by rw [hY3]; show _ = _; simp
  clear cY C3 A3 V3
  have ka : ∀ k, (w3.alloc (.cells #[.int .i64 t1, .slice a1 g1.length p1, .slice a2 q1.length p2] 30)).cell? ⟨w.heap.size, k, none⟩ = (#[.int .i64 t, v1, v2] : Array Value)[k]? := by rw [← hY3]; exact A4.out.c
  clear hY3
  go_wp2_with fail
  clear ka
  rw [← HY3.out]
  refine (P.toLand_o t gs ps v1 v2 _ (i1.keep C4.out) (i2.keep C4.out) l1 l2 HL.out).mono ?_
  rintro e w4 ⟨⟨e1, e2, xs, rfl, hx4, hA4, hL4⟩, c⟩
  have Z4 : Hid (Y3.heap.size ≤ w4.heap.size) := c.size
  have C5 : Hid (Below w.heap.size w w4) := bl_trans C4.out c
  have A5 : Hid (Bo w4 w.heap.size #[.int .i64 t, v1, v2]) := (A4.out).keep c
  have V5 : Hid (TkO w4 w2.heap.size g1 q1 d1 (.slice a1 g1.length p1) (.slice a2 q1.length p2) (.slice a3 d1.length p3)) := (V4.out).keep c
  have W5 : Hid (Bo w4 w3.heap.size #[.int .i64 t1, .slice a1 g1.length p1, .slice a2 q1.length p2]) := (W4.out).keep c
  clear c
  clear C4 A4 V4 W4
  have HXS : Hid (P.Like xs ps) := hx4
  have X5 : Hid (LdO w4 Y3.heap.size gs xs (.slice (some ⟨e1, 0, none⟩) gs.length gs.length) (.slice (some ⟨e2, 0, none⟩) xs.length xs.length)) := hL4
  have XL : Hid (∀ g, LdO.bs xs (.slice (some ⟨e1, 0, none⟩) gs.length gs.length) (.slice (some ⟨e2, 0, none⟩) xs.length xs.length) g → Y3.heap.size ≤ g ∧ g < w4.heap.size) := hL4.lt
  have HA4 : Hid (P.LandAt w4 gs xs e1 e2) := hA4
  clear hx4 hL4 hA4
  obtain ⟨Y4, hY4⟩ : ∃ Y, Y = w4.alloc (.cells #[.int .i64 t, .slice (some ⟨e1, 0, none⟩) gs.length gs.length, .slice (some ⟨e2, 0, none⟩) xs.length xs.length] 30) := ⟨_, rfl⟩
  have HY4 : Hid (Y4 = w4.alloc (.cells #[.int .i64 t, .slice (some ⟨e1, 0, none⟩) gs.length gs.length, .slice (some ⟨e2, 0, none⟩) xs.length xs.length] 30)) := hY4
  have cY : Below w4.heap.size w4 Y4 := by rw [hY4]; exact bl_alloc (Below.refl _ _) _
  have C6 : Hid (Below w.heap.size w Y4) := bl_trans C5.out cY
  have A6 : Hid (Bo Y4 w.heap.size #[.int .i64 t, v1, v2]) := (A5.out).keep cY
  have V6 : Hid (TkO Y4 w2.heap.size g1 q1 d1 (.slice a1 g1.length p1) (.slice a2 q1.length p2) (.slice a3 d1.length p3)) := (V5.out).keep cY
  have W6 : Hid (Bo Y4 w3.heap.size #[.int .i64 t1, .slice a1 g1.length p1, .slice a2 q1.length p2]) := (W5.out).keep cY
  have X6 : Hid (LdO Y4 Y3.heap.size gs xs (.slice (some ⟨e1, 0, none⟩) gs.length gs.length) (.slice (some ⟨e2, 0, none⟩) xs.length xs.length)) := (X5.out).keep cY
  have B6 : Hid (Bo Y4 w4.heap.size #[.int .i64 t, .slice (some ⟨e1, 0, none⟩) gs.length gs.length, .slice (some ⟨e2, 0, none⟩) xs.length xs.length]) := by rw [hY4]; exact Bo.new _ _ _
  have ZY4 : Hid (Y4.heap.size = w4.heap.size + 1) := by rw [hY4]; show _ = _; simp
  have HA5 : Hid (P.LandAt Y4 gs xs e1 e2) := HA4.out.keep cY
  clear cY HA4 hY4
  clear C5 A5 V5 W5 X5
  go_wp2_with fail
  rw [← HY4.out]
  refine (implTick hK1 hS1k hK2 hS2k t gs xs e1 e2 Y4 HA5.out (HF.out.like HXS.out) er0 er1 (HE.out.keep C6.out)).mono ?_
  rintro e w5 ⟨⟨t2, g2, q2, d2, r1, r2, rv, rfl, hS2, hT2⟩, c⟩
  have Z5 : Hid (Y4.heap.size ≤ w5.heap.size) := c.size
  have C7 : Hid (Below w.heap.size w w5) := bl_trans C6.out c
  have A7 : Hid (Bo w5 w.heap.size #[.int .i64 t, v1, v2]) := (A6.out).keep c
  have V7 : Hid (TkO w5 w2.heap.size g1 q1 d1 (.slice a1 g1.length p1) (.slice a2 q1.length p2) (.slice a3 d1.length p3)) := (V6.out).keep c
  have W7 : Hid (Bo w5 w3.heap.size #[.int .i64 t1, .slice a1 g1.length p1, .slice a2 q1.length p2]) := (W6.out).keep c
  have X7 : Hid (LdO w5 Y3.heap.size gs xs (.slice (some ⟨e1, 0, none⟩) gs.length gs.length) (.slice (some ⟨e2, 0, none⟩) xs.length xs.length)) := (X6.out).keep c
  have B7 : Hid (Bo w5 w4.heap.size #[.int .i64 t, .slice (some ⟨e1, 0, none⟩) gs.length gs.length, .slice (some ⟨e2, 0, none⟩) xs.length xs.length]) := (B6.out).keep c
  clear c HA5
  clear C6 A6 V6 W6 X6 B6
  obtain ⟨et, eg, hlq, hld⟩ := tick_one (HZS.out.trans HXS.out.symm) HS1.out hS2
  subst et eg
  obtain ⟨c1, o1, rfl⟩ := G.Sl.shape hT2.l.g
  obtain ⟨c2, o2, hs2⟩ := Pr.Sl.shape hT2.l.p.o
  rw [List.length_map] at hs2
  subst hs2
  obtain ⟨c3, o3, hs3⟩ := Pc.Sl.shape hT2.c.o
  rw [List.length_map] at hs3
  subst hs3
  have BD2 : Hid (Small g1 q2 d2) := hS2.small
  have LQ : Hid (P.Like q2 q1) := hlq.symm
  have LD : Hid (Pc.Like d2 d1) := hld.symm
  have G7 : Hid (TkO w5 Y4.heap.size g1 q2 d2 (.slice c1 g1.length o1) (.slice c2 q2.length o2) (.slice c3 d2.length o3)) := hT2
  have GL : Hid (∀ g, TkO.bs q2 d2 (.slice c1 g1.length o1) (.slice c2 q2.length o2) (.slice c3 d2.length o3) g → Y4.heap.size ≤ g ∧ g < w5.heap.size) := hT2.lt
  clear hS2 hT2 hlq hld
  obtain ⟨Y5, hY5⟩ : ∃ Y, Y = w5.alloc (.cells #[.int .i64 t1, .slice c1 g1.length o1, .slice c2 q2.length o2] 30) := ⟨_, rfl⟩
  have HY5 : Hid (Y5 = w5.alloc (.cells #[.int .i64 t1, .slice c1 g1.length o1, .slice c2 q2.length o2] 30)) := hY5
  have cY : Below w5.heap.size w5 Y5 := by rw [hY5]; exact bl_alloc (Below.refl _ _) _
  have C8 : Hid (Below w.heap.size w Y5) := bl_trans C7.out cY
  have A8 : Hid (Bo Y5 w.heap.size #[.int .i64 t, v1, v2]) := (A7.out).keep cY
  have V8 : Hid (TkO Y5 w2.heap.size g1 q1 d1 (.slice a1 g1.length p1) (.slice a2 q1.length p2) (.slice a3 d1.length p3)) := (V7.out).keep cY
  have W8 : Hid (Bo Y5 w3.heap.size #[.int .i64 t1, .slice a1 g1.length p1, .slice a2 q1.length p2]) := (W7.out).keep cY
  have X8 : Hid (LdO Y5 Y3.heap.size gs xs (.slice (some ⟨e1, 0, none⟩) gs.length gs.length) (.slice (some ⟨e2, 0, none⟩) xs.length xs.length)) := (X7.out).keep cY
  have B8 : Hid (Bo Y5 w4.heap.size #[.int .i64 t, .slice (some ⟨e1, 0, none⟩) gs.length gs.length, .slice (some ⟨e2, 0, none⟩) xs.length xs.length]) := (B7.out).keep cY
  have G8 : Hid (TkO Y5 Y4.heap.size g1 q2 d2 (.slice c1 g1.length o1) (.slice c2 q2.length o2) (.slice c3 d2.length o3)) := (G7.out).keep cY
  have D8 : Hid (Bo Y5 w5.heap.size #[.int .i64 t1, .slice c1 g1.length o1, .slice c2 q2.length o2]) := by rw [hY5]; exact Bo.new _ _ _
  have ZY5 : Hid (Y5.heap.size = w5.heap.size + 1) := by rw [hY5]; show _ = _; simp
  clear cY
  clear C7 A7 V7 W7 X7 B7 G7
  have kw : ∀ k, (w5.alloc (.cells #[.int .i64 t1, .slice c1 g1.length o1, .slice c2 q2.length o2] 30)).cell? ⟨w3.heap.size, k, none⟩ = (#[.int .i64 t1, .slice a1 g1.length p1, .slice a2 q1.length p2] : Array Value)[k]? := by rw [← hY5]; exact W8.out.c
  clear hY5
  go_wp2_with fail
  clear kw
  rw [← HY5.out]
  refine (eqLand_o t1 g1 _ q1 _ _ _ _ _ _ Y5 G8.out.l V8.out.l LQ.out BD2.out.a BD2.out.b BD2.out.c).mono ?_
  rintro e w6 ⟨rfl, c⟩
  have C9 : Hid (Below w.heap.size w w6) := bl_trans C8.out c
  have A9 : Hid (Bo w6 w.heap.size #[.int .i64 t, v1, v2]) := (A8.out).keep c
  have V9 : Hid (TkO w6 w2.heap.size g1 q1 d1 (.slice a1 g1.length p1) (.slice a2 q1.length p2) (.slice a3 d1.length p3)) := (V8.out).keep c
  have W9 : Hid (Bo w6 w3.heap.size #[.int .i64 t1, .slice a1 g1.length p1, .slice a2 q1.length p2]) := (W8.out).keep c
  have X9 : Hid (LdO w6 Y3.heap.size gs xs (.slice (some ⟨e1, 0, none⟩) gs.length gs.length) (.slice (some ⟨e2, 0, none⟩) xs.length xs.length)) := (X8.out).keep c
  have B9 : Hid (Bo w6 w4.heap.size #[.int .i64 t, .slice (some ⟨e1, 0, none⟩) gs.length gs.length, .slice (some ⟨e2, 0, none⟩) xs.length xs.length]) := (B8.out).keep c
  have G9 : Hid (TkO w6 Y4.heap.size g1 q2 d2 (.slice c1 g1.length o1) (.slice c2 q2.length o2) (.slice c3 d2.length o3)) := (G8.out).keep c
  have D9 : Hid (Bo w6 w5.heap.size #[.int .i64 t1, .slice c1 g1.length o1, .slice c2 q2.length o2]) := (D8.out).keep c
  clear c
  clear C8 A8 V8 W8 X8 B8 G8 D8
  go_wp2_with fail
  refine (eqPc_sl G9.out.c V9.out.c LD.out BD2.out.d BD2.out.e).mono ?_
  rintro e w7 ⟨rfl, c⟩
  have C10 : Hid (Below w.heap.size w w7) := bl_trans C9.out c
  have A10 : Hid (Bo w7 w.heap.size #[.int .i64 t, v1, v2]) := (A9.out).keep c
  have V10 : Hid (TkO w7 w2.heap.size g1 q1 d1 (.slice a1 g1.length p1) (.slice a2 q1.length p2) (.slice a3 d1.length p3)) := (V9.out).keep c
  have W10 : Hid (Bo w7 w3.heap.size #[.int .i64 t1, .slice a1 g1.length p1, .slice a2 q1.length p2]) := (W9.out).keep c
  have X10 : Hid (LdO w7 Y3.heap.size gs xs (.slice (some ⟨e1, 0, none⟩) gs.length gs.length) (.slice (some ⟨e2, 0, none⟩) xs.length xs.length)) := (X9.out).keep c
  have B10 : Hid (Bo w7 w4.heap.size #[.int .i64 t, .slice (some ⟨e1, 0, none⟩) gs.length gs.length, .slice (some ⟨e2, 0, none⟩) xs.length xs.length]) := (B9.out).keep c
  have G10 : Hid (TkO w7 Y4.heap.size g1 q2 d2 (.slice c1 g1.length o1) (.slice c2 q2.length o2) (.slice c3 d2.length o3)) := (G9.out).keep c
  have D10 : Hid (Bo w7 w5.heap.size #[.int .i64 t1, .slice c1 g1.length o1, .slice c2 q2.length o2]) := (D9.out).keep c
  clear c
  clear C9 A9 V9 W9 X9 B9 G9 D9
  go_wp2_with fail
  go_region_held3 (fun y => Below w7.heap.size w7 y ∧ (y.cell? ⟨w.heap.size, 0, none⟩ = some (.int .i64 t) ∧ y.cell? ⟨w.heap.size, 1, none⟩ = some (v1) ∧ y.cell? ⟨w.heap.size, 2, none⟩ = some (v2) ∧ y.cell? ⟨w4.heap.size, 0, none⟩ = some (.int .i64 t) ∧ y.cell? ⟨w4.heap.size, 1, none⟩ = some (.slice (some ⟨e1, 0, none⟩) gs.length gs.length) ∧ y.cell? ⟨w4.heap.size, 2, none⟩ = some (.slice (some ⟨e2, 0, none⟩) xs.length xs.length)))
    (first | exact ldK A10.out.c B10.out.c A10.out.l B10.out.l (bl_drew (Below.refl _ _)) | exact ldK A10.out.c B10.out.c A10.out.l B10.out.l (bl_trans (bl_drew (Below.refl _ _)) hy) | exact ldK A10.out.c B10.out.c A10.out.l B10.out.l (bl_trans (bl_trans (bl_drew (Below.refl _ _)) hy) hz))
    (first | (go_at_call 6; refine (P.toLand_o t gs ps v1 v2 _ (i1.keep (bl_trans C10.out (bl_drew (Below.refl _ _)))) (i2.keep (bl_trans C10.out (bl_drew (Below.refl _ _)))) l1 l2 HL.out).mono ?_; rintro e y' ⟨⟨f1, f2, us, rfl, hus, -, hLu⟩, hy⟩) | (go_at_call 8; refine (eqLand_o t gs xs us _ _ _ _ _ _ _ (X10.out.keep (bl_trans (bl_drew (Below.refl _ _)) hy)) hLu (HXS.out.trans hus.symm) l1 (by rw [HXS.out.len]; exact l2) (lns_like HXS.out HL.out)).mono ?_; rintro e y'' ⟨rfl, hz⟩))
  have cc := bl_trans (bl_trans (bl_drew (Below.refl _ w7)) hy) hz
  clear hy hz hLu hus
  have C11 : Hid (Below w.heap.size w y'') := bl_trans C10.out cc
  have A11 : Hid (Bo y'' w.heap.size #[.int .i64 t, v1, v2]) := (A10.out).keep cc
  have V11 : Hid (TkO y'' w2.heap.size g1 q1 d1 (.slice a1 g1.length p1) (.slice a2 q1.length p2) (.slice a3 d1.length p3)) := (V10.out).keep cc
  have W11 : Hid (Bo y'' w3.heap.size #[.int .i64 t1, .slice a1 g1.length p1, .slice a2 q1.length p2]) := (W10.out).keep cc
  have X11 : Hid (LdO y'' Y3.heap.size gs xs (.slice (some ⟨e1, 0, none⟩) gs.length gs.length) (.slice (some ⟨e2, 0, none⟩) xs.length xs.length)) := (X10.out).keep cc
  have B11 : Hid (Bo y'' w4.heap.size #[.int .i64 t, .slice (some ⟨e1, 0, none⟩) gs.length gs.length, .slice (some ⟨e2, 0, none⟩) xs.length xs.length]) := (B10.out).keep cc
  have G11 : Hid (TkO y'' Y4.heap.size g1 q2 d2 (.slice c1 g1.length o1) (.slice c2 q2.length o2) (.slice c3 d2.length o3)) := (G10.out).keep cc
  have D11 : Hid (Bo y'' w5.heap.size #[.int .i64 t1, .slice c1 g1.length o1, .slice c2 q2.length o2]) := (D10.out).keep cc
  clear cc
  clear C10 A10 V10 W10 X10 B10 G10 D10
  have kb := B11.out.c
  go_wp2_with fail
  clear kb
  refine (markLand_o t gs xs _ _ _ 1 _ X11.out l1 (by rw [HXS.out.len]; exact l2) (lns_like HXS.out HL.out) (by omega) (by omega)).mono ?_
  rintro e w8 ⟨he, -, o⟩
  have kn : 0 ≤ endP (endG 1 gs) xs := by have h1 := (endG_le 1 gs).1; have h2 := (endP_le (endG 1 gs) xs (lns_like HXS.out HL.out)).1; omega
  obtain ⟨kk, hkk⟩ : ∃ kk : Int, kk = endP (endG 1 gs) xs := ⟨_, rfl⟩
  rw [← hkk] at he kn
  subst he
  clear hkk
  clear X11 B11
  have C12 : Hid (Below w.heap.size w w8) := bl_off2 C11.out o (fun j hj => by have h1 := XL.out j hj; obtain ⟨z1, z2⟩ := Z3.out; have z3 := ZY3.out; have z4 := Z4.out; have z5 := ZY4.out; have z6 := Z5.out; omega)
  have A12 : Hid (Bo w8 w.heap.size #[.int .i64 t, v1, v2]) := (A11.out).off o (fun hp => by have h1 := XL.out _ hp; obtain ⟨z1, z2⟩ := Z3.out; have z3 := ZY3.out; have z4 := Z4.out; have z5 := ZY4.out; have z6 := Z5.out; omega)
  have V12 : Hid (TkO w8 w2.heap.size g1 q1 d1 (.slice a1 g1.length p1) (.slice a2 q1.length p2) (.slice a3 d1.length p3)) := (V11.out).off o (fun j hj hp => by have h0 := VL.out j hj; have h1 := XL.out j hp; obtain ⟨z1, z2⟩ := Z3.out; have z3 := ZY3.out; have z4 := Z4.out; have z5 := ZY4.out; have z6 := Z5.out; omega)
  have W12 : Hid (Bo w8 w3.heap.size #[.int .i64 t1, .slice a1 g1.length p1, .slice a2 q1.length p2]) := (W11.out).off o (fun hp => by have h1 := XL.out _ hp; obtain ⟨z1, z2⟩ := Z3.out; have z3 := ZY3.out; have z4 := Z4.out; have z5 := ZY4.out; have z6 := Z5.out; omega)
  have G12 : Hid (TkO w8 Y4.heap.size g1 q2 d2 (.slice c1 g1.length o1) (.slice c2 q2.length o2) (.slice c3 d2.length o3)) := (G11.out).off o (fun j hj hp => by have h0 := GL.out j hj; have h1 := XL.out j hp; obtain ⟨z1, z2⟩ := Z3.out; have z3 := ZY3.out; have z4 := Z4.out; have z5 := ZY4.out; have z6 := Z5.out; omega)
  have D12 : Hid (Bo w8 w5.heap.size #[.int .i64 t1, .slice c1 g1.length o1, .slice c2 q2.length o2]) := (D11.out).off o (fun hp => by have h1 := XL.out _ hp; obtain ⟨z1, z2⟩ := Z3.out; have z3 := ZY3.out; have z4 := Z4.out; have z5 := ZY4.out; have z6 := Z5.out; omega)
  clear o
  clear C11 A11 V11 W11 G11 D11
  have kw := W12.out.c
  have kz := D12.out.c
  go_wp2_with fail
  clear kw kz
  refine (eqLand_o t1 g1 _ q1 _ _ _ _ _ _ w8 G12.out.l V12.out.l LQ.out BD2.out.a BD2.out.b BD2.out.c).mono ?_
  rintro e w9 ⟨rfl, c⟩
  have C13 : Hid (Below w.heap.size w w9) := bl_trans C12.out c
  have A13 : Hid (Bo w9 w.heap.size #[.int .i64 t, v1, v2]) := (A12.out).keep c
  have V13 : Hid (TkO w9 w2.heap.size g1 q1 d1 (.slice a1 g1.length p1) (.slice a2 q1.length p2) (.slice a3 d1.length p3)) := (V12.out).keep c
  have W13 : Hid (Bo w9 w3.heap.size #[.int .i64 t1, .slice a1 g1.length p1, .slice a2 q1.length p2]) := (W12.out).keep c
  have G13 : Hid (TkO w9 Y4.heap.size g1 q2 d2 (.slice c1 g1.length o1) (.slice c2 q2.length o2) (.slice c3 d2.length o3)) := (G12.out).keep c
  have D13 : Hid (Bo w9 w5.heap.size #[.int .i64 t1, .slice c1 g1.length o1, .slice c2 q2.length o2]) := (D12.out).keep c
  clear c
  clear C12 A12 V12 W12 G12 D12
  go_wp2_with fail
  refine (eqPc_sl G13.out.c V13.out.c LD.out BD2.out.d BD2.out.e).mono ?_
  rintro e w10 ⟨rfl, c⟩
  have C14 : Hid (Below w.heap.size w w10) := bl_trans C13.out c
  have A14 : Hid (Bo w10 w.heap.size #[.int .i64 t, v1, v2]) := (A13.out).keep c
  have V14 : Hid (TkO w10 w2.heap.size g1 q1 d1 (.slice a1 g1.length p1) (.slice a2 q1.length p2) (.slice a3 d1.length p3)) := (V13.out).keep c
  have W14 : Hid (Bo w10 w3.heap.size #[.int .i64 t1, .slice a1 g1.length p1, .slice a2 q1.length p2]) := (W13.out).keep c
  have G14 : Hid (TkO w10 Y4.heap.size g1 q2 d2 (.slice c1 g1.length o1) (.slice c2 q2.length o2) (.slice c3 d2.length o3)) := (G13.out).keep c
  have D14 : Hid (Bo w10 w5.heap.size #[.int .i64 t1, .slice c1 g1.length o1, .slice c2 q2.length o2]) := (D13.out).keep c
  clear c
  clear C13 A13 V13 W13 G13 D13
  have kz := D14.out.c
  go_wp2_with fail
  clear kz
  have eb := BD2.out.ends
  obtain ⟨m1, hm1⟩ : ∃ m1 : Int, m1 = endP (endG 1 g1) q2 := ⟨_, rfl⟩
  obtain ⟨m2, hm2⟩ : ∃ m2 : Int, m2 = foldK stPc m1 d2 d2.length := ⟨_, rfl⟩
  rw [← hm1, ← hm2] at eb
  obtain ⟨m1a, m1b, m2a⟩ := eb
  have HM1 : Hid (m1 = endP (endG 1 g1) q2) := hm1
  have HM2 : Hid (m2 = foldK stPc m1 d2 d2.length) := hm2
  clear hm1 hm2
  refine (markLand_o t1 g1 q2 _ _ _ 1 _ G14.out.l BD2.out.a BD2.out.b BD2.out.c (by omega) (by omega)).mono ?_
  rintro e w11 ⟨he, M, o⟩
  rw [← HM1.out] at he
  subst he
  have GLC : Hid (∀ g, LdO.bs q2 (.slice c1 g1.length o1) (.slice c2 q2.length o2) g → ¬ PcO.bs d2 (.slice c3 d2.length o3) g) := G14.out.lc
  have N15 : Hid (PcO w11 Y4.heap.size d2 (.slice c3 d2.length o3)) := G14.out.c.off o (fun g hg hp => GLC.out g hp hg)
  have M15 : Hid (LdO w11 Y4.heap.size (markGs 1 g1) (markPs (endG 1 g1) q2) (.slice c1 g1.length o1) (.slice c2 q2.length o2)) := M
  have C15 : Hid (Below w.heap.size w w11) := bl_off2 C14.out o (fun j hj => by have h1 := GL.out j (Or.inl hj); obtain ⟨z1, z2⟩ := Z3.out; have z3 := ZY3.out; have z4 := Z4.out; have z5 := ZY4.out; have z6 := Z5.out; omega)
  have A15 : Hid (Bo w11 w.heap.size #[.int .i64 t, v1, v2]) := (A14.out).off o (fun hp => by have h1 := GL.out _ (Or.inl hp); obtain ⟨z1, z2⟩ := Z3.out; have z3 := ZY3.out; have z4 := Z4.out; have z5 := ZY4.out; have z6 := Z5.out; omega)
  have V15 : Hid (TkO w11 w2.heap.size g1 q1 d1 (.slice a1 g1.length p1) (.slice a2 q1.length p2) (.slice a3 d1.length p3)) := (V14.out).off o (fun j hj hp => by have h0 := VL.out j hj; have h1 := GL.out j (Or.inl hp); obtain ⟨z1, z2⟩ := Z3.out; have z3 := ZY3.out; have z4 := Z4.out; have z5 := ZY4.out; have z6 := Z5.out; omega)
  have W15 : Hid (Bo w11 w3.heap.size #[.int .i64 t1, .slice a1 g1.length p1, .slice a2 q1.length p2]) := (W14.out).off o (fun hp => by have h1 := GL.out _ (Or.inl hp); obtain ⟨z1, z2⟩ := Z3.out; have z3 := ZY3.out; have z4 := Z4.out; have z5 := ZY4.out; have z6 := Z5.out; omega)
  have D15 : Hid (Bo w11 w5.heap.size #[.int .i64 t1, .slice c1 g1.length o1, .slice c2 q2.length o2]) := (D14.out).off o (fun hp => by have h1 := GL.out _ (Or.inl hp); obtain ⟨z1, z2⟩ := Z3.out; have z3 := ZY3.out; have z4 := Z4.out; have z5 := ZY4.out; have z6 := Z5.out; omega)
  clear o M
  clear C14 A14 V14 W14 D14 G14
  go_wp2_with fail
  refine (markPc_sl d2 _ _ m1 _ N15.out BD2.out.d BD2.out.e (by omega) (by omega)).mono ?_
  rintro e w12 ⟨he, N, o⟩
  rw [← HM2.out] at he
  subst he
  have R16 : Hid (PcO w12 Y4.heap.size (markL stPc mkPc m1 d2 d2.length) (.slice c3 d2.length o3)) := N
  have C16 : Hid (Below w.heap.size w w12) := bl_off2 C15.out o (fun j hj => by have h1 := GL.out j (Or.inr hj); obtain ⟨z1, z2⟩ := Z3.out; have z3 := ZY3.out; have z4 := Z4.out; have z5 := ZY4.out; have z6 := Z5.out; omega)
  have A16 : Hid (Bo w12 w.heap.size #[.int .i64 t, v1, v2]) := (A15.out).off o (fun hp => by have h1 := GL.out _ (Or.inr hp); obtain ⟨z1, z2⟩ := Z3.out; have z3 := ZY3.out; have z4 := Z4.out; have z5 := ZY4.out; have z6 := Z5.out; omega)
  have V16 : Hid (TkO w12 w2.heap.size g1 q1 d1 (.slice a1 g1.length p1) (.slice a2 q1.length p2) (.slice a3 d1.length p3)) := (V15.out).off o (fun j hj hp => by have h0 := VL.out j hj; have h1 := GL.out j (Or.inr hp); obtain ⟨z1, z2⟩ := Z3.out; have z3 := ZY3.out; have z4 := Z4.out; have z5 := ZY4.out; have z6 := Z5.out; omega)
  have W16 : Hid (Bo w12 w3.heap.size #[.int .i64 t1, .slice a1 g1.length p1, .slice a2 q1.length p2]) := (W15.out).off o (fun hp => by have h1 := GL.out _ (Or.inr hp); obtain ⟨z1, z2⟩ := Z3.out; have z3 := ZY3.out; have z4 := Z4.out; have z5 := ZY4.out; have z6 := Z5.out; omega)
  have D16 : Hid (Bo w12 w5.heap.size #[.int .i64 t1, .slice c1 g1.length o1, .slice c2 q2.length o2]) := (D15.out).off o (fun hp => by have h1 := GL.out _ (Or.inr hp); obtain ⟨z1, z2⟩ := Z3.out; have z3 := ZY3.out; have z4 := Z4.out; have z5 := ZY4.out; have z6 := Z5.out; omega)
  have M16 : Hid (LdO w12 Y4.heap.size (markGs 1 g1) (markPs (endG 1 g1) q2) (.slice c1 g1.length o1) (.slice c2 q2.length o2)) := (M15.out).off o (fun g hg hp => GLC.out g (by rcases hg with h | h; exact Or.inl h; exact Or.inr ((bs_markPs _ q2 _ _ g).1 h)) hp)
  clear o N
  clear C15 A15 V15 W15 D15 M15 N15
  have kz := D16.out.c
  go_wp2_with fail
  clear kz
  refine (heldLand_o t1 g1 q2 _ _ _ 1 _ M16.out BD2.out.a BD2.out.b BD2.out.c (by omega) (by omega)).mono ?_
  rintro e w13 ⟨he, c⟩
  rw [← HM1.out] at he
  subst he
  have C17 : Hid (Below w.heap.size w w13) := bl_trans C16.out c
  have A17 : Hid (Bo w13 w.heap.size #[.int .i64 t, v1, v2]) := (A16.out).keep c
  have V17 : Hid (TkO w13 w2.heap.size g1 q1 d1 (.slice a1 g1.length p1) (.slice a2 q1.length p2) (.slice a3 d1.length p3)) := (V16.out).keep c
  have W17 : Hid (Bo w13 w3.heap.size #[.int .i64 t1, .slice a1 g1.length p1, .slice a2 q1.length p2]) := (W16.out).keep c
  have D17 : Hid (Bo w13 w5.heap.size #[.int .i64 t1, .slice c1 g1.length o1, .slice c2 q2.length o2]) := (D16.out).keep c
  have M17 : Hid (LdO w13 Y4.heap.size (markGs 1 g1) (markPs (endG 1 g1) q2) (.slice c1 g1.length o1) (.slice c2 q2.length o2)) := (M16.out).keep c
  have R17 : Hid (PcO w13 Y4.heap.size (markL stPc mkPc m1 d2 d2.length) (.slice c3 d2.length o3)) := (R16.out).keep c
  clear c
  clear C16 A16 V16 W16 D16 M16 R16
  go_wp2_with fail
  refine (heldPc_sl d2 _ _ m1 _ R17.out BD2.out.d BD2.out.e (by omega) (by omega)).mono ?_
  rintro e w14 ⟨he, c⟩
  rw [← HM2.out] at he
  subst he
  have C18 : Hid (Below w.heap.size w w14) := bl_trans C17.out c
  have A18 : Hid (Bo w14 w.heap.size #[.int .i64 t, v1, v2]) := (A17.out).keep c
  have V18 : Hid (TkO w14 w2.heap.size g1 q1 d1 (.slice a1 g1.length p1) (.slice a2 q1.length p2) (.slice a3 d1.length p3)) := (V17.out).keep c
  have W18 : Hid (Bo w14 w3.heap.size #[.int .i64 t1, .slice a1 g1.length p1, .slice a2 q1.length p2]) := (W17.out).keep c
  have D18 : Hid (Bo w14 w5.heap.size #[.int .i64 t1, .slice c1 g1.length o1, .slice c2 q2.length o2]) := (D17.out).keep c
  have M18 : Hid (LdO w14 Y4.heap.size (markGs 1 g1) (markPs (endG 1 g1) q2) (.slice c1 g1.length o1) (.slice c2 q2.length o2)) := (M17.out).keep c
  have R18 : Hid (PcO w14 Y4.heap.size (markL stPc mkPc m1 d2 d2.length) (.slice c3 d2.length o3)) := (R17.out).keep c
  clear c
  clear C17 A17 V17 W17 D17 M17 R17
  have ka := A18.out.c
  go_wp2_with fail
  clear ka
  refine (P.toLand_o t gs ps v1 v2 _ (i1.keep C18.out) (i2.keep C18.out) l1 l2 HL.out).mono ?_
  rintro e w15 ⟨⟨f1, f2, us, rfl, hus, hA6, -⟩, c⟩
  have C19 : Hid (Below w.heap.size w w15) := bl_trans C18.out c
  have A19 : Hid (Bo w15 w.heap.size #[.int .i64 t, v1, v2]) := (A18.out).keep c
  have V19 : Hid (TkO w15 w2.heap.size g1 q1 d1 (.slice a1 g1.length p1) (.slice a2 q1.length p2) (.slice a3 d1.length p3)) := (V18.out).keep c
  have W19 : Hid (Bo w15 w3.heap.size #[.int .i64 t1, .slice a1 g1.length p1, .slice a2 q1.length p2]) := (W18.out).keep c
  have D19 : Hid (Bo w15 w5.heap.size #[.int .i64 t1, .slice c1 g1.length o1, .slice c2 q2.length o2]) := (D18.out).keep c
  have M19 : Hid (LdO w15 Y4.heap.size (markGs 1 g1) (markPs (endG 1 g1) q2) (.slice c1 g1.length o1) (.slice c2 q2.length o2)) := (M18.out).keep c
  have R19 : Hid (PcO w15 Y4.heap.size (markL stPc mkPc m1 d2 d2.length) (.slice c3 d2.length o3)) := (R18.out).keep c
  clear c
  clear C18 A18 V18 W18 D18 M18 R18
  have HUS : Hid (P.Like us ps) := hus
  go_wp2_with fail
  refine (implTick hK1 hS1k hK2 hS2k t gs us f1 f2 w15 hA6 (HF.out.like HUS.out) er0 er1 (HE.out.keep C19.out)).mono ?_
  rintro e w16 ⟨⟨t3, g3, q3, d3, r1, r2, rv, rfl, hS3, hT3⟩, c⟩
  have C20 : Hid (Below w.heap.size w w16) := bl_trans C19.out c
  have A20 : Hid (Bo w16 w.heap.size #[.int .i64 t, v1, v2]) := (A19.out).keep c
  have V20 : Hid (TkO w16 w2.heap.size g1 q1 d1 (.slice a1 g1.length p1) (.slice a2 q1.length p2) (.slice a3 d1.length p3)) := (V19.out).keep c
  have W20 : Hid (Bo w16 w3.heap.size #[.int .i64 t1, .slice a1 g1.length p1, .slice a2 q1.length p2]) := (W19.out).keep c
  have D20 : Hid (Bo w16 w5.heap.size #[.int .i64 t1, .slice c1 g1.length o1, .slice c2 q2.length o2]) := (D19.out).keep c
  have M20 : Hid (LdO w16 Y4.heap.size (markGs 1 g1) (markPs (endG 1 g1) q2) (.slice c1 g1.length o1) (.slice c2 q2.length o2)) := (M19.out).keep c
  have R20 : Hid (PcO w16 Y4.heap.size (markL stPc mkPc m1 d2 d2.length) (.slice c3 d2.length o3)) := (R19.out).keep c
  clear c hA6 hus
  clear C19 A19 V19 W19 D19 M19 R19
  obtain ⟨et, eg, hlq, hld⟩ := tick_one (HZS.out.trans HUS.out.symm) HS1.out hS3
  subst et eg
  obtain ⟨j1, k1, rfl⟩ := G.Sl.shape hT3.l.g
  obtain ⟨j2, k2, hs2⟩ := Pr.Sl.shape hT3.l.p.o
  rw [List.length_map] at hs2
  subst hs2
  obtain ⟨j3, k3, hs3⟩ := Pc.Sl.shape hT3.c.o
  rw [List.length_map] at hs3
  subst hs3
  have BD3 : Hid (Small g1 q3 d3) := hS3.small
  have LQ3 : Hid (P.Like q3 q1) := hlq.symm
  have LD3 : Hid (Pc.Like d3 d1) := hld.symm
  have H20 : Hid (TkO w16 w15.heap.size g1 q3 d3 (.slice j1 g1.length k1) (.slice j2 q3.length k2) (.slice j3 d3.length k3)) := hT3
  clear hS3 hT3 hlq hld
  obtain ⟨Y16, hY16⟩ : ∃ Y, Y = w16.alloc (.cells #[.int .i64 t1, .slice j1 g1.length k1, .slice j2 q3.length k2] 30) := ⟨_, rfl⟩
  have HY16 : Hid (Y16 = w16.alloc (.cells #[.int .i64 t1, .slice j1 g1.length k1, .slice j2 q3.length k2] 30)) := hY16
  have cY : Below w16.heap.size w16 Y16 := by rw [hY16]; exact bl_alloc (Below.refl _ _) _
  have C21 : Hid (Below w.heap.size w Y16) := bl_trans C20.out cY
  have A21 : Hid (Bo Y16 w.heap.size #[.int .i64 t, v1, v2]) := (A20.out).keep cY
  have V21 : Hid (TkO Y16 w2.heap.size g1 q1 d1 (.slice a1 g1.length p1) (.slice a2 q1.length p2) (.slice a3 d1.length p3)) := (V20.out).keep cY
  have W21 : Hid (Bo Y16 w3.heap.size #[.int .i64 t1, .slice a1 g1.length p1, .slice a2 q1.length p2]) := (W20.out).keep cY
  have D21 : Hid (Bo Y16 w5.heap.size #[.int .i64 t1, .slice c1 g1.length o1, .slice c2 q2.length o2]) := (D20.out).keep cY
  have M21 : Hid (LdO Y16 Y4.heap.size (markGs 1 g1) (markPs (endG 1 g1) q2) (.slice c1 g1.length o1) (.slice c2 q2.length o2)) := (M20.out).keep cY
  have R21 : Hid (PcO Y16 Y4.heap.size (markL stPc mkPc m1 d2 d2.length) (.slice c3 d2.length o3)) := (R20.out).keep cY
  have H21 : Hid (TkO Y16 w15.heap.size g1 q3 d3 (.slice j1 g1.length k1) (.slice j2 q3.length k2) (.slice j3 d3.length k3)) := (H20.out).keep cY
  have U21 : Hid (Bo Y16 w16.heap.size #[.int .i64 t1, .slice j1 g1.length k1, .slice j2 q3.length k2]) := by rw [hY16]; exact Bo.new _ _ _
  have ZY16 : Hid (Y16.heap.size = w16.heap.size + 1) := by rw [hY16]; show _ = _; simp
  clear cY
  clear C20 A20 V20 W20 D20 M20 R20 H20
  have kw : ∀ k, (w16.alloc (.cells #[.int .i64 t1, .slice j1 g1.length k1, .slice j2 q3.length k2] 30)).cell? ⟨w3.heap.size, k, none⟩ = (#[.int .i64 t1, .slice a1 g1.length p1, .slice a2 q1.length p2] : Array Value)[k]? := by rw [← hY16]; exact W21.out.c
  clear hY16
  go_wp2_with fail
  clear kw
  rw [← HY16.out]
  refine (eqLand_o t1 g1 _ q1 _ _ _ _ _ _ Y16 H21.out.l V21.out.l LQ3.out BD3.out.a BD3.out.b BD3.out.c).mono ?_
  rintro e w17 ⟨rfl, c⟩
  have C22 : Hid (Below w.heap.size w w17) := bl_trans C21.out c
  have A22 : Hid (Bo w17 w.heap.size #[.int .i64 t, v1, v2]) := (A21.out).keep c
  have V22 : Hid (TkO w17 w2.heap.size g1 q1 d1 (.slice a1 g1.length p1) (.slice a2 q1.length p2) (.slice a3 d1.length p3)) := (V21.out).keep c
  have W22 : Hid (Bo w17 w3.heap.size #[.int .i64 t1, .slice a1 g1.length p1, .slice a2 q1.length p2]) := (W21.out).keep c
  have D22 : Hid (Bo w17 w5.heap.size #[.int .i64 t1, .slice c1 g1.length o1, .slice c2 q2.length o2]) := (D21.out).keep c
  have M22 : Hid (LdO w17 Y4.heap.size (markGs 1 g1) (markPs (endG 1 g1) q2) (.slice c1 g1.length o1) (.slice c2 q2.length o2)) := (M21.out).keep c
  have R22 : Hid (PcO w17 Y4.heap.size (markL stPc mkPc m1 d2 d2.length) (.slice c3 d2.length o3)) := (R21.out).keep c
  have H22 : Hid (TkO w17 w15.heap.size g1 q3 d3 (.slice j1 g1.length k1) (.slice j2 q3.length k2) (.slice j3 d3.length k3)) := (H21.out).keep c
  have U22 : Hid (Bo w17 w16.heap.size #[.int .i64 t1, .slice j1 g1.length k1, .slice j2 q3.length k2]) := (U21.out).keep c
  clear c
  clear C21 A21 V21 W21 D21 M21 R21 H21 U21
  go_wp2_with fail
  refine (eqPc_sl H22.out.c V22.out.c LD3.out BD3.out.d BD3.out.e).mono ?_
  rintro e w18 ⟨rfl, c⟩
  have C23 : Hid (Below w.heap.size w w18) := bl_trans C22.out c
  have A23 : Hid (Bo w18 w.heap.size #[.int .i64 t, v1, v2]) := (A22.out).keep c
  have V23 : Hid (TkO w18 w2.heap.size g1 q1 d1 (.slice a1 g1.length p1) (.slice a2 q1.length p2) (.slice a3 d1.length p3)) := (V22.out).keep c
  have W23 : Hid (Bo w18 w3.heap.size #[.int .i64 t1, .slice a1 g1.length p1, .slice a2 q1.length p2]) := (W22.out).keep c
  have D23 : Hid (Bo w18 w5.heap.size #[.int .i64 t1, .slice c1 g1.length o1, .slice c2 q2.length o2]) := (D22.out).keep c
  have M23 : Hid (LdO w18 Y4.heap.size (markGs 1 g1) (markPs (endG 1 g1) q2) (.slice c1 g1.length o1) (.slice c2 q2.length o2)) := (M22.out).keep c
  have R23 : Hid (PcO w18 Y4.heap.size (markL stPc mkPc m1 d2 d2.length) (.slice c3 d2.length o3)) := (R22.out).keep c
  have H23 : Hid (TkO w18 w15.heap.size g1 q3 d3 (.slice j1 g1.length k1) (.slice j2 q3.length k2) (.slice j3 d3.length k3)) := (H22.out).keep c
  have U23 : Hid (Bo w18 w16.heap.size #[.int .i64 t1, .slice j1 g1.length k1, .slice j2 q3.length k2]) := (U22.out).keep c
  clear c
  clear C22 A22 V22 W22 D22 M22 R22 H22 U22
  clear H23 U23
  have kz := D23.out.c
  go_wp2_with fail
  clear kz
  refine (heldLand_o t1 g1 q2 _ _ _ 1 _ M23.out BD2.out.a BD2.out.b BD2.out.c (by omega) (by omega)).mono ?_
  rintro e w19 ⟨he, c⟩
  rw [← HM1.out] at he
  subst he
  have C24 : Hid (Below w.heap.size w w19) := bl_trans C23.out c
  have A24 : Hid (Bo w19 w.heap.size #[.int .i64 t, v1, v2]) := (A23.out).keep c
  have V24 : Hid (TkO w19 w2.heap.size g1 q1 d1 (.slice a1 g1.length p1) (.slice a2 q1.length p2) (.slice a3 d1.length p3)) := (V23.out).keep c
  have W24 : Hid (Bo w19 w3.heap.size #[.int .i64 t1, .slice a1 g1.length p1, .slice a2 q1.length p2]) := (W23.out).keep c
  have D24 : Hid (Bo w19 w5.heap.size #[.int .i64 t1, .slice c1 g1.length o1, .slice c2 q2.length o2]) := (D23.out).keep c
  have M24 : Hid (LdO w19 Y4.heap.size (markGs 1 g1) (markPs (endG 1 g1) q2) (.slice c1 g1.length o1) (.slice c2 q2.length o2)) := (M23.out).keep c
  have R24 : Hid (PcO w19 Y4.heap.size (markL stPc mkPc m1 d2 d2.length) (.slice c3 d2.length o3)) := (R23.out).keep c
  clear c
  clear C23 A23 V23 W23 D23 M23 R23
  go_wp2_with fail
  refine (heldPc_sl d2 _ _ m1 _ R24.out BD2.out.d BD2.out.e (by omega) (by omega)).mono ?_
  rintro e w20 ⟨he, c⟩
  rw [← HM2.out] at he
  subst he
  have C25 : Hid (Below w.heap.size w w20) := bl_trans C24.out c
  have A25 : Hid (Bo w20 w.heap.size #[.int .i64 t, v1, v2]) := (A24.out).keep c
  have V25 : Hid (TkO w20 w2.heap.size g1 q1 d1 (.slice a1 g1.length p1) (.slice a2 q1.length p2) (.slice a3 d1.length p3)) := (V24.out).keep c
  have W25 : Hid (Bo w20 w3.heap.size #[.int .i64 t1, .slice a1 g1.length p1, .slice a2 q1.length p2]) := (W24.out).keep c
  have D25 : Hid (Bo w20 w5.heap.size #[.int .i64 t1, .slice c1 g1.length o1, .slice c2 q2.length o2]) := (D24.out).keep c
  have M25 : Hid (LdO w20 Y4.heap.size (markGs 1 g1) (markPs (endG 1 g1) q2) (.slice c1 g1.length o1) (.slice c2 q2.length o2)) := (M24.out).keep c
  have R25 : Hid (PcO w20 Y4.heap.size (markL stPc mkPc m1 d2 d2.length) (.slice c3 d2.length o3)) := (R24.out).keep c
  clear c
  clear C24 A24 V24 W24 D24 M24 R24
  go_wp2
  go_ret
  exact ⟨rfl, C25.out⟩
end Go.Proofs.YtgehmpnlfnlboaaGreatDoor
