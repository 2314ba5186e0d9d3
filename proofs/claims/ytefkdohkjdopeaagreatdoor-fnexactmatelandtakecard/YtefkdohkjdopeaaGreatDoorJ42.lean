import Derived.Test.YtefkdohkjdopeaaGreatDoorJ28
import Derived.Test.YtefkdohkjdopeaaGreatDoorJ35
import Derived.Test.YtefkdohkjdopeaaGreatDoorJ36
import Derived.Test.YtefkdohkjdopeaaGreatDoorJ40
import Derived.Test.YtefkdohkjdopeaaGreatDoorJ41
import Derived.Deep.RegionHeld3
import Derived.Laws.Pointers
import Derived.StillTactics
namespace Go.Proofs.YtefkdohkjdopeaaGreatDoor
open Go.RowKit
set_option linter.unusedVariables false
structure Bo (y : World) (b : Nat) (O : Array Value) : Prop where
 c : ∀ k, y.cell? ⟨b, k, none⟩ = O[k]?
 l : b < y.heap.size
theorem Bo.keep {y z : World} {b : Nat} {O : Array Value} (h : Bo y b O) (hb : Below y.heap.size y z) : Bo z b O :=
 ⟨fun k => (hb.cell (p := ⟨b, k, none⟩) h.l).trans (h.c k), Nat.lt_of_lt_of_le h.l hb.size⟩
theorem Bo.off {X : Nat → Prop} {y z : World} {b : Nat} {O : Array Value} (h : Bo y b O) (ho : Off X y z) (hn : ¬ X b) : Bo z b O :=
 ⟨fun k => (ho.cell (p := ⟨b, k, none⟩) h.l hn).trans (h.c k), Nat.lt_of_lt_of_le h.l ho.size⟩
theorem Bo.new (y : World) (O : Array Value) (t : TypeId) : Bo (y.alloc (.cells O t)) y.heap.size O :=
 ⟨fun k => by simp [go_sem], by simp⟩
theorem bl_off2 {X : Nat → Prop} {w y z : World} (h : Below w.heap.size w y) (ho : Off X y z) (hP : ∀ j, X j → w.heap.size ≤ j) : Below w.heap.size w z := h.trans (ho.below hP h.size)
theorem lns_like {qs ps : List P.PlaceD} (h : P.Like qs ps) (hl : P.Lns ps) : ∀ q ∈ qs, q.ws.length ≤ 1048576 := by
 intro q hq
 obtain ⟨k, hk⟩ := List.getElem?_of_mem hq
 obtain ⟨p, hp, -, -, e⟩ := h.get hk
 rw [e]
 exact hl p (List.mem_of_getElem? hp)
structure SmallT (gs : List G.GrantD) (qs : List P.PlaceD) (ds : List Pc.PcD) : Prop where
 a : gs.length ≤ 1048576
 b : qs.length ≤ 1048576
 c : ∀ q ∈ qs, q.ws.length ≤ 1048576
 d : ds.length ≤ 1048576
 e : ∀ d ∈ ds, d.ws.length ≤ 1048576
 f : gs.length ≤ 41 ∧ qs.length ≤ 4 ∧ ds.length ≤ 1
theorem TakeLSay.small {t : Int} {gs : List G.GrantD} {ps : List P.PlaceD} {p : TakeP} {t' : Int} {gs' : List G.GrantD} {qs : List P.PlaceD} {ds : List Pc.PcD} (h : TakeLSay t gs ps p t' gs' qs ds) : SmallT gs' qs ds := by
 rcases h with ⟨-, -, rfl, rfl, rfl⟩ | ⟨y, rfl, k, rfl, e⟩
 ·
  exact ⟨by simp, by simp, (fun q hq => by cases hq), by simp, (fun d hd => by cases hd), by simp, by simp, by simp⟩
 ·
  have h1 : gs.length ≤ 40 := y.2.1.1
  have h1' := takeF_len (t := t') (gs := gs) (ps := ps) (p := p)
  have h2 : qs.length ≤ 4 := by rw [k.len]; exact y.2.2.1.1
  have h4 : ∀ q ∈ qs, q.ws.length ≤ 1048576 := by
   intro q hq
   obtain ⟨i, hi⟩ := List.getElem?_of_mem hq
   obtain ⟨r, hr, -, -, e⟩ := k.get hi
   have := (y.2.2.1.2.2 r (List.mem_of_getElem? hr)).2.2.1
   rw [e]
   omega
  have h5 : ds.length ≤ 1 ∧ ∀ d ∈ ds, d.ws.length ≤ 1048576 := by
   rcases takeF_cases t' gs ps p with hn | ⟨x, hx, hx0⟩
   ·
    rw [hn] at e
    have : ds = [] := List.map_eq_nil_iff.1 e
    subst this
    exact ⟨by simp, fun d hd => by cases hd⟩
   ·
    rw [hx] at e
    have hl : ds.length = 1 := by simpa using congrArg List.length e
    refine ⟨by omega, fun d hd => ?_⟩
    have hm : d.says ∈ [x] := by rw [← e]; exact List.mem_map_of_mem hd
    have e2 : d.says = x := by simpa using hm
    have e3 : d.ws = [] := by rw [← hx0, ← e2]; rfl
    rw [e3]
    simp
  exact ⟨by omega, by omega, h4, by omega, h5.2, by omega, h2, h5.1⟩
theorem SmallT.ends {gs : List G.GrantD} {qs : List P.PlaceD} {ds : List Pc.PcD} (h : SmallT gs qs ds) : 0 ≤ endP (endG 1 gs) qs ∧ endP (endG 1 gs) qs ≤ 100000000 ∧ 0 ≤ foldK stPc (endP (endG 1 gs) qs) ds ds.length := by
 have h1 := endG_le 1 gs
 have h2 := endP_le (endG 1 gs) qs h.c
 have h3 := foldPc_bound (endP (endG 1 gs) qs) ds h.e ds.length
 obtain ⟨f1, f2, f3⟩ := h.f
 omega
theorem ldK {w w5 y : World} {t : Int} {gs : List G.GrantD} {qs : List P.PlaceD} {v1 v2 : Value} {bx e1 e2 : Nat} (hA : ∀ k, w5.cell? ⟨w.heap.size, k, none⟩ = (#[.int .i64 t, v1, v2] : Array Value)[k]?) (hX : ∀ k, w5.cell? ⟨bx, k, none⟩ = (#[.int .i64 t, .slice (some ⟨e1, 0, none⟩) gs.length gs.length, .slice (some ⟨e2, 0, none⟩) qs.length qs.length] : Array Value)[k]?) (zA : w.heap.size < w5.heap.size) (zX : bx < w5.heap.size) (hb : Below w5.heap.size w5 y) :
  Below w5.heap.size w5 y ∧ (y.cell? ⟨w.heap.size, 0, none⟩ = some (.int .i64 t) ∧ y.cell? ⟨w.heap.size, 1, none⟩ = some (v1) ∧ y.cell? ⟨w.heap.size, 2, none⟩ = some (v2) ∧ y.cell? ⟨bx, 0, none⟩ = some (.int .i64 t) ∧ y.cell? ⟨bx, 1, none⟩ = some (.slice (some ⟨e1, 0, none⟩) gs.length gs.length) ∧ y.cell? ⟨bx, 2, none⟩ = some (.slice (some ⟨e2, 0, none⟩) qs.length qs.length)) := by
 have a : ∀ k, y.cell? ⟨w.heap.size, k, none⟩ = (#[.int .i64 t, v1, v2] : Array Value)[k]? := fun k => (hb.cell (p := ⟨w.heap.size, k, none⟩) zA).trans (hA k)
 have b : ∀ k, y.cell? ⟨bx, k, none⟩ = (#[.int .i64 t, .slice (some ⟨e1, 0, none⟩) gs.length gs.length, .slice (some ⟨e2, 0, none⟩) qs.length qs.length] : Array Value)[k]? := fun k => (hb.cell (p := ⟨bx, k, none⟩) zX).trans (hX k)
 exact ⟨hb, a 0, a 1, a 2, b 0, b 1, b 2⟩
theorem there_keepK {y z : World} {b n : Nat} (h : y.there b 0 n) (hb : Below y.heap.size y z) (hl : b < y.heap.size) : z.there b 0 n := fun j hj => by
 have h1 := h j hj
 rw [hb.cell (p := ⟨b, 0 + j, none⟩) hl, hb.frozen (p := ⟨b, 0 + j, none⟩) hl]
 exact h1
theorem range_keepK {y z : World} {b : Nat} {l : List Value} (h : y.rangeAt b 0 l) (hb : Below y.heap.size y z) (hl : b < y.heap.size) : z.rangeAt b 0 l := fun j v hj => (hb.cell (p := ⟨b, 0 + j, none⟩) hl).trans (h j v hj)
structure Bt (y : World) (b : Nat) (l : List Value) : Prop where
 r : y.rangeAt b 0 l
 l : b < y.heap.size
theorem Bt.keep {y z : World} {b : Nat} {l : List Value} (h : Bt y b l) (hb : Below y.heap.size y z) : Bt z b l := ⟨range_keepK h.r hb h.l, Nat.lt_of_lt_of_le h.l hb.size⟩
theorem Bt.off {X : Nat → Prop} {y z : World} {b : Nat} {l : List Value} (h : Bt y b l) (ho : Off X y z) (hn : ¬ X b) : Bt z b l :=
 ⟨fun j v hj => (ho.cell (p := ⟨b, 0 + j, none⟩) h.l hn).trans (h.r j v hj), Nat.lt_of_lt_of_le h.l ho.size⟩
theorem pcK {w5 y : World} {p : ParcelD} {v5 : Value} {b0 bx e5 : Nat} (hA : ∀ k, w5.cell? ⟨b0, k, none⟩ = (#[.int .i64 p.k, .string p.b, .int .i64 p.s, v5, .string p.h, .string p.c, .int .i64 p.t] : Array Value)[k]?) (hX : ∀ k, w5.cell? ⟨bx, k, none⟩ = (#[.int .i64 p.k, .string p.b, .int .i64 p.s, .slice (some ⟨e5, 0, none⟩) p.ws.length p.ws.length, .string p.h, .string p.c, .int .i64 p.t] : Array Value)[k]?) (zA : b0 < w5.heap.size) (zX : bx < w5.heap.size) (hb : Below w5.heap.size w5 y) :
  Below w5.heap.size w5 y ∧ (y.cell? ⟨b0, 0, none⟩ = some (.int .i64 p.k) ∧ y.cell? ⟨b0, 1, none⟩ = some (.string p.b) ∧ y.cell? ⟨b0, 2, none⟩ = some (.int .i64 p.s) ∧ y.cell? ⟨b0, 3, none⟩ = some v5 ∧ y.cell? ⟨b0, 4, none⟩ = some (.string p.h) ∧ y.cell? ⟨b0, 5, none⟩ = some (.string p.c) ∧ y.cell? ⟨b0, 6, none⟩ = some (.int .i64 p.t) ∧ y.cell? ⟨bx, 0, none⟩ = some (.int .i64 p.k) ∧ y.cell? ⟨bx, 1, none⟩ = some (.string p.b) ∧ y.cell? ⟨bx, 2, none⟩ = some (.int .i64 p.s) ∧ y.cell? ⟨bx, 3, none⟩ = some (.slice (some ⟨e5, 0, none⟩) p.ws.length p.ws.length) ∧ y.cell? ⟨bx, 4, none⟩ = some (.string p.h) ∧ y.cell? ⟨bx, 5, none⟩ = some (.string p.c) ∧ y.cell? ⟨bx, 6, none⟩ = some (.int .i64 p.t)) := by
 have a := fun k => (hb.cell (p := ⟨b0, k, none⟩) zA).trans (hA k)
 have b := fun k => (hb.cell (p := ⟨bx, k, none⟩) zX).trans (hX k)
 exact ⟨hb, a 0, a 1, a 2, a 3, a 4, a 5, a 6, b 0, b 1, b 2, b 3, b 4, b 5, b 6⟩
theorem tko_slices {y : World} {B : Nat} {gs : List G.GrantD} {qs : List P.PlaceD} {ds : List Pc.PcD} {s1 s2 v : Value} (h : TkO y B gs qs ds s1 s2 v) : ∃ a1 c1 a2 c2, s1 = .slice a1 gs.length c1 ∧ s2 = .slice a2 qs.length c2 := by
 obtain ⟨a1, c1, h1⟩ := G.Sl.shape h.l.g
 obtain ⟨a2, c2, h2⟩ := Pr.Sl.shape h.l.p.o
 rw [List.length_map] at h2
 exact ⟨a1, c1, a2, c2, h1, h2⟩
structure JS (X : World) (t : Int) (gs : List G.GrantD) (ps : List P.PlaceD) (v1 v2 : Value) (p : ParcelD) (v5 : Value) (b1 b2 : Nat) (zs : List P.PlaceD) (b5 : Nat) (t1 : Int) (g1 : List G.GrantD) (q1 : List P.PlaceD) (d1 : List Pc.PcD) (s1 s2 sv : Value) (bb : Nat) (L : Array Bool) (y : World) (f : Nat → Value) : Prop where
 bl : Below X.heap.size X y
 a0 : L.getD 0 false = true → f 28 = .agg #[.int .i64 t, v1, v2]
 a1 : L.getD 1 false = true → f 29 = .agg #[.int .i64 t, .slice (some ⟨b1, 0, none⟩) gs.length gs.length, .slice (some ⟨b2, 0, none⟩) zs.length zs.length] ∧ P.Like zs ps ∧ (L.getD 4 false = false → P.LandAt y gs zs b1 b2)
 a2 : L.getD 2 false = true → f 30 = .agg #[.int .i64 p.k, .string p.b, .int .i64 p.s, v5, .string p.h, .string p.c, .int .i64 p.t]
 a3 : L.getD 3 false = true → f 31 = .agg #[.int .i64 p.k, .string p.b, .int .i64 p.s, .slice (some ⟨b5, 0, none⟩) p.ws.length p.ws.length, .string p.h, .string p.c, .int .i64 p.t]
 a4 : L.getD 4 false = true → f 32 = .tuple #[.agg #[.int .i64 t1, s1, s2], sv] ∧ (P.Like zs ps ∧ TakeLSay t gs zs (⟨p.k, p.b, p.h, p.c, p.t⟩ : TakeP) t1 g1 q1 d1) ∧ TkO y X.heap.size g1 q1 d1 s1 s2 sv
 a5 : L.getD 5 false = true → f 27 = .tuple #[.agg #[.int .i64 t1, s1, s2], sv]
 a6 : L.getD 6 false = true → f 33 = .agg #[.int .i64 t1, s1, s2]
 a7 : L.getD 7 false = true → f 34 = sv
 a8 : L.getD 8 false = true → f 6 = .pointer (some ⟨bb, 0, none⟩) ∧ X.heap.size ≤ bb ∧ bb < y.heap.size ∧ (L.getD 9 false = false → y.there bb 0 3) ∧ (L.getD 4 false = true → ¬ TkO.bs q1 d1 s1 s2 sv bb)
 a9 : L.getD 9 false = true → y.rangeAt bb 0 [.int .i64 t1, s1, s2]
 a10 : L.getD 10 false = true → f 7 = sv
def KS (X : World) (t : Int) (gs : List G.GrantD) (ps : List P.PlaceD) (v1 v2 : Value) (p : ParcelD) (v5 : Value) (L : Array Bool) (y : World) (f : Nat → Value) : Prop := ∃ (b1 b2 : Nat) (zs : List P.PlaceD) (b5 : Nat) (t1 : Int) (g1 : List G.GrantD) (q1 : List P.PlaceD) (d1 : List Pc.PcD) (s1 s2 sv : Value) (bb : Nat), JS X t gs ps v1 v2 p v5 b1 b2 zs b5 t1 g1 q1 d1 s1 s2 sv bb L y f
structure JI (X : World) (t : Int) (gs : List G.GrantD) (ps : List P.PlaceD) (v1 v2 : Value) (p : ParcelD) (v5 : Value) (b1 b2 : Nat) (zs : List P.PlaceD) (b5 : Nat) (t1 : Int) (g1 : List G.GrantD) (q1 : List P.PlaceD) (d1 : List Pc.PcD) (s1 s2 sv : Value) (bb : Nat) (L : Array Bool) (y : World) (f : Nat → Value) : Prop where
 bl : Below X.heap.size X y
 a0 : L.getD 0 false = true → f 105 = .agg #[.int .i64 t, v1, v2]
 a1 : L.getD 1 false = true → f 106 = .agg #[.int .i64 t, .slice (some ⟨b1, 0, none⟩) gs.length gs.length, .slice (some ⟨b2, 0, none⟩) zs.length zs.length] ∧ P.Like zs ps ∧ (L.getD 4 false = false → P.LandAt y gs zs b1 b2)
 a2 : L.getD 2 false = true → f 107 = .agg #[.int .i64 p.k, .string p.b, .int .i64 p.s, v5, .string p.h, .string p.c, .int .i64 p.t]
 a3 : L.getD 3 false = true → f 108 = .agg #[.int .i64 p.k, .string p.b, .int .i64 p.s, .slice (some ⟨b5, 0, none⟩) p.ws.length p.ws.length, .string p.h, .string p.c, .int .i64 p.t]
 a4 : L.getD 4 false = true → f 109 = .tuple #[.agg #[.int .i64 t1, s1, s2], sv] ∧ (P.Like zs ps ∧ TakeLSay t gs zs (⟨p.k, p.b, p.h, p.c, p.t⟩ : TakeP) t1 g1 q1 d1) ∧ TkO y X.heap.size g1 q1 d1 s1 s2 sv
 a5 : L.getD 5 false = true → f 104 = .tuple #[.agg #[.int .i64 t1, s1, s2], sv]
 a6 : L.getD 6 false = true → f 110 = .agg #[.int .i64 t1, s1, s2]
 a7 : L.getD 7 false = true → f 111 = sv
 a8 : L.getD 8 false = true → f 15 = .pointer (some ⟨bb, 0, none⟩) ∧ X.heap.size ≤ bb ∧ bb < y.heap.size ∧ (L.getD 9 false = false → y.there bb 0 3) ∧ (L.getD 4 false = true → ¬ TkO.bs q1 d1 s1 s2 sv bb)
 a9 : L.getD 9 false = true → y.rangeAt bb 0 [.int .i64 t1, s1, s2]
 a10 : L.getD 10 false = true → f 16 = sv
def KI (X : World) (t : Int) (gs : List G.GrantD) (ps : List P.PlaceD) (v1 v2 : Value) (p : ParcelD) (v5 : Value) (L : Array Bool) (y : World) (f : Nat → Value) : Prop := ∃ (b1 b2 : Nat) (zs : List P.PlaceD) (b5 : Nat) (t1 : Int) (g1 : List G.GrantD) (q1 : List P.PlaceD) (d1 : List Pc.PcD) (s1 s2 sv : Value) (bb : Nat), JI X t gs ps v1 v2 p v5 b1 b2 zs b5 t1 g1 q1 d1 s1 s2 sv bb L y f
set_option maxRecDepth 4000 in
set_option maxHeartbeats 16000000 in
theorem lawLandTake (hK1 : G.KeysSay) (hS1k : G.SortedSay) (hK2 : Pr.KeysSay) (hS2k : Pr.SortedSay) (t : Int) (gs : List G.GrantD) (ps : List P.PlaceD) (p : ParcelD) (v1 v2 v5 : Value) (w : World) (i1 : G.In w v1 gs) (i2 : P.In w v2 ps) (i5 : W.In w v5 p.ws) (hb : p.b.size ≤ maxLen) (hh : p.h.size ≤ maxLen) (hc : p.c.size ≤ maxLen) (hE : Er6 w) :
  Calls Tryz.prog 3 #[.agg #[.int .i64 t, v1, v2], .agg #[.int .i64 p.k, .string p.b, .int .i64 p.s, v5, .string p.h, .string p.c, .int .i64 p.t]] w fun e w' => e = .returned (.bool true) ∧ Below w.heap.size w w' := by
 have hinfo : (Tryz.prog.info? 34).map (·.size) = some 3 := by kernel_rfl
 have HE : Hid (Er6 w) := hE
 clear hE
 go_enter Tryz.func3, Tryz.ntmps3
 have C0 : Hid (Below w.heap.size w ((w.alloc (.cells #[.int .i64 t, v1, v2] 25)).alloc (.cells #[.int .i64 p.k, .string p.b, .int .i64 p.s, v5, .string p.h, .string p.c, .int .i64 p.t] 28))) := bl_alloc (bl_alloc (Below.refl _ _) _) _
 have A0 : Hid (Bo ((w.alloc (.cells #[.int .i64 t, v1, v2] 25)).alloc (.cells #[.int .i64 p.k, .string p.b, .int .i64 p.s, v5, .string p.h, .string p.c, .int .i64 p.t] 28)) w.heap.size #[.int .i64 t, v1, v2]) := (Bo.new w #[.int .i64 t, v1, v2] 25).keep (bl_alloc (Below.refl _ _) _)
 have E0 : Hid (Bo ((w.alloc (.cells #[.int .i64 t, v1, v2] 25)).alloc (.cells #[.int .i64 p.k, .string p.b, .int .i64 p.s, v5, .string p.h, .string p.c, .int .i64 p.t] 28)) (w.heap.size + 1) #[.int .i64 p.k, .string p.b, .int .i64 p.s, v5, .string p.h, .string p.c, .int .i64 p.t]) := by have h := Bo.new (w.alloc (.cells #[.int .i64 t, v1, v2] 25)) #[.int .i64 p.k, .string p.b, .int .i64 p.s, v5, .string p.h, .string p.c, .int .i64 p.t] 28; simp only [World.size_alloc] at h; exact h
 have ka : ∀ k, ((w.alloc (.cells #[.int .i64 t, v1, v2] 25)).alloc (.cells #[.int .i64 p.k, .string p.b, .int .i64 p.s, v5, .string p.h, .string p.c, .int .i64 p.t] 28)).cell? ⟨w.heap.size, k, none⟩ = (#[.int .i64 t, v1, v2] : Array Value)[k]? := A0.out.c
 go_wp2_with fail
 clear ka
 refine (P.szLand_le t gs ps v1 v2 _ (i1.keep C0.out) (i2.keep C0.out)).mono ?_
 rintro e w1 ⟨hx, c⟩
 have C1 : Hid (Below w.heap.size w w1) := bl_trans C0.out c
 have A1 : Hid (Bo w1 w.heap.size #[.int .i64 t, v1, v2]) := (A0.out).keep c
 have E1 : Hid (Bo w1 (w.heap.size + 1) #[.int .i64 p.k, .string p.b, .int .i64 p.s, v5, .string p.h, .string p.c, .int .i64 p.t]) := (E0.out).keep c
 clear c C0 A0 E0
 rcases hx with rfl | ⟨x, rfl, x0, xm, l1, l2, hL⟩
 ·
  go_wp2
  go_ret
  exact ⟨rfl, C1.out⟩
 have HL : Hid (P.Lns ps) := hL
 have HF : Hid (P.Fit gs ps) := ⟨i1.fits, fun p hp => ⟨(i2.inn p hp).1, (i2.inn p hp).2.fits⟩, l1, l2, hL⟩
 have HFT : Hid (TakeP.fits (⟨p.k, p.b, p.h, p.c, p.t⟩ : TakeP)) := ⟨hb, hh, hc⟩
 clear hL
 have ke := E1.out.c
 go_wp2_with fail
 clear ke
 refine (szParcel_any p v5 x _ (i5.keep C1.out) x0 xm hb hh hc).mono ?_
 rintro e w2 ⟨hx, c⟩
 have C2 : Hid (Below w.heap.size w w2) := bl_trans C1.out c
 have A2 : Hid (Bo w2 w.heap.size #[.int .i64 t, v1, v2]) := (A1.out).keep c
 have E2 : Hid (Bo w2 (w.heap.size + 1) #[.int .i64 p.k, .string p.b, .int .i64 p.s, v5, .string p.h, .string p.c, .int .i64 p.t]) := (E1.out).keep c
 clear c
 clear C1 A1 E1
 rcases hx with rfl | ⟨x', rfl, x0', l5⟩
 ·
  go_wp2
  go_ret
  exact ⟨rfl, C2.out⟩
 have HZ0 : Hid (w.heap.size + 1 < w2.heap.size) := E2.out.l
 have KA : Hid (∀ y, Below w2.heap.size w2 y → ∀ k, y.cell? ⟨w.heap.size, k, none⟩ = (#[.int .i64 t, v1, v2] : Array Value)[k]?) := fun y hy => (A2.out.keep hy).c
 have KB : Hid (∀ y, Below w2.heap.size w2 y → ∀ k, y.cell? ⟨w.heap.size + 1, k, none⟩ = (#[.int .i64 p.k, .string p.b, .int .i64 p.s, v5, .string p.h, .string p.c, .int .i64 p.t] : Array Value)[k]?) := fun y hy => (E2.out.keep hy).c
 have TO : Hid (∀ y, Below w2.heap.size w2 y → Calls Tryz.prog 7 #[.agg #[.int .i64 t, v1, v2]] y fun e w' => (∃ b1 b2 qs, e = .returned (.agg #[.int .i64 t, .slice (some ⟨b1, 0, none⟩) gs.length gs.length, .slice (some ⟨b2, 0, none⟩) qs.length qs.length]) ∧ P.Like qs ps ∧ P.LandAt w' gs qs b1 b2 ∧ LdO w' y.heap.size gs qs (.slice (some ⟨b1, 0, none⟩) gs.length gs.length) (.slice (some ⟨b2, 0, none⟩) qs.length qs.length)) ∧ Below y.heap.size y w') := fun y hy => P.toLand_o t gs ps v1 v2 y (i1.keep (bl_trans C2.out hy)) (i2.keep (bl_trans C2.out hy)) l1 l2 HL.out
 have TPC : Hid (∀ y, Below w2.heap.size w2 y → Calls Tryz.prog 8 #[.agg #[.int .i64 p.k, .string p.b, .int .i64 p.s, v5, .string p.h, .string p.c, .int .i64 p.t]] y fun e w' => ∃ b5, e = .returned (.agg #[.int .i64 p.k, .string p.b, .int .i64 p.s, .slice (some ⟨b5, 0, none⟩) p.ws.length p.ws.length, .string p.h, .string p.c, .int .i64 p.t]) ∧ W.Sl w' (.slice (some ⟨b5, 0, none⟩) p.ws.length p.ws.length) p.ws y.heap.size ∧ Below y.heap.size y w') := fun y hy => toParcel_sl p v5 y (i5.keep (bl_trans C2.out hy)) l5
 have CS : Hid (∀ y b1 b2 zs b5, Below w2.heap.size w2 y → P.Like zs ps → P.LandAt y gs zs b1 b2 → Calls Tryz.prog 6 #[.agg #[.int .i64 t, .slice (some ⟨b1, 0, none⟩) gs.length gs.length, .slice (some ⟨b2, 0, none⟩) zs.length zs.length], .agg #[.int .i64 p.k, .string p.b, .int .i64 p.s, .slice (some ⟨b5, 0, none⟩) p.ws.length p.ws.length, .string p.h, .string p.c, .int .i64 p.t]] y fun e w' => (∃ t' gs' qs ds s1 s2 v, e = .returned (.tuple #[.agg #[.int .i64 t', s1, s2], v]) ∧ TakeLSay t gs zs (⟨p.k, p.b, p.h, p.c, p.t⟩ : TakeP) t' gs' qs ds ∧ TkO w' y.heap.size gs' qs ds s1 s2 v) ∧ Below y.heap.size y w') := fun y b1 b2 zs b5 hy hz hA => specTakeL t gs zs b1 b2 (⟨p.k, p.b, p.h, p.c, p.t⟩ : TakeP) p.s _ _ _ y hA (HF.out.like hz) HFT.out
 go_wp2_with fail
 refine wp_region_any (by kernel_rfl) ?_
 refine reg_invH (fun k => (27 ≤ k ∧ k ≤ 34) ∨ k = 6 ∨ k = 7) 11 (KS w2 t gs ps v1 v2 p v5) (by decide) rfl ⟨0, 0, [], 0, 0, [], [], [], undef, undef, undef, 0, ⟨bl_drew (Below.refl _ _), (fun e => by cases e), (fun e => by cases e), (fun e => by cases e), (fun e => by cases e), (fun e => by cases e), (fun e => by cases e), (fun e => by cases e), (fun e => by cases e), (fun e => by cases e), (fun e => by cases e), (fun e => by cases e)⟩⟩ ?doneS ?stepS
 case stepS =>
  intro listed x y i hI hi hlt
  obtain rfl | rfl | rfl | rfl | rfl | rfl | rfl | rfl | rfl | rfl | rfl : i = 0 ∨ i = 1 ∨ i = 2 ∨ i = 3 ∨ i = 4 ∨ i = 5 ∨ i = 6 ∨ i = 7 ∨ i = 8 ∨ i = 9 ∨ i = 10 := by omega
  ·
   have ho := ready_open hi
   have HLZ : Hid (listed.size = 11) := hI.lz
   have hv1 : listed.getD 1 false = false := noT (fun h => openT ho (hI.tr 1 0 (by rfl) h))
   have hv4 : listed.getD 4 false = false := noT (fun h => openT ho (hI.tr 1 0 (by rfl) (hI.tr 4 1 (by rfl) h)))
   have hv5 : listed.getD 5 false = false := noT (fun h => openT ho (hI.tr 1 0 (by rfl) (hI.tr 4 1 (by rfl) (hI.tr 5 4 (by rfl) h))))
   have hv6 : listed.getD 6 false = false := noT (fun h => openT ho (hI.tr 1 0 (by rfl) (hI.tr 4 1 (by rfl) (hI.tr 5 4 (by rfl) (hI.tr 6 5 (by rfl) h)))))
   have hv7 : listed.getD 7 false = false := noT (fun h => openT ho (hI.tr 1 0 (by rfl) (hI.tr 4 1 (by rfl) (hI.tr 5 4 (by rfl) (hI.tr 7 5 (by rfl) h)))))
   have hv9 : listed.getD 9 false = false := noT (fun h => openT ho (hI.tr 1 0 (by rfl) (hI.tr 4 1 (by rfl) (hI.tr 5 4 (by rfl) (hI.tr 6 5 (by rfl) (hI.tr 9 6 (by rfl) h))))))
   have hv10 : listed.getD 10 false = false := noT (fun h => openT ho (hI.tr 1 0 (by rfl) (hI.tr 4 1 (by rfl) (hI.tr 5 4 (by rfl) (hI.tr 7 5 (by rfl) (hI.tr 10 7 (by rfl) h))))))
   obtain ⟨b1, b2, zs, b5, t1, g1, q1, d1, s1, s2, sv, bb, h⟩ := hI.j
   have e1 : x.tmps[2]?.getD undef = .pointer (some ⟨w.heap.size, 0, none⟩) := ev_tmp (hI.out 2 (by omega))
   have k0 : y.cell? ⟨w.heap.size, 0, none⟩ = some (.int .i64 t) := KA.out y h.bl 0
   have k1 : y.cell? ⟨w.heap.size, 1, none⟩ = some v1 := KA.out y h.bl 1
   have k2 : y.cell? ⟨w.heap.size, 2, none⟩ = some v2 := KA.out y h.bl 2
   have HH : Hid (JS w2 t gs ps v1 v2 p v5 b1 b2 zs b5 t1 g1 q1 d1 s1 s2 sv bb listed y (fun k => x.tmps.getD k undef)) := h
   have HJ : Hid (Ih _ _ _ _ _ _ _ _) := hI
   have HI : Hid (_ ∈ Region.ready _ _ _) := hi
   clear hi hI ho h
   refine wpOp_plain rfl rfl ?_
   refine wp_cover (fun K hK => ?_)
   go_simp
   have h := HH.out
   exact hK.out _ _ (HJ.out.put HI.out (by omega) (by show (_ ∧ _) ∨ _; omega) (Nat.le_of_ble_eq_true rfl) ⟨b1, b2, zs, b5, t1, g1, q1, d1, s1, s2, sv, bb, (h.bl), (fun _ => rfl), (fun e => by rw [setT_ne (by decide), hv1] at e; cases e), (fun e => h.a2 (by rw [setT_ne (by decide)] at e; exact e)), (fun e => h.a3 (by rw [setT_ne (by decide)] at e; exact e)), (fun e => by rw [setT_ne (by decide), hv4] at e; cases e), (fun e => by rw [setT_ne (by decide), hv5] at e; cases e), (fun e => by rw [setT_ne (by decide), hv6] at e; cases e), (fun e => by rw [setT_ne (by decide), hv7] at e; cases e), (fun e => ⟨(h.a8 (by rw [setT_ne (by decide)] at e; exact e)).1, (h.a8 (by rw [setT_ne (by decide)] at e; exact e)).2.1, (h.a8 (by rw [setT_ne (by decide)] at e; exact e)).2.2.1, (fun e9 => (h.a8 (by rw [setT_ne (by decide)] at e; exact e)).2.2.2.1 (by rw [setT_ne (by decide)] at e9; exact e9)), fun e4 => (h.a8 (by rw [setT_ne (by decide)] at e; exact e)).2.2.2.2 (by rw [setT_ne (by decide)] at e4; exact e4)⟩), (fun e => by rw [setT_ne (by decide), hv9] at e; cases e), (fun e => by rw [setT_ne (by decide), hv10] at e; cases e)⟩)
  ·
   have ho := ready_open hi
   have HLZ : Hid (listed.size = 11) := hI.lz
   have hv4 : listed.getD 4 false = false := noT (fun h => openT ho (hI.tr 4 1 (by rfl) h))
   have hv5 : listed.getD 5 false = false := noT (fun h => openT ho (hI.tr 4 1 (by rfl) (hI.tr 5 4 (by rfl) h)))
   have hv6 : listed.getD 6 false = false := noT (fun h => openT ho (hI.tr 4 1 (by rfl) (hI.tr 5 4 (by rfl) (hI.tr 6 5 (by rfl) h))))
   have hv7 : listed.getD 7 false = false := noT (fun h => openT ho (hI.tr 4 1 (by rfl) (hI.tr 5 4 (by rfl) (hI.tr 7 5 (by rfl) h))))
   have hv9 : listed.getD 9 false = false := noT (fun h => openT ho (hI.tr 4 1 (by rfl) (hI.tr 5 4 (by rfl) (hI.tr 6 5 (by rfl) (hI.tr 9 6 (by rfl) h)))))
   have hv10 : listed.getD 10 false = false := noT (fun h => openT ho (hI.tr 4 1 (by rfl) (hI.tr 5 4 (by rfl) (hI.tr 7 5 (by rfl) (hI.tr 10 7 (by rfl) h)))))
   obtain ⟨b1, b2, zs, b5, t1, g1, q1, d1, s1, s2, sv, bb, h⟩ := hI.j
   have e1 : x.tmps[28]?.getD undef = .agg #[.int .i64 t, v1, v2] := ev_tmp (h.a0 (waits_of hi (i := 1) (j := 0) (by rfl)))
   have HH : Hid (JS w2 t gs ps v1 v2 p v5 b1 b2 zs b5 t1 g1 q1 d1 s1 s2 sv bb listed y (fun k => x.tmps.getD k undef)) := h
   have HJ : Hid (Ih _ _ _ _ _ _ _ _) := hI
   have HI : Hid (_ ∈ Region.ready _ _ _) := hi
   clear hi hI ho h
   refine wpOp_plain rfl rfl ?_
   refine wp_cover (fun K hK => ?_)
   go_simp
   refine (TO.out y HH.out.bl).mono ?_
   rintro e y9 ⟨⟨n1, n2, nz, rfl, hz9, hA9, -⟩, c9⟩
   have h := HH.out
   exact hK.out _ _ (HJ.out.put HI.out (by omega) (by show (_ ∧ _) ∨ _; omega) (Nat.le_of_ble_eq_true rfl) ⟨n1, n2, nz, b5, t1, g1, q1, d1, s1, s2, sv, bb, (bl_trans h.bl c9), (fun e => h.a0 (by rw [setT_ne (by decide)] at e; exact e)), (fun _ => ⟨rfl, hz9, fun _ => hA9⟩), (fun e => h.a2 (by rw [setT_ne (by decide)] at e; exact e)), (fun e => h.a3 (by rw [setT_ne (by decide)] at e; exact e)), (fun e => by rw [setT_ne (by decide), hv4] at e; cases e), (fun e => by rw [setT_ne (by decide), hv5] at e; cases e), (fun e => by rw [setT_ne (by decide), hv6] at e; cases e), (fun e => by rw [setT_ne (by decide), hv7] at e; cases e), (fun e => ⟨(h.a8 (by rw [setT_ne (by decide)] at e; exact e)).1, (h.a8 (by rw [setT_ne (by decide)] at e; exact e)).2.1, Nat.lt_of_lt_of_le (h.a8 (by rw [setT_ne (by decide)] at e; exact e)).2.2.1 c9.size, (fun e9 => there_keepK ((h.a8 (by rw [setT_ne (by decide)] at e; exact e)).2.2.2.1 (by rw [setT_ne (by decide)] at e9; exact e9)) c9 (h.a8 (by rw [setT_ne (by decide)] at e; exact e)).2.2.1), fun e4 => (h.a8 (by rw [setT_ne (by decide)] at e; exact e)).2.2.2.2 (by rw [setT_ne (by decide)] at e4; exact e4)⟩), (fun e => by rw [setT_ne (by decide), hv9] at e; cases e), (fun e => by rw [setT_ne (by decide), hv10] at e; cases e)⟩)
  ·
   have ho := ready_open hi
   have HLZ : Hid (listed.size = 11) := hI.lz
   have hv3 : listed.getD 3 false = false := noT (fun h => openT ho (hI.tr 3 2 (by rfl) h))
   have hv4 : listed.getD 4 false = false := noT (fun h => openT ho (hI.tr 3 2 (by rfl) (hI.tr 4 3 (by rfl) h)))
   have hv5 : listed.getD 5 false = false := noT (fun h => openT ho (hI.tr 3 2 (by rfl) (hI.tr 4 3 (by rfl) (hI.tr 5 4 (by rfl) h))))
   have hv6 : listed.getD 6 false = false := noT (fun h => openT ho (hI.tr 3 2 (by rfl) (hI.tr 4 3 (by rfl) (hI.tr 5 4 (by rfl) (hI.tr 6 5 (by rfl) h)))))
   have hv7 : listed.getD 7 false = false := noT (fun h => openT ho (hI.tr 3 2 (by rfl) (hI.tr 4 3 (by rfl) (hI.tr 5 4 (by rfl) (hI.tr 7 5 (by rfl) h)))))
   have hv9 : listed.getD 9 false = false := noT (fun h => openT ho (hI.tr 3 2 (by rfl) (hI.tr 4 3 (by rfl) (hI.tr 5 4 (by rfl) (hI.tr 6 5 (by rfl) (hI.tr 9 6 (by rfl) h))))))
   have hv10 : listed.getD 10 false = false := noT (fun h => openT ho (hI.tr 3 2 (by rfl) (hI.tr 4 3 (by rfl) (hI.tr 5 4 (by rfl) (hI.tr 7 5 (by rfl) (hI.tr 10 7 (by rfl) h))))))
   obtain ⟨b1, b2, zs, b5, t1, g1, q1, d1, s1, s2, sv, bb, h⟩ := hI.j
   have e1 : x.tmps[3]?.getD undef = .pointer (some ⟨w.heap.size + 1, 0, none⟩) := ev_tmp (hI.out 3 (by omega))
   have k0 : y.cell? ⟨w.heap.size + 1, 0, none⟩ = some (.int .i64 p.k) := KB.out y h.bl 0
   have k1 : y.cell? ⟨w.heap.size + 1, 1, none⟩ = some (.string p.b) := KB.out y h.bl 1
   have k2 : y.cell? ⟨w.heap.size + 1, 2, none⟩ = some (.int .i64 p.s) := KB.out y h.bl 2
   have k3 : y.cell? ⟨w.heap.size + 1, 3, none⟩ = some (v5) := KB.out y h.bl 3
   have k4 : y.cell? ⟨w.heap.size + 1, 4, none⟩ = some (.string p.h) := KB.out y h.bl 4
   have k5 : y.cell? ⟨w.heap.size + 1, 5, none⟩ = some (.string p.c) := KB.out y h.bl 5
   have k6 : y.cell? ⟨w.heap.size + 1, 6, none⟩ = some (.int .i64 p.t) := KB.out y h.bl 6
   have HH : Hid (JS w2 t gs ps v1 v2 p v5 b1 b2 zs b5 t1 g1 q1 d1 s1 s2 sv bb listed y (fun k => x.tmps.getD k undef)) := h
   have HJ : Hid (Ih _ _ _ _ _ _ _ _) := hI
   have HI : Hid (_ ∈ Region.ready _ _ _) := hi
   clear hi hI ho h
   refine wpOp_plain rfl rfl ?_
   refine wp_cover (fun K hK => ?_)
   go_simp
   have h := HH.out
   exact hK.out _ _ (HJ.out.put HI.out (by omega) (by show (_ ∧ _) ∨ _; omega) (Nat.le_of_ble_eq_true rfl) ⟨b1, b2, zs, b5, t1, g1, q1, d1, s1, s2, sv, bb, (h.bl), (fun e => h.a0 (by rw [setT_ne (by decide)] at e; exact e)), (fun e => ⟨(h.a1 (by rw [setT_ne (by decide)] at e; exact e)).1, (h.a1 (by rw [setT_ne (by decide)] at e; exact e)).2.1, fun e4 => ((h.a1 (by rw [setT_ne (by decide)] at e; exact e)).2.2 (by rw [setT_ne (by decide)] at e4; exact e4))⟩), (fun _ => rfl), (fun e => by rw [setT_ne (by decide), hv3] at e; cases e), (fun e => by rw [setT_ne (by decide), hv4] at e; cases e), (fun e => by rw [setT_ne (by decide), hv5] at e; cases e), (fun e => by rw [setT_ne (by decide), hv6] at e; cases e), (fun e => by rw [setT_ne (by decide), hv7] at e; cases e), (fun e => ⟨(h.a8 (by rw [setT_ne (by decide)] at e; exact e)).1, (h.a8 (by rw [setT_ne (by decide)] at e; exact e)).2.1, (h.a8 (by rw [setT_ne (by decide)] at e; exact e)).2.2.1, (fun e9 => (h.a8 (by rw [setT_ne (by decide)] at e; exact e)).2.2.2.1 (by rw [setT_ne (by decide)] at e9; exact e9)), fun e4 => (h.a8 (by rw [setT_ne (by decide)] at e; exact e)).2.2.2.2 (by rw [setT_ne (by decide)] at e4; exact e4)⟩), (fun e => by rw [setT_ne (by decide), hv9] at e; cases e), (fun e => by rw [setT_ne (by decide), hv10] at e; cases e)⟩)
  ·
   have ho := ready_open hi
   have HLZ : Hid (listed.size = 11) := hI.lz
   have hv4 : listed.getD 4 false = false := noT (fun h => openT ho (hI.tr 4 3 (by rfl) h))
   have hv5 : listed.getD 5 false = false := noT (fun h => openT ho (hI.tr 4 3 (by rfl) (hI.tr 5 4 (by rfl) h)))
   have hv6 : listed.getD 6 false = false := noT (fun h => openT ho (hI.tr 4 3 (by rfl) (hI.tr 5 4 (by rfl) (hI.tr 6 5 (by rfl) h))))
   have hv7 : listed.getD 7 false = false := noT (fun h => openT ho (hI.tr 4 3 (by rfl) (hI.tr 5 4 (by rfl) (hI.tr 7 5 (by rfl) h))))
   have hv9 : listed.getD 9 false = false := noT (fun h => openT ho (hI.tr 4 3 (by rfl) (hI.tr 5 4 (by rfl) (hI.tr 6 5 (by rfl) (hI.tr 9 6 (by rfl) h)))))
   have hv10 : listed.getD 10 false = false := noT (fun h => openT ho (hI.tr 4 3 (by rfl) (hI.tr 5 4 (by rfl) (hI.tr 7 5 (by rfl) (hI.tr 10 7 (by rfl) h)))))
   obtain ⟨b1, b2, zs, b5, t1, g1, q1, d1, s1, s2, sv, bb, h⟩ := hI.j
   have e1 : x.tmps[30]?.getD undef = .agg #[.int .i64 p.k, .string p.b, .int .i64 p.s, v5, .string p.h, .string p.c, .int .i64 p.t] := ev_tmp (h.a2 (waits_of hi (i := 3) (j := 2) (by rfl)))
   have HH : Hid (JS w2 t gs ps v1 v2 p v5 b1 b2 zs b5 t1 g1 q1 d1 s1 s2 sv bb listed y (fun k => x.tmps.getD k undef)) := h
   have HJ : Hid (Ih _ _ _ _ _ _ _ _) := hI
   have HI : Hid (_ ∈ Region.ready _ _ _) := hi
   clear hi hI ho h
   refine wpOp_plain rfl rfl ?_
   refine wp_cover (fun K hK => ?_)
   go_simp
   refine (TPC.out y HH.out.bl).mono ?_
   rintro e y9 ⟨n5, rfl, -, c9⟩
   have h := HH.out
   exact hK.out _ _ (HJ.out.put HI.out (by omega) (by show (_ ∧ _) ∨ _; omega) (Nat.le_of_ble_eq_true rfl) ⟨b1, b2, zs, n5, t1, g1, q1, d1, s1, s2, sv, bb, (bl_trans h.bl c9), (fun e => h.a0 (by rw [setT_ne (by decide)] at e; exact e)), (fun e => ⟨(h.a1 (by rw [setT_ne (by decide)] at e; exact e)).1, (h.a1 (by rw [setT_ne (by decide)] at e; exact e)).2.1, fun e4 => ((h.a1 (by rw [setT_ne (by decide)] at e; exact e)).2.2 (by rw [setT_ne (by decide)] at e4; exact e4)).keep c9⟩), (fun e => h.a2 (by rw [setT_ne (by decide)] at e; exact e)), (fun _ => rfl), (fun e => by rw [setT_ne (by decide), hv4] at e; cases e), (fun e => by rw [setT_ne (by decide), hv5] at e; cases e), (fun e => by rw [setT_ne (by decide), hv6] at e; cases e), (fun e => by rw [setT_ne (by decide), hv7] at e; cases e), (fun e => ⟨(h.a8 (by rw [setT_ne (by decide)] at e; exact e)).1, (h.a8 (by rw [setT_ne (by decide)] at e; exact e)).2.1, Nat.lt_of_lt_of_le (h.a8 (by rw [setT_ne (by decide)] at e; exact e)).2.2.1 c9.size, (fun e9 => there_keepK ((h.a8 (by rw [setT_ne (by decide)] at e; exact e)).2.2.2.1 (by rw [setT_ne (by decide)] at e9; exact e9)) c9 (h.a8 (by rw [setT_ne (by decide)] at e; exact e)).2.2.1), fun e4 => (h.a8 (by rw [setT_ne (by decide)] at e; exact e)).2.2.2.2 (by rw [setT_ne (by decide)] at e4; exact e4)⟩), (fun e => by rw [setT_ne (by decide), hv9] at e; cases e), (fun e => by rw [setT_ne (by decide), hv10] at e; cases e)⟩)
  ·
   have ho := ready_open hi
   have HLZ : Hid (listed.size = 11) := hI.lz
   have hv5 : listed.getD 5 false = false := noT (fun h => openT ho (hI.tr 5 4 (by rfl) h))
   have hv6 : listed.getD 6 false = false := noT (fun h => openT ho (hI.tr 5 4 (by rfl) (hI.tr 6 5 (by rfl) h)))
   have hv7 : listed.getD 7 false = false := noT (fun h => openT ho (hI.tr 5 4 (by rfl) (hI.tr 7 5 (by rfl) h)))
   have hv9 : listed.getD 9 false = false := noT (fun h => openT ho (hI.tr 5 4 (by rfl) (hI.tr 6 5 (by rfl) (hI.tr 9 6 (by rfl) h))))
   have hv10 : listed.getD 10 false = false := noT (fun h => openT ho (hI.tr 5 4 (by rfl) (hI.tr 7 5 (by rfl) (hI.tr 10 7 (by rfl) h))))
   obtain ⟨b1, b2, zs, b5, t1, g1, q1, d1, s1, s2, sv, bb, h⟩ := hI.j
   have h1 := h.a1 (waits_of hi (i := 4) (j := 1) (by rfl))
   have e1 : x.tmps[29]?.getD undef = .agg #[.int .i64 t, .slice (some ⟨b1, 0, none⟩) gs.length gs.length, .slice (some ⟨b2, 0, none⟩) zs.length zs.length] := ev_tmp (h1.1)
   have e2 : x.tmps[31]?.getD undef = .agg #[.int .i64 p.k, .string p.b, .int .i64 p.s, .slice (some ⟨b5, 0, none⟩) p.ws.length p.ws.length, .string p.h, .string p.c, .int .i64 p.t] := ev_tmp (h.a3 (waits_of hi (i := 4) (j := 3) (by rfl)))
   have h4n : listed.getD 4 false = false := noT (fun h => openT ho h)
   have HL1 : Hid (P.Like zs ps ∧ P.LandAt y gs zs b1 b2) := ⟨h1.2.1, h1.2.2 h4n⟩
   have HIS : Hid (y.heap.size = y.heap.size) := rfl
   clear h1
   have HH : Hid (JS w2 t gs ps v1 v2 p v5 b1 b2 zs b5 t1 g1 q1 d1 s1 s2 sv bb listed y (fun k => x.tmps.getD k undef)) := h
   have HJ : Hid (Ih _ _ _ _ _ _ _ _) := hI
   have HI : Hid (_ ∈ Region.ready _ _ _) := hi
   clear hi hI ho h
   refine wpOp_plain rfl rfl ?_
   refine wp_cover (fun K hK => ?_)
   go_simp
   refine (CS.out y b1 b2 zs b5 HH.out.bl HL1.out.1 HL1.out.2).mono ?_
   rintro e y9 ⟨⟨m1, m2, m3, m4, m5, m6, m7, rfl, hS, hT⟩, c9⟩
   have h := HH.out
   exact hK.out _ _ (HJ.out.put HI.out (by omega) (by show (_ ∧ _) ∨ _; omega) (Nat.le_of_ble_eq_true rfl) ⟨b1, b2, zs, b5, m1, m2, m3, m4, m5, m6, m7, bb, (bl_trans h.bl c9), (fun e => h.a0 (by rw [setT_ne (by decide)] at e; exact e)), (fun e => ⟨(h.a1 (by rw [setT_ne (by decide)] at e; exact e)).1, (h.a1 (by rw [setT_ne (by decide)] at e; exact e)).2.1, fun e4 => by rw [setT_same (by rw [HLZ.out]; omega)] at e4; cases e4⟩), (fun e => h.a2 (by rw [setT_ne (by decide)] at e; exact e)), (fun e => h.a3 (by rw [setT_ne (by decide)] at e; exact e)), (fun _ => ⟨rfl, ⟨HL1.out.1, hS⟩, hT.low h.bl.size⟩), (fun e => by rw [setT_ne (by decide), hv5] at e; cases e), (fun e => by rw [setT_ne (by decide), hv6] at e; cases e), (fun e => by rw [setT_ne (by decide), hv7] at e; cases e), (fun e => ⟨(h.a8 (by rw [setT_ne (by decide)] at e; exact e)).1, (h.a8 (by rw [setT_ne (by decide)] at e; exact e)).2.1, Nat.lt_of_lt_of_le (h.a8 (by rw [setT_ne (by decide)] at e; exact e)).2.2.1 c9.size, (fun e9 => there_keepK ((h.a8 (by rw [setT_ne (by decide)] at e; exact e)).2.2.2.1 (by rw [setT_ne (by decide)] at e9; exact e9)) c9 (h.a8 (by rw [setT_ne (by decide)] at e; exact e)).2.2.1), fun _ hg => by have h1 := (hT.lt bb hg).1; have h2 := (h.a8 (by rw [setT_ne (by decide)] at e; exact e)).2.2.1; omega⟩), (fun e => by rw [setT_ne (by decide), hv9] at e; cases e), (fun e => by rw [setT_ne (by decide), hv10] at e; cases e)⟩)
  ·
   have ho := ready_open hi
   have HLZ : Hid (listed.size = 11) := hI.lz
   have hv6 : listed.getD 6 false = false := noT (fun h => openT ho (hI.tr 6 5 (by rfl) h))
   have hv7 : listed.getD 7 false = false := noT (fun h => openT ho (hI.tr 7 5 (by rfl) h))
   have hv9 : listed.getD 9 false = false := noT (fun h => openT ho (hI.tr 6 5 (by rfl) (hI.tr 9 6 (by rfl) h)))
   have hv10 : listed.getD 10 false = false := noT (fun h => openT ho (hI.tr 7 5 (by rfl) (hI.tr 10 7 (by rfl) h)))
   obtain ⟨b1, b2, zs, b5, t1, g1, q1, d1, s1, s2, sv, bb, h⟩ := hI.j
   have e1 : x.tmps[32]?.getD undef = .tuple #[.agg #[.int .i64 t1, s1, s2], sv] := ev_tmp ((h.a4 (waits_of hi (i := 5) (j := 4) (by rfl))).1)
   have HH : Hid (JS w2 t gs ps v1 v2 p v5 b1 b2 zs b5 t1 g1 q1 d1 s1 s2 sv bb listed y (fun k => x.tmps.getD k undef)) := h
   have HJ : Hid (Ih _ _ _ _ _ _ _ _) := hI
   have HI : Hid (_ ∈ Region.ready _ _ _) := hi
   clear hi hI ho h
   refine wpOp_plain rfl rfl ?_
   refine wp_cover (fun K hK => ?_)
   go_simp
   have h := HH.out
   exact hK.out _ _ (HJ.out.put HI.out (by omega) (by show (_ ∧ _) ∨ _; omega) (Nat.le_of_ble_eq_true rfl) ⟨b1, b2, zs, b5, t1, g1, q1, d1, s1, s2, sv, bb, (h.bl), (fun e => h.a0 (by rw [setT_ne (by decide)] at e; exact e)), (fun e => ⟨(h.a1 (by rw [setT_ne (by decide)] at e; exact e)).1, (h.a1 (by rw [setT_ne (by decide)] at e; exact e)).2.1, fun e4 => ((h.a1 (by rw [setT_ne (by decide)] at e; exact e)).2.2 (by rw [setT_ne (by decide)] at e4; exact e4))⟩), (fun e => h.a2 (by rw [setT_ne (by decide)] at e; exact e)), (fun e => h.a3 (by rw [setT_ne (by decide)] at e; exact e)), (fun e => h.a4 (by rw [setT_ne (by decide)] at e; exact e)), (fun _ => rfl), (fun e => by rw [setT_ne (by decide), hv6] at e; cases e), (fun e => by rw [setT_ne (by decide), hv7] at e; cases e), (fun e => ⟨(h.a8 (by rw [setT_ne (by decide)] at e; exact e)).1, (h.a8 (by rw [setT_ne (by decide)] at e; exact e)).2.1, (h.a8 (by rw [setT_ne (by decide)] at e; exact e)).2.2.1, (fun e9 => (h.a8 (by rw [setT_ne (by decide)] at e; exact e)).2.2.2.1 (by rw [setT_ne (by decide)] at e9; exact e9)), fun e4 => (h.a8 (by rw [setT_ne (by decide)] at e; exact e)).2.2.2.2 (by rw [setT_ne (by decide)] at e4; exact e4)⟩), (fun e => by rw [setT_ne (by decide), hv9] at e; cases e), (fun e => by rw [setT_ne (by decide), hv10] at e; cases e)⟩)
  ·
   have ho := ready_open hi
   have HLZ : Hid (listed.size = 11) := hI.lz
   have hv9 : listed.getD 9 false = false := noT (fun h => openT ho (hI.tr 9 6 (by rfl) h))
   obtain ⟨b1, b2, zs, b5, t1, g1, q1, d1, s1, s2, sv, bb, h⟩ := hI.j
   have e1 : x.tmps[27]?.getD undef = .tuple #[.agg #[.int .i64 t1, s1, s2], sv] := ev_tmp (h.a5 (waits_of hi (i := 6) (j := 5) (by rfl)))
   have HH : Hid (JS w2 t gs ps v1 v2 p v5 b1 b2 zs b5 t1 g1 q1 d1 s1 s2 sv bb listed y (fun k => x.tmps.getD k undef)) := h
   have HJ : Hid (Ih _ _ _ _ _ _ _ _) := hI
   have HI : Hid (_ ∈ Region.ready _ _ _) := hi
   clear hi hI ho h
   refine wpOp_plain rfl rfl ?_
   refine wp_cover (fun K hK => ?_)
   go_simp
   have h := HH.out
   exact hK.out _ _ (HJ.out.put HI.out (by omega) (by show (_ ∧ _) ∨ _; omega) (Nat.le_of_ble_eq_true rfl) ⟨b1, b2, zs, b5, t1, g1, q1, d1, s1, s2, sv, bb, (h.bl), (fun e => h.a0 (by rw [setT_ne (by decide)] at e; exact e)), (fun e => ⟨(h.a1 (by rw [setT_ne (by decide)] at e; exact e)).1, (h.a1 (by rw [setT_ne (by decide)] at e; exact e)).2.1, fun e4 => ((h.a1 (by rw [setT_ne (by decide)] at e; exact e)).2.2 (by rw [setT_ne (by decide)] at e4; exact e4))⟩), (fun e => h.a2 (by rw [setT_ne (by decide)] at e; exact e)), (fun e => h.a3 (by rw [setT_ne (by decide)] at e; exact e)), (fun e => h.a4 (by rw [setT_ne (by decide)] at e; exact e)), (fun e => h.a5 (by rw [setT_ne (by decide)] at e; exact e)), (fun _ => rfl), (fun e => h.a7 (by rw [setT_ne (by decide)] at e; exact e)), (fun e => ⟨(h.a8 (by rw [setT_ne (by decide)] at e; exact e)).1, (h.a8 (by rw [setT_ne (by decide)] at e; exact e)).2.1, (h.a8 (by rw [setT_ne (by decide)] at e; exact e)).2.2.1, (fun e9 => (h.a8 (by rw [setT_ne (by decide)] at e; exact e)).2.2.2.1 (by rw [setT_ne (by decide)] at e9; exact e9)), fun e4 => (h.a8 (by rw [setT_ne (by decide)] at e; exact e)).2.2.2.2 (by rw [setT_ne (by decide)] at e4; exact e4)⟩), (fun e => by rw [setT_ne (by decide), hv9] at e; cases e), (fun e => h.a10 (by rw [setT_ne (by decide)] at e; exact e))⟩)
  ·
   have ho := ready_open hi
   have HLZ : Hid (listed.size = 11) := hI.lz
   have hv10 : listed.getD 10 false = false := noT (fun h => openT ho (hI.tr 10 7 (by rfl) h))
   obtain ⟨b1, b2, zs, b5, t1, g1, q1, d1, s1, s2, sv, bb, h⟩ := hI.j
   have e1 : x.tmps[27]?.getD undef = .tuple #[.agg #[.int .i64 t1, s1, s2], sv] := ev_tmp (h.a5 (waits_of hi (i := 7) (j := 5) (by rfl)))
   have HH : Hid (JS w2 t gs ps v1 v2 p v5 b1 b2 zs b5 t1 g1 q1 d1 s1 s2 sv bb listed y (fun k => x.tmps.getD k undef)) := h
   have HJ : Hid (Ih _ _ _ _ _ _ _ _) := hI
   have HI : Hid (_ ∈ Region.ready _ _ _) := hi
   clear hi hI ho h
   refine wpOp_plain rfl rfl ?_
   refine wp_cover (fun K hK => ?_)
   go_simp
   have h := HH.out
   exact hK.out _ _ (HJ.out.put HI.out (by omega) (by show (_ ∧ _) ∨ _; omega) (Nat.le_of_ble_eq_true rfl) ⟨b1, b2, zs, b5, t1, g1, q1, d1, s1, s2, sv, bb, (h.bl), (fun e => h.a0 (by rw [setT_ne (by decide)] at e; exact e)), (fun e => ⟨(h.a1 (by rw [setT_ne (by decide)] at e; exact e)).1, (h.a1 (by rw [setT_ne (by decide)] at e; exact e)).2.1, fun e4 => ((h.a1 (by rw [setT_ne (by decide)] at e; exact e)).2.2 (by rw [setT_ne (by decide)] at e4; exact e4))⟩), (fun e => h.a2 (by rw [setT_ne (by decide)] at e; exact e)), (fun e => h.a3 (by rw [setT_ne (by decide)] at e; exact e)), (fun e => h.a4 (by rw [setT_ne (by decide)] at e; exact e)), (fun e => h.a5 (by rw [setT_ne (by decide)] at e; exact e)), (fun e => h.a6 (by rw [setT_ne (by decide)] at e; exact e)), (fun _ => rfl), (fun e => ⟨(h.a8 (by rw [setT_ne (by decide)] at e; exact e)).1, (h.a8 (by rw [setT_ne (by decide)] at e; exact e)).2.1, (h.a8 (by rw [setT_ne (by decide)] at e; exact e)).2.2.1, (fun e9 => (h.a8 (by rw [setT_ne (by decide)] at e; exact e)).2.2.2.1 (by rw [setT_ne (by decide)] at e9; exact e9)), fun e4 => (h.a8 (by rw [setT_ne (by decide)] at e; exact e)).2.2.2.2 (by rw [setT_ne (by decide)] at e4; exact e4)⟩), (fun e => h.a9 (by rw [setT_ne (by decide)] at e; exact e)), (fun e => by rw [setT_ne (by decide), hv10] at e; cases e)⟩)
  ·
   have ho := ready_open hi
   have HLZ : Hid (listed.size = 11) := hI.lz
   have hv9 : listed.getD 9 false = false := noT (fun h => openT ho (hI.tr 9 8 (by rfl) h))
   obtain ⟨b1, b2, zs, b5, t1, g1, q1, d1, s1, s2, sv, bb, h⟩ := hI.j
   have HH : Hid (JS w2 t gs ps v1 v2 p v5 b1 b2 zs b5 t1 g1 q1 d1 s1 s2 sv bb listed y (fun k => x.tmps.getD k undef)) := h
   have HJ : Hid (Ih _ _ _ _ _ _ _ _) := hI
   have HI : Hid (_ ∈ Region.ready _ _ _) := hi
   clear hi hI ho h
   refine wpOp_plain rfl rfl ?_
   refine wp_cover (fun K hK => ?_)
   go_simp
   have hbl : Below y.heap.size y (y.alloc (.cells #[.int .i64 0, .slice none 0 0, .slice none 0 0] 34)) := bl_alloc (Below.refl _ _) _
   have h := HH.out
   exact hK.out _ _ (HJ.out.put HI.out (by omega) (by show (_ ∧ _) ∨ _; omega) (Nat.le_of_ble_eq_true rfl) ⟨b1, b2, zs, b5, t1, g1, q1, d1, s1, s2, sv, y.heap.size, (bl_trans h.bl hbl), (fun e => h.a0 (by rw [setT_ne (by decide)] at e; exact e)), (fun e => ⟨(h.a1 (by rw [setT_ne (by decide)] at e; exact e)).1, (h.a1 (by rw [setT_ne (by decide)] at e; exact e)).2.1, fun e4 => ((h.a1 (by rw [setT_ne (by decide)] at e; exact e)).2.2 (by rw [setT_ne (by decide)] at e4; exact e4)).keep hbl⟩), (fun e => h.a2 (by rw [setT_ne (by decide)] at e; exact e)), (fun e => h.a3 (by rw [setT_ne (by decide)] at e; exact e)), (fun e => ⟨(h.a4 (by rw [setT_ne (by decide)] at e; exact e)).1, (h.a4 (by rw [setT_ne (by decide)] at e; exact e)).2.1, (h.a4 (by rw [setT_ne (by decide)] at e; exact e)).2.2.keep hbl⟩), (fun e => h.a5 (by rw [setT_ne (by decide)] at e; exact e)), (fun e => h.a6 (by rw [setT_ne (by decide)] at e; exact e)), (fun e => h.a7 (by rw [setT_ne (by decide)] at e; exact e)), (fun _ => ⟨rfl, h.bl.size, by simp, (fun _ => there_newG y _ _ (by rfl)), fun e4 hg => by have h1 := ((h.a4 (by rw [setT_ne (by decide)] at e4; exact e4)).2.2.lt y.heap.size hg).2; omega⟩), (fun e => by rw [setT_ne (by decide), hv9] at e; cases e), (fun e => h.a10 (by rw [setT_ne (by decide)] at e; exact e))⟩)
  ·
   have ho := ready_open hi
   have HLZ : Hid (listed.size = 11) := hI.lz
   obtain ⟨b1, b2, zs, b5, t1, g1, q1, d1, s1, s2, sv, bb, h⟩ := hI.j
   have h8y := waits_of hi (i := 9) (j := 8) (by rfl)
   have h6y := waits_of hi (i := 9) (j := 6) (by rfl)
   have h5y := hI.tr 6 5 (by rfl) h6y
   have h4y := hI.tr 5 4 (by rfl) h5y
   have h9n : listed.getD 9 false = false := noT (fun h => openT ho h)
   have h8 := h.a8 h8y
   have hth := h8.2.2.2.1 h9n
   have hnb := h8.2.2.2.2 h4y
   have ev6 := h.a6 h6y
   obtain ⟨y1, y2, y3, y4, hy1, hy2⟩ := tko_slices (h.a4 h4y).2.2
   have HH : Hid (JS w2 t gs ps v1 v2 p v5 b1 b2 zs b5 t1 g1 q1 d1 s1 s2 sv bb listed y (fun k => x.tmps.getD k undef)) := h
   have HJ : Hid (Ih _ _ _ _ _ _ _ _) := hI
   have HI : Hid (_ ∈ Region.ready _ _ _) := hi
   clear hi hI ho h
   refine wpOp_plain rfl rfl ?_
   refine wp_cover (fun K hK => ?_)
   refine wp_store_mid 34 _ _ rfl bb 0 #[.int .i64 t1, s1, s2] h8.1 ev6 hth hinfo (by rw [hy1, hy2]; simp [Value.oneCell']) ?_
   have h := HH.out
   have hx : Ex bb y (y.setCells bb 0 [.int .i64 t1, s1, s2]) := (Ex.refl _ _).cells _ _
   have hrg : (y.setCells bb 0 [.int .i64 t1, s1, s2]).rangeAt bb 0 [.int .i64 t1, s1, s2] := World.rangeAt_setCells_same y bb 0 _ hth
   exact hK.out _ _ (HJ.out.nil HI.out (by omega) undef ⟨b1, b2, zs, b5, t1, g1, q1, d1, s1, s2, sv, bb, (Ex.mono h.bl hx h8.2.1), (fun e => h.a0 (by rw [setT_ne (by decide)] at e; exact e)), (fun e => ⟨(h.a1 (by rw [setT_ne (by decide)] at e; exact e)).1, (h.a1 (by rw [setT_ne (by decide)] at e; exact e)).2.1, fun e4 => by rw [setT_ne (by decide), h4y] at e4; cases e4⟩), (fun e => h.a2 (by rw [setT_ne (by decide)] at e; exact e)), (fun e => h.a3 (by rw [setT_ne (by decide)] at e; exact e)), (fun e => ⟨(h.a4 (by rw [setT_ne (by decide)] at e; exact e)).1, (h.a4 (by rw [setT_ne (by decide)] at e; exact e)).2.1, (h.a4 (by rw [setT_ne (by decide)] at e; exact e)).2.2.off (off_of_ex hx) (fun g hg e9 => by subst e9; exact hnb hg)⟩), (fun e => h.a5 (by rw [setT_ne (by decide)] at e; exact e)), (fun e => h.a6 (by rw [setT_ne (by decide)] at e; exact e)), (fun e => h.a7 (by rw [setT_ne (by decide)] at e; exact e)), (fun e => ⟨(h.a8 (by rw [setT_ne (by decide)] at e; exact e)).1, (h.a8 (by rw [setT_ne (by decide)] at e; exact e)).2.1, Nat.lt_of_lt_of_le (h.a8 (by rw [setT_ne (by decide)] at e; exact e)).2.2.1 hx.size, (fun e9 => by rw [setT_same (by rw [HLZ.out]; omega)] at e9; cases e9), fun e4 => (h.a8 (by rw [setT_ne (by decide)] at e; exact e)).2.2.2.2 (by rw [setT_ne (by decide)] at e4; exact e4)⟩), (fun _ => hrg), (fun e => h.a10 (by rw [setT_ne (by decide)] at e; exact e))⟩)
  ·
   have ho := ready_open hi
   have HLZ : Hid (listed.size = 11) := hI.lz
   obtain ⟨b1, b2, zs, b5, t1, g1, q1, d1, s1, s2, sv, bb, h⟩ := hI.j
   have e1 : x.tmps[34]?.getD undef = sv := ev_tmp (h.a7 (waits_of hi (i := 10) (j := 7) (by rfl)))
   have HH : Hid (JS w2 t gs ps v1 v2 p v5 b1 b2 zs b5 t1 g1 q1 d1 s1 s2 sv bb listed y (fun k => x.tmps.getD k undef)) := h
   have HJ : Hid (Ih _ _ _ _ _ _ _ _) := hI
   have HI : Hid (_ ∈ Region.ready _ _ _) := hi
   clear hi hI ho h
   refine wpOp_plain rfl rfl ?_
   refine wp_cover (fun K hK => ?_)
   go_simp
   have h := HH.out
   exact hK.out _ _ (HJ.out.put HI.out (by omega) (by show (_ ∧ _) ∨ _; omega) (Nat.le_of_ble_eq_true rfl) ⟨b1, b2, zs, b5, t1, g1, q1, d1, s1, s2, sv, bb, (h.bl), (fun e => h.a0 (by rw [setT_ne (by decide)] at e; exact e)), (fun e => ⟨(h.a1 (by rw [setT_ne (by decide)] at e; exact e)).1, (h.a1 (by rw [setT_ne (by decide)] at e; exact e)).2.1, fun e4 => ((h.a1 (by rw [setT_ne (by decide)] at e; exact e)).2.2 (by rw [setT_ne (by decide)] at e4; exact e4))⟩), (fun e => h.a2 (by rw [setT_ne (by decide)] at e; exact e)), (fun e => h.a3 (by rw [setT_ne (by decide)] at e; exact e)), (fun e => h.a4 (by rw [setT_ne (by decide)] at e; exact e)), (fun e => h.a5 (by rw [setT_ne (by decide)] at e; exact e)), (fun e => h.a6 (by rw [setT_ne (by decide)] at e; exact e)), (fun e => h.a7 (by rw [setT_ne (by decide)] at e; exact e)), (fun e => ⟨(h.a8 (by rw [setT_ne (by decide)] at e; exact e)).1, (h.a8 (by rw [setT_ne (by decide)] at e; exact e)).2.1, (h.a8 (by rw [setT_ne (by decide)] at e; exact e)).2.2.1, (fun e9 => (h.a8 (by rw [setT_ne (by decide)] at e; exact e)).2.2.2.1 (by rw [setT_ne (by decide)] at e9; exact e9)), fun e4 => (h.a8 (by rw [setT_ne (by decide)] at e; exact e)).2.2.2.2 (by rw [setT_ne (by decide)] at e4; exact e4)⟩), (fun e => h.a9 (by rw [setT_ne (by decide)] at e; exact e)), (fun _ => rfl)⟩)
 intro LL aa y hL hdf hsz hout hJ
 obtain ⟨b1, b2, zs, b5, t1, g1, q1, d1, s1, s2, sv, bb, hJ⟩ := hJ
 have h6 := (hJ.a8 (hL 8 (by omega)))
 have h7 := hJ.a10 (hL 10 (by omega))
 obtain ⟨-, ⟨hz9, hS9⟩, hT9⟩ := hJ.a4 (hL 4 (by omega))
 have hR9 := hJ.a9 (hL 9 (by omega))
 have cc := hJ.bl
 obtain ⟨hp6, hp6a, hp6b, -, hp6c⟩ := h6
 have hnb9 := hp6c (hL 4 (by omega))
 clear hp6c hJ hL
 obtain ⟨l', hl', ha⟩ := frameP_of (lo := 6) (n := 29) hdf hsz (fun j hj => hout j (by omega)) (Nat.le_of_ble_eq_true rfl)
 subst ha
 obtain ⟨u0, ul0, rfl, uh0⟩ := lenP_succ hl'
 obtain ⟨u1, ul1, rfl, uh1⟩ := lenP_succ uh0
 obtain ⟨u2, ul2, rfl, uh2⟩ := lenP_succ uh1
 obtain ⟨u3, ul3, rfl, uh3⟩ := lenP_succ uh2
 obtain ⟨u4, ul4, rfl, uh4⟩ := lenP_succ uh3
 obtain ⟨u5, ul5, rfl, uh5⟩ := lenP_succ uh4
 obtain ⟨u6, ul6, rfl, uh6⟩ := lenP_succ uh5
 obtain ⟨u7, ul7, rfl, uh7⟩ := lenP_succ uh6
 obtain ⟨u8, ul8, rfl, uh8⟩ := lenP_succ uh7
 obtain ⟨u9, ul9, rfl, uh9⟩ := lenP_succ uh8
 obtain ⟨u10, ul10, rfl, uh10⟩ := lenP_succ uh9
 obtain ⟨u11, ul11, rfl, uh11⟩ := lenP_succ uh10
 obtain ⟨u12, ul12, rfl, uh12⟩ := lenP_succ uh11
 obtain ⟨u13, ul13, rfl, uh13⟩ := lenP_succ uh12
 obtain ⟨u14, ul14, rfl, uh14⟩ := lenP_succ uh13
 obtain ⟨u15, ul15, rfl, uh15⟩ := lenP_succ uh14
 obtain ⟨u16, ul16, rfl, uh16⟩ := lenP_succ uh15
 obtain ⟨u17, ul17, rfl, uh17⟩ := lenP_succ uh16
 obtain ⟨u18, ul18, rfl, uh18⟩ := lenP_succ uh17
 obtain ⟨u19, ul19, rfl, uh19⟩ := lenP_succ uh18
 obtain ⟨u20, ul20, rfl, uh20⟩ := lenP_succ uh19
 obtain ⟨u21, ul21, rfl, uh21⟩ := lenP_succ uh20
 obtain ⟨u22, ul22, rfl, uh22⟩ := lenP_succ uh21
 obtain ⟨u23, ul23, rfl, uh23⟩ := lenP_succ uh22
 obtain ⟨u24, ul24, rfl, uh24⟩ := lenP_succ uh23
 obtain ⟨u25, ul25, rfl, uh25⟩ := lenP_succ uh24
 obtain ⟨u26, ul26, rfl, uh26⟩ := lenP_succ uh25
 obtain ⟨u27, ul27, rfl, uh27⟩ := lenP_succ uh26
 obtain ⟨u28, ul28, rfl, uh28⟩ := lenP_succ uh27
 obtain rfl := lenP_zero uh28
 have hp6' : u0 = _ := hp6
 have h7' : u1 = _ := h7
 subst hp6' h7'
 clear hp6 h7 hdf hsz hout KA KB TO TPC CS
 simp only [List.take_succ_cons, List.take_zero, List.drop_succ_cons, List.drop_zero, List.cons_append, List.nil_append, Nat.reduceAdd]
 obtain ⟨a1, p1, rfl⟩ := G.Sl.shape hT9.l.g
 obtain ⟨a2, p2, hs2⟩ := Pr.Sl.shape hT9.l.p.o
 rw [List.length_map] at hs2
 subst hs2
 obtain ⟨a3, p3, hs3⟩ := Pc.Sl.shape hT9.c.o
 rw [List.length_map] at hs3
 subst hs3
 obtain ⟨w5, hw5⟩ : ∃ w5 : World, w5 = y := ⟨_, rfl⟩
 subst hw5
 have HS1 : Hid (TakeLSay t gs zs (⟨p.k, p.b, p.h, p.c, p.t⟩ : TakeP) t1 g1 q1 d1) := hS9
 have HZS : Hid (P.Like zs ps) := hz9
 have VL : Hid (∀ g, TkO.bs q1 d1 (.slice a1 g1.length p1) (.slice a2 q1.length p2) (.slice a3 d1.length p3) g → w2.heap.size ≤ g ∧ g < w5.heap.size) := hT9.lt
 have ZW : Hid (w2.heap.size ≤ bb ∧ bb < w5.heap.size) := ⟨hp6a, hp6b⟩
 have C3 : Hid (Below w.heap.size w w5) := bl_trans C2.out cc
 have A3 : Hid (Bo w5 w.heap.size #[.int .i64 t, v1, v2]) := (A2.out).keep cc
 have E3 : Hid (Bo w5 (w.heap.size + 1) #[.int .i64 p.k, .string p.b, .int .i64 p.s, v5, .string p.h, .string p.c, .int .i64 p.t]) := (E2.out).keep cc
 clear cc
 clear C2 A2 E2
 have V3 : Hid (TkO w5 w2.heap.size g1 q1 d1 (.slice a1 g1.length p1) (.slice a2 q1.length p2) (.slice a3 d1.length p3)) := hT9
 have W3 : Hid (Bt w5 bb [.int .i64 t1, .slice a1 g1.length p1, .slice a2 q1.length p2]) := ⟨hR9, hp6b⟩
 clear hS9 hz9 hT9 hR9 hp6a hp6b hnb9
 have ka := A3.out.c
 go_wp2_with fail
 clear ka
 refine (P.toLand_o t gs ps v1 v2 _ (i1.keep C3.out) (i2.keep C3.out) l1 l2 HL.out).mono ?_
 rintro e w6 ⟨⟨e1, e2, xs, rfl, hx6, hA6, hL6⟩, c⟩
 have Z6 : Hid (w5.heap.size ≤ w6.heap.size) := c.size
 have C4 : Hid (Below w.heap.size w w6) := bl_trans C3.out c
 have A4 : Hid (Bo w6 w.heap.size #[.int .i64 t, v1, v2]) := (A3.out).keep c
 have E4 : Hid (Bo w6 (w.heap.size + 1) #[.int .i64 p.k, .string p.b, .int .i64 p.s, v5, .string p.h, .string p.c, .int .i64 p.t]) := (E3.out).keep c
 have V4 : Hid (TkO w6 w2.heap.size g1 q1 d1 (.slice a1 g1.length p1) (.slice a2 q1.length p2) (.slice a3 d1.length p3)) := (V3.out).keep c
 have W4 : Hid (Bt w6 bb [.int .i64 t1, .slice a1 g1.length p1, .slice a2 q1.length p2]) := (W3.out).keep c
 clear c
 clear C3 A3 E3 V3 W3
 have HXS : Hid (P.Like xs ps) := hx6
 have X4 : Hid (LdO w6 w5.heap.size gs xs (.slice (some ⟨e1, 0, none⟩) gs.length gs.length) (.slice (some ⟨e2, 0, none⟩) xs.length xs.length)) := hL6
 have XL : Hid (∀ g, LdO.bs xs (.slice (some ⟨e1, 0, none⟩) gs.length gs.length) (.slice (some ⟨e2, 0, none⟩) xs.length xs.length) g → w5.heap.size ≤ g ∧ g < w6.heap.size) := hL6.lt
 have HA6 : Hid (P.LandAt w6 gs xs e1 e2) := hA6
 clear hx6 hL6 hA6
 obtain ⟨Y6, hY6⟩ : ∃ Y, Y = w6.alloc (.cells #[.int .i64 t, .slice (some ⟨e1, 0, none⟩) gs.length gs.length, .slice (some ⟨e2, 0, none⟩) xs.length xs.length] 34) := ⟨_, rfl⟩
 have HY6 : Hid (Y6 = w6.alloc (.cells #[.int .i64 t, .slice (some ⟨e1, 0, none⟩) gs.length gs.length, .slice (some ⟨e2, 0, none⟩) xs.length xs.length] 34)) := hY6
 have cY : Below w6.heap.size w6 Y6 := by rw [hY6]; exact bl_alloc (Below.refl _ _) _
 have C5 : Hid (Below w.heap.size w Y6) := bl_trans C4.out cY
 have A5 : Hid (Bo Y6 w.heap.size #[.int .i64 t, v1, v2]) := (A4.out).keep cY
 have E5 : Hid (Bo Y6 (w.heap.size + 1) #[.int .i64 p.k, .string p.b, .int .i64 p.s, v5, .string p.h, .string p.c, .int .i64 p.t]) := (E4.out).keep cY
 have V5 : Hid (TkO Y6 w2.heap.size g1 q1 d1 (.slice a1 g1.length p1) (.slice a2 q1.length p2) (.slice a3 d1.length p3)) := (V4.out).keep cY
 have W5 : Hid (Bt Y6 bb [.int .i64 t1, .slice a1 g1.length p1, .slice a2 q1.length p2]) := (W4.out).keep cY
 have X5 : Hid (LdO Y6 w5.heap.size gs xs (.slice (some ⟨e1, 0, none⟩) gs.length gs.length) (.slice (some ⟨e2, 0, none⟩) xs.length xs.length)) := (X4.out).keep cY
 have B5 : Hid (Bo Y6 w6.heap.size #[.int .i64 t, .slice (some ⟨e1, 0, none⟩) gs.length gs.length, .slice (some ⟨e2, 0, none⟩) xs.length xs.length]) := by rw [hY6]; exact Bo.new _ _ _
 have ZY6 : Hid (Y6.heap.size = w6.heap.size + 1) := by rw [hY6]; show _ = _; simp
 have HA7 : Hid (P.LandAt Y6 gs xs e1 e2) := HA6.out.keep cY
 clear cY HA6
 clear C4 A4 E4 V4 W4 X4
 have ke : ∀ k, (w6.alloc (.cells #[.int .i64 t, .slice (some ⟨e1, 0, none⟩) gs.length gs.length, .slice (some ⟨e2, 0, none⟩) xs.length xs.length] 34)).cell? ⟨w.heap.size + 1, k, none⟩ = (#[.int .i64 p.k, .string p.b, .int .i64 p.s, v5, .string p.h, .string p.c, .int .i64 p.t] : Array Value)[k]? := by rw [← hY6]; exact E5.out.c
 clear hY6
 go_wp2_with fail
 clear ke
 rw [← HY6.out]
 refine (toParcel_sl p v5 Y6 (i5.keep C5.out) l5).mono ?_
 rintro e w7 ⟨e5, rfl, hP7, c⟩
 have Z7 : Hid (Y6.heap.size ≤ w7.heap.size) := c.size
 have HA8 : Hid (P.LandAt w7 gs xs e1 e2) := HA7.out.keep c
 have ZE5 : Hid (Y6.heap.size ≤ e5 ∧ e5 < w7.heap.size) := hP7.lt e5 rfl
 have C6 : Hid (Below w.heap.size w w7) := bl_trans C5.out c
 have A6 : Hid (Bo w7 w.heap.size #[.int .i64 t, v1, v2]) := (A5.out).keep c
 have E6 : Hid (Bo w7 (w.heap.size + 1) #[.int .i64 p.k, .string p.b, .int .i64 p.s, v5, .string p.h, .string p.c, .int .i64 p.t]) := (E5.out).keep c
 have V6 : Hid (TkO w7 w2.heap.size g1 q1 d1 (.slice a1 g1.length p1) (.slice a2 q1.length p2) (.slice a3 d1.length p3)) := (V5.out).keep c
 have W6 : Hid (Bt w7 bb [.int .i64 t1, .slice a1 g1.length p1, .slice a2 q1.length p2]) := (W5.out).keep c
 have X6 : Hid (LdO w7 w5.heap.size gs xs (.slice (some ⟨e1, 0, none⟩) gs.length gs.length) (.slice (some ⟨e2, 0, none⟩) xs.length xs.length)) := (X5.out).keep c
 have B6 : Hid (Bo w7 w6.heap.size #[.int .i64 t, .slice (some ⟨e1, 0, none⟩) gs.length gs.length, .slice (some ⟨e2, 0, none⟩) xs.length xs.length]) := (B5.out).keep c
 clear c
 clear C5 A5 E5 V5 W5 X5 B5
 clear HA7
 have S6 : Hid (W.Sl w7 (.slice (some ⟨e5, 0, none⟩) p.ws.length p.ws.length) p.ws Y6.heap.size) := hP7
 clear hP7
 obtain ⟨Y7, hY7⟩ : ∃ Y, Y = w7.alloc (.cells #[.int .i64 p.k, .string p.b, .int .i64 p.s, .slice (some ⟨e5, 0, none⟩) p.ws.length p.ws.length, .string p.h, .string p.c, .int .i64 p.t] 41) := ⟨_, rfl⟩
 have HY7 : Hid (Y7 = w7.alloc (.cells #[.int .i64 p.k, .string p.b, .int .i64 p.s, .slice (some ⟨e5, 0, none⟩) p.ws.length p.ws.length, .string p.h, .string p.c, .int .i64 p.t] 41)) := hY7
 have cY : Below w7.heap.size w7 Y7 := by rw [hY7]; exact bl_alloc (Below.refl _ _) _
 have C7 : Hid (Below w.heap.size w Y7) := bl_trans C6.out cY
 have A7 : Hid (Bo Y7 w.heap.size #[.int .i64 t, v1, v2]) := (A6.out).keep cY
 have E7 : Hid (Bo Y7 (w.heap.size + 1) #[.int .i64 p.k, .string p.b, .int .i64 p.s, v5, .string p.h, .string p.c, .int .i64 p.t]) := (E6.out).keep cY
 have V7 : Hid (TkO Y7 w2.heap.size g1 q1 d1 (.slice a1 g1.length p1) (.slice a2 q1.length p2) (.slice a3 d1.length p3)) := (V6.out).keep cY
 have W7 : Hid (Bt Y7 bb [.int .i64 t1, .slice a1 g1.length p1, .slice a2 q1.length p2]) := (W6.out).keep cY
 have X7 : Hid (LdO Y7 w5.heap.size gs xs (.slice (some ⟨e1, 0, none⟩) gs.length gs.length) (.slice (some ⟨e2, 0, none⟩) xs.length xs.length)) := (X6.out).keep cY
 have B7 : Hid (Bo Y7 w6.heap.size #[.int .i64 t, .slice (some ⟨e1, 0, none⟩) gs.length gs.length, .slice (some ⟨e2, 0, none⟩) xs.length xs.length]) := (B6.out).keep cY
 have S7 : Hid (W.Sl Y7 (.slice (some ⟨e5, 0, none⟩) p.ws.length p.ws.length) p.ws Y6.heap.size) := (S6.out).keep cY
 have F7 : Hid (Bo Y7 w7.heap.size #[.int .i64 p.k, .string p.b, .int .i64 p.s, .slice (some ⟨e5, 0, none⟩) p.ws.length p.ws.length, .string p.h, .string p.c, .int .i64 p.t]) := by rw [hY7]; exact Bo.new _ _ _
 have ZY7 : Hid (Y7.heap.size = w7.heap.size + 1) := by rw [hY7]; show _ = _; simp
 have HA9 : Hid (P.LandAt Y7 gs xs e1 e2) := HA8.out.keep cY
 clear cY HA8
 clear C6 A6 E6 V6 W6 X6 B6 S6
 have kb : ∀ k, (w7.alloc (.cells #[.int .i64 p.k, .string p.b, .int .i64 p.s, .slice (some ⟨e5, 0, none⟩) p.ws.length p.ws.length, .string p.h, .string p.c, .int .i64 p.t] 41)).cell? ⟨w6.heap.size, k, none⟩ = (#[.int .i64 t, .slice (some ⟨e1, 0, none⟩) gs.length gs.length, .slice (some ⟨e2, 0, none⟩) xs.length xs.length] : Array Value)[k]? := by rw [← hY7]; exact B7.out.c
 clear hY7
 go_wp2_with fail
 clear kb
 rw [← HY7.out]
 refine (implLandTake hK1 hS1k hK2 hS2k t gs xs e1 e2 (⟨p.k, p.b, p.h, p.c, p.t⟩ : TakeP) p.s _ _ _ Y7 HA9.out (HF.out.like HXS.out) HFT.out (HE.out.keep C7.out)).mono ?_
 rintro e w8 ⟨⟨t2, g2, q2, d2, r1, r2, rv, rfl, hS2, hT2⟩, c⟩
 have Z8 : Hid (Y7.heap.size ≤ w8.heap.size) := c.size
 have C8 : Hid (Below w.heap.size w w8) := bl_trans C7.out c
 have A8 : Hid (Bo w8 w.heap.size #[.int .i64 t, v1, v2]) := (A7.out).keep c
 have E8 : Hid (Bo w8 (w.heap.size + 1) #[.int .i64 p.k, .string p.b, .int .i64 p.s, v5, .string p.h, .string p.c, .int .i64 p.t]) := (E7.out).keep c
 have V8 : Hid (TkO w8 w2.heap.size g1 q1 d1 (.slice a1 g1.length p1) (.slice a2 q1.length p2) (.slice a3 d1.length p3)) := (V7.out).keep c
 have W8 : Hid (Bt w8 bb [.int .i64 t1, .slice a1 g1.length p1, .slice a2 q1.length p2]) := (W7.out).keep c
 have X8 : Hid (LdO w8 w5.heap.size gs xs (.slice (some ⟨e1, 0, none⟩) gs.length gs.length) (.slice (some ⟨e2, 0, none⟩) xs.length xs.length)) := (X7.out).keep c
 have B8 : Hid (Bo w8 w6.heap.size #[.int .i64 t, .slice (some ⟨e1, 0, none⟩) gs.length gs.length, .slice (some ⟨e2, 0, none⟩) xs.length xs.length]) := (B7.out).keep c
 have S8 : Hid (W.Sl w8 (.slice (some ⟨e5, 0, none⟩) p.ws.length p.ws.length) p.ws Y6.heap.size) := (S7.out).keep c
 have F8 : Hid (Bo w8 w7.heap.size #[.int .i64 p.k, .string p.b, .int .i64 p.s, .slice (some ⟨e5, 0, none⟩) p.ws.length p.ws.length, .string p.h, .string p.c, .int .i64 p.t]) := (F7.out).keep c
 clear c
 clear C7 A7 E7 V7 W7 X7 B7 S7 F7
 clear HA9
 obtain ⟨et, eg, hlq, hld⟩ := takeL_one (HZS.out.trans HXS.out.symm) HS1.out hS2
 subst et eg
 obtain ⟨c1, o1, rfl⟩ := G.Sl.shape hT2.l.g
 obtain ⟨c2, o2, hs2⟩ := Pr.Sl.shape hT2.l.p.o
 rw [List.length_map] at hs2
 subst hs2
 obtain ⟨c3, o3, hs3⟩ := Pc.Sl.shape hT2.c.o
 rw [List.length_map] at hs3
 subst hs3
 have BD2 : Hid (SmallT g1 q2 d2) := hS2.small
 have LQ : Hid (P.Like q2 q1) := hlq.symm
 have LD : Hid (Pc.Like d2 d1) := hld.symm
 have G8 : Hid (TkO w8 Y7.heap.size g1 q2 d2 (.slice c1 g1.length o1) (.slice c2 q2.length o2) (.slice c3 d2.length o3)) := hT2
 have GL : Hid (∀ g, TkO.bs q2 d2 (.slice c1 g1.length o1) (.slice c2 q2.length o2) (.slice c3 d2.length o3) g → Y7.heap.size ≤ g ∧ g < w8.heap.size) := hT2.lt
 clear hS2 hT2 hlq hld
 obtain ⟨Y8, hY8⟩ : ∃ Y, Y = w8.alloc (.cells #[.int .i64 t1, .slice c1 g1.length o1, .slice c2 q2.length o2] 34) := ⟨_, rfl⟩
 have HY8 : Hid (Y8 = w8.alloc (.cells #[.int .i64 t1, .slice c1 g1.length o1, .slice c2 q2.length o2] 34)) := hY8
 have cY : Below w8.heap.size w8 Y8 := by rw [hY8]; exact bl_alloc (Below.refl _ _) _
 have C9 : Hid (Below w.heap.size w Y8) := bl_trans C8.out cY
 have A9 : Hid (Bo Y8 w.heap.size #[.int .i64 t, v1, v2]) := (A8.out).keep cY
 have E9 : Hid (Bo Y8 (w.heap.size + 1) #[.int .i64 p.k, .string p.b, .int .i64 p.s, v5, .string p.h, .string p.c, .int .i64 p.t]) := (E8.out).keep cY
 have V9 : Hid (TkO Y8 w2.heap.size g1 q1 d1 (.slice a1 g1.length p1) (.slice a2 q1.length p2) (.slice a3 d1.length p3)) := (V8.out).keep cY
 have W9 : Hid (Bt Y8 bb [.int .i64 t1, .slice a1 g1.length p1, .slice a2 q1.length p2]) := (W8.out).keep cY
 have X9 : Hid (LdO Y8 w5.heap.size gs xs (.slice (some ⟨e1, 0, none⟩) gs.length gs.length) (.slice (some ⟨e2, 0, none⟩) xs.length xs.length)) := (X8.out).keep cY
 have B9 : Hid (Bo Y8 w6.heap.size #[.int .i64 t, .slice (some ⟨e1, 0, none⟩) gs.length gs.length, .slice (some ⟨e2, 0, none⟩) xs.length xs.length]) := (B8.out).keep cY
 have S9 : Hid (W.Sl Y8 (.slice (some ⟨e5, 0, none⟩) p.ws.length p.ws.length) p.ws Y6.heap.size) := (S8.out).keep cY
 have F9 : Hid (Bo Y8 w7.heap.size #[.int .i64 p.k, .string p.b, .int .i64 p.s, .slice (some ⟨e5, 0, none⟩) p.ws.length p.ws.length, .string p.h, .string p.c, .int .i64 p.t]) := (F8.out).keep cY
 have G9 : Hid (TkO Y8 Y7.heap.size g1 q2 d2 (.slice c1 g1.length o1) (.slice c2 q2.length o2) (.slice c3 d2.length o3)) := (G8.out).keep cY
 have D9 : Hid (Bo Y8 w8.heap.size #[.int .i64 t1, .slice c1 g1.length o1, .slice c2 q2.length o2]) := by rw [hY8]; exact Bo.new _ _ _
 have ZY8 : Hid (Y8.heap.size = w8.heap.size + 1) := by rw [hY8]; show _ = _; simp
 clear cY
 clear C8 A8 E8 V8 W8 X8 B8 S8 F8 G8
 have kw0 : (w8.alloc (.cells #[.int .i64 t1, .slice c1 g1.length o1, .slice c2 q2.length o2] 34)).cell? ⟨bb, 0, none⟩ = some (.int .i64 t1) := by rw [← hY8]; exact W9.out.r 0 _ rfl
 have kw1 : (w8.alloc (.cells #[.int .i64 t1, .slice c1 g1.length o1, .slice c2 q2.length o2] 34)).cell? ⟨bb, 1, none⟩ = some (.slice a1 g1.length p1) := by rw [← hY8]; exact W9.out.r 1 _ rfl
 have kw2 : (w8.alloc (.cells #[.int .i64 t1, .slice c1 g1.length o1, .slice c2 q2.length o2] 34)).cell? ⟨bb, 2, none⟩ = some (.slice a2 q1.length p2) := by rw [← hY8]; exact W9.out.r 2 _ rfl
 clear hY8
 go_wp2_with fail
 clear kw0 kw1 kw2
 rw [← HY8.out]
 refine (eqLand_o t1 g1 _ q1 _ _ _ _ _ _ Y8 G9.out.l V9.out.l LQ.out BD2.out.a BD2.out.b BD2.out.c).mono ?_
 rintro e w9 ⟨rfl, c⟩
 have C10 : Hid (Below w.heap.size w w9) := bl_trans C9.out c
 have A10 : Hid (Bo w9 w.heap.size #[.int .i64 t, v1, v2]) := (A9.out).keep c
 have E10 : Hid (Bo w9 (w.heap.size + 1) #[.int .i64 p.k, .string p.b, .int .i64 p.s, v5, .string p.h, .string p.c, .int .i64 p.t]) := (E9.out).keep c
 have V10 : Hid (TkO w9 w2.heap.size g1 q1 d1 (.slice a1 g1.length p1) (.slice a2 q1.length p2) (.slice a3 d1.length p3)) := (V9.out).keep c
 have W10 : Hid (Bt w9 bb [.int .i64 t1, .slice a1 g1.length p1, .slice a2 q1.length p2]) := (W9.out).keep c
 have X10 : Hid (LdO w9 w5.heap.size gs xs (.slice (some ⟨e1, 0, none⟩) gs.length gs.length) (.slice (some ⟨e2, 0, none⟩) xs.length xs.length)) := (X9.out).keep c
 have B10 : Hid (Bo w9 w6.heap.size #[.int .i64 t, .slice (some ⟨e1, 0, none⟩) gs.length gs.length, .slice (some ⟨e2, 0, none⟩) xs.length xs.length]) := (B9.out).keep c
 have S10 : Hid (W.Sl w9 (.slice (some ⟨e5, 0, none⟩) p.ws.length p.ws.length) p.ws Y6.heap.size) := (S9.out).keep c
 have F10 : Hid (Bo w9 w7.heap.size #[.int .i64 p.k, .string p.b, .int .i64 p.s, .slice (some ⟨e5, 0, none⟩) p.ws.length p.ws.length, .string p.h, .string p.c, .int .i64 p.t]) := (F9.out).keep c
 have G10 : Hid (TkO w9 Y7.heap.size g1 q2 d2 (.slice c1 g1.length o1) (.slice c2 q2.length o2) (.slice c3 d2.length o3)) := (G9.out).keep c
 have D10 : Hid (Bo w9 w8.heap.size #[.int .i64 t1, .slice c1 g1.length o1, .slice c2 q2.length o2]) := (D9.out).keep c
 clear c
 clear C9 A9 E9 V9 W9 X9 B9 S9 F9 G9 D9
 go_wp2_with fail
 refine (eqPc_sl G10.out.c V10.out.c LD.out BD2.out.d BD2.out.e).mono ?_
 rintro e w10 ⟨rfl, c⟩
 have C11 : Hid (Below w.heap.size w w10) := bl_trans C10.out c
 have A11 : Hid (Bo w10 w.heap.size #[.int .i64 t, v1, v2]) := (A10.out).keep c
 have E11 : Hid (Bo w10 (w.heap.size + 1) #[.int .i64 p.k, .string p.b, .int .i64 p.s, v5, .string p.h, .string p.c, .int .i64 p.t]) := (E10.out).keep c
 have V11 : Hid (TkO w10 w2.heap.size g1 q1 d1 (.slice a1 g1.length p1) (.slice a2 q1.length p2) (.slice a3 d1.length p3)) := (V10.out).keep c
 have W11 : Hid (Bt w10 bb [.int .i64 t1, .slice a1 g1.length p1, .slice a2 q1.length p2]) := (W10.out).keep c
 have X11 : Hid (LdO w10 w5.heap.size gs xs (.slice (some ⟨e1, 0, none⟩) gs.length gs.length) (.slice (some ⟨e2, 0, none⟩) xs.length xs.length)) := (X10.out).keep c
 have B11 : Hid (Bo w10 w6.heap.size #[.int .i64 t, .slice (some ⟨e1, 0, none⟩) gs.length gs.length, .slice (some ⟨e2, 0, none⟩) xs.length xs.length]) := (B10.out).keep c
 have S11 : Hid (W.Sl w10 (.slice (some ⟨e5, 0, none⟩) p.ws.length p.ws.length) p.ws Y6.heap.size) := (S10.out).keep c
 have F11 : Hid (Bo w10 w7.heap.size #[.int .i64 p.k, .string p.b, .int .i64 p.s, .slice (some ⟨e5, 0, none⟩) p.ws.length p.ws.length, .string p.h, .string p.c, .int .i64 p.t]) := (F10.out).keep c
 have G11 : Hid (TkO w10 Y7.heap.size g1 q2 d2 (.slice c1 g1.length o1) (.slice c2 q2.length o2) (.slice c3 d2.length o3)) := (G10.out).keep c
 have D11 : Hid (Bo w10 w8.heap.size #[.int .i64 t1, .slice c1 g1.length o1, .slice c2 q2.length o2]) := (D10.out).keep c
 clear c
 clear C10 A10 E10 V10 W10 X10 B10 S10 F10 G10 D10
 go_wp2_with fail
 go_region_held3 (fun y => Below w10.heap.size w10 y ∧ (y.cell? ⟨w.heap.size, 0, none⟩ = some (.int .i64 t) ∧ y.cell? ⟨w.heap.size, 1, none⟩ = some (v1) ∧ y.cell? ⟨w.heap.size, 2, none⟩ = some (v2) ∧ y.cell? ⟨w6.heap.size, 0, none⟩ = some (.int .i64 t) ∧ y.cell? ⟨w6.heap.size, 1, none⟩ = some (.slice (some ⟨e1, 0, none⟩) gs.length gs.length) ∧ y.cell? ⟨w6.heap.size, 2, none⟩ = some (.slice (some ⟨e2, 0, none⟩) xs.length xs.length)))
  (first | exact ldK A11.out.c B11.out.c A11.out.l B11.out.l (bl_drew (Below.refl _ _)) | exact ldK A11.out.c B11.out.c A11.out.l B11.out.l (bl_trans (bl_drew (Below.refl _ _)) hy) | exact ldK A11.out.c B11.out.c A11.out.l B11.out.l (bl_trans (bl_trans (bl_drew (Below.refl _ _)) hy) hz))
  (first | (go_at_call 7; refine (P.toLand_o t gs ps v1 v2 _ (i1.keep (bl_trans C11.out (bl_drew (Below.refl _ _)))) (i2.keep (bl_trans C11.out (bl_drew (Below.refl _ _)))) l1 l2 HL.out).mono ?_; rintro e y' ⟨⟨f1, f2, us, rfl, hus, -, hLu⟩, hy⟩) | (go_at_call 10; refine (eqLand_o t gs xs us _ _ _ _ _ _ _ (X11.out.keep (bl_trans (bl_drew (Below.refl _ _)) hy)) hLu (HXS.out.trans hus.symm) l1 (by rw [HXS.out.len]; exact l2) (lns_like HXS.out HL.out)).mono ?_; rintro e y'' ⟨rfl, hz⟩))
 have cc := bl_trans (bl_trans (bl_drew (Below.refl _ w10)) hy) hz
 clear hy hz hLu hus
 obtain ⟨w11, hw11⟩ : ∃ w11 : World, w11 = y'' := ⟨_, rfl⟩
 subst hw11
 have C12 : Hid (Below w.heap.size w w11) := bl_trans C11.out cc
 have A12 : Hid (Bo w11 w.heap.size #[.int .i64 t, v1, v2]) := (A11.out).keep cc
 have E12 : Hid (Bo w11 (w.heap.size + 1) #[.int .i64 p.k, .string p.b, .int .i64 p.s, v5, .string p.h, .string p.c, .int .i64 p.t]) := (E11.out).keep cc
 have V12 : Hid (TkO w11 w2.heap.size g1 q1 d1 (.slice a1 g1.length p1) (.slice a2 q1.length p2) (.slice a3 d1.length p3)) := (V11.out).keep cc
 have W12 : Hid (Bt w11 bb [.int .i64 t1, .slice a1 g1.length p1, .slice a2 q1.length p2]) := (W11.out).keep cc
 have X12 : Hid (LdO w11 w5.heap.size gs xs (.slice (some ⟨e1, 0, none⟩) gs.length gs.length) (.slice (some ⟨e2, 0, none⟩) xs.length xs.length)) := (X11.out).keep cc
 have B12 : Hid (Bo w11 w6.heap.size #[.int .i64 t, .slice (some ⟨e1, 0, none⟩) gs.length gs.length, .slice (some ⟨e2, 0, none⟩) xs.length xs.length]) := (B11.out).keep cc
 have S12 : Hid (W.Sl w11 (.slice (some ⟨e5, 0, none⟩) p.ws.length p.ws.length) p.ws Y6.heap.size) := (S11.out).keep cc
 have F12 : Hid (Bo w11 w7.heap.size #[.int .i64 p.k, .string p.b, .int .i64 p.s, .slice (some ⟨e5, 0, none⟩) p.ws.length p.ws.length, .string p.h, .string p.c, .int .i64 p.t]) := (F11.out).keep cc
 have G12 : Hid (TkO w11 Y7.heap.size g1 q2 d2 (.slice c1 g1.length o1) (.slice c2 q2.length o2) (.slice c3 d2.length o3)) := (G11.out).keep cc
 have D12 : Hid (Bo w11 w8.heap.size #[.int .i64 t1, .slice c1 g1.length o1, .slice c2 q2.length o2]) := (D11.out).keep cc
 clear cc
 clear C11 A11 E11 V11 W11 X11 B11 S11 F11 G11 D11
 go_wp2_with fail
 go_region_held3 (fun y => Below w11.heap.size w11 y ∧ (y.cell? ⟨w.heap.size + 1, 0, none⟩ = some (.int .i64 p.k) ∧ y.cell? ⟨w.heap.size + 1, 1, none⟩ = some (.string p.b) ∧ y.cell? ⟨w.heap.size + 1, 2, none⟩ = some (.int .i64 p.s) ∧ y.cell? ⟨w.heap.size + 1, 3, none⟩ = some (v5) ∧ y.cell? ⟨w.heap.size + 1, 4, none⟩ = some (.string p.h) ∧ y.cell? ⟨w.heap.size + 1, 5, none⟩ = some (.string p.c) ∧ y.cell? ⟨w.heap.size + 1, 6, none⟩ = some (.int .i64 p.t) ∧ y.cell? ⟨w7.heap.size, 0, none⟩ = some (.int .i64 p.k) ∧ y.cell? ⟨w7.heap.size, 1, none⟩ = some (.string p.b) ∧ y.cell? ⟨w7.heap.size, 2, none⟩ = some (.int .i64 p.s) ∧ y.cell? ⟨w7.heap.size, 3, none⟩ = some (.slice (some ⟨e5, 0, none⟩) p.ws.length p.ws.length) ∧ y.cell? ⟨w7.heap.size, 4, none⟩ = some (.string p.h) ∧ y.cell? ⟨w7.heap.size, 5, none⟩ = some (.string p.c) ∧ y.cell? ⟨w7.heap.size, 6, none⟩ = some (.int .i64 p.t)))
  (first | exact pcK E12.out.c F12.out.c E12.out.l F12.out.l (bl_drew (Below.refl _ _)) | exact pcK E12.out.c F12.out.c E12.out.l F12.out.l (bl_trans (bl_drew (Below.refl _ _)) hy) | exact pcK E12.out.c F12.out.c E12.out.l F12.out.l (bl_trans (bl_trans (bl_drew (Below.refl _ _)) hy) hz))
  (first | (go_at_call 8; refine (toParcel_sl p v5 _ (i5.keep (bl_trans C12.out (bl_drew (Below.refl _ _)))) l5).mono ?_; rintro e y' ⟨x5, rfl, hPu, hy⟩) | (go_at_call 12; refine (eqParcel_sl p _ _ _ _ _ (S12.out.keep (bl_trans (bl_drew (Below.refl _ _)) hy)) hPu l5).mono ?_; rintro e y'' ⟨rfl, hz⟩))
 have cc := bl_trans (bl_trans (bl_drew (Below.refl _ w11)) hy) hz
 clear hy hz hPu
 obtain ⟨w12, hw12⟩ : ∃ w12 : World, w12 = y'' := ⟨_, rfl⟩
 subst hw12
 have C13 : Hid (Below w.heap.size w w12) := bl_trans C12.out cc
 have A13 : Hid (Bo w12 w.heap.size #[.int .i64 t, v1, v2]) := (A12.out).keep cc
 have E13 : Hid (Bo w12 (w.heap.size + 1) #[.int .i64 p.k, .string p.b, .int .i64 p.s, v5, .string p.h, .string p.c, .int .i64 p.t]) := (E12.out).keep cc
 have V13 : Hid (TkO w12 w2.heap.size g1 q1 d1 (.slice a1 g1.length p1) (.slice a2 q1.length p2) (.slice a3 d1.length p3)) := (V12.out).keep cc
 have W13 : Hid (Bt w12 bb [.int .i64 t1, .slice a1 g1.length p1, .slice a2 q1.length p2]) := (W12.out).keep cc
 have X13 : Hid (LdO w12 w5.heap.size gs xs (.slice (some ⟨e1, 0, none⟩) gs.length gs.length) (.slice (some ⟨e2, 0, none⟩) xs.length xs.length)) := (X12.out).keep cc
 have B13 : Hid (Bo w12 w6.heap.size #[.int .i64 t, .slice (some ⟨e1, 0, none⟩) gs.length gs.length, .slice (some ⟨e2, 0, none⟩) xs.length xs.length]) := (B12.out).keep cc
 have S13 : Hid (W.Sl w12 (.slice (some ⟨e5, 0, none⟩) p.ws.length p.ws.length) p.ws Y6.heap.size) := (S12.out).keep cc
 have F13 : Hid (Bo w12 w7.heap.size #[.int .i64 p.k, .string p.b, .int .i64 p.s, .slice (some ⟨e5, 0, none⟩) p.ws.length p.ws.length, .string p.h, .string p.c, .int .i64 p.t]) := (F12.out).keep cc
 have G13 : Hid (TkO w12 Y7.heap.size g1 q2 d2 (.slice c1 g1.length o1) (.slice c2 q2.length o2) (.slice c3 d2.length o3)) := (G12.out).keep cc
 have D13 : Hid (Bo w12 w8.heap.size #[.int .i64 t1, .slice c1 g1.length o1, .slice c2 q2.length o2]) := (D12.out).keep cc
 clear cc
 clear C12 A12 E12 V12 W12 X12 B12 S12 F12 G12 D12
 have kb := B13.out.c
 go_wp2_with fail
 clear kb
 refine (markLand_o t gs xs _ _ _ 1 _ X13.out l1 (by rw [HXS.out.len]; exact l2) (lns_like HXS.out HL.out) (by omega) (by omega)).mono ?_
 rintro e w13 ⟨he, -, o⟩
 have kn : 0 ≤ endP (endG 1 gs) xs ∧ endP (endG 1 gs) xs ≤ 9000000000000 := by have h1 := endG_le 1 gs; have h2 := endP_le (endG 1 gs) xs (lns_like HXS.out HL.out); have h3 := HXS.out.len; omega
 obtain ⟨kk, hkk⟩ : ∃ kk : Int, kk = endP (endG 1 gs) xs := ⟨_, rfl⟩
 rw [← hkk] at he kn
 obtain ⟨kn, km⟩ := kn
 subst he
 clear hkk
 clear X13 B13
 have C14 : Hid (Below w.heap.size w w13) := bl_off2 C13.out o (fun j hj => by have h1 := XL.out j hj; have z0 := HZ0.out; obtain ⟨z1, z2⟩ := ZW.out; have z3 := Z6.out; have z4 := ZY6.out; have z5 := Z7.out; obtain ⟨z6, z7⟩ := ZE5.out; have z8 := ZY7.out; have z9 := Z8.out; have z10 := ZY8.out; omega)
 have A14 : Hid (Bo w13 w.heap.size #[.int .i64 t, v1, v2]) := (A13.out).off o (fun hp => by have h1 := XL.out _ hp; have z0 := HZ0.out; obtain ⟨z1, z2⟩ := ZW.out; have z3 := Z6.out; have z4 := ZY6.out; have z5 := Z7.out; obtain ⟨z6, z7⟩ := ZE5.out; have z8 := ZY7.out; have z9 := Z8.out; have z10 := ZY8.out; omega)
 have E14 : Hid (Bo w13 (w.heap.size + 1) #[.int .i64 p.k, .string p.b, .int .i64 p.s, v5, .string p.h, .string p.c, .int .i64 p.t]) := (E13.out).off o (fun hp => by have h1 := XL.out _ hp; have z0 := HZ0.out; obtain ⟨z1, z2⟩ := ZW.out; have z3 := Z6.out; have z4 := ZY6.out; have z5 := Z7.out; obtain ⟨z6, z7⟩ := ZE5.out; have z8 := ZY7.out; have z9 := Z8.out; have z10 := ZY8.out; omega)
 have V14 : Hid (TkO w13 w2.heap.size g1 q1 d1 (.slice a1 g1.length p1) (.slice a2 q1.length p2) (.slice a3 d1.length p3)) := (V13.out).off o (fun j hj hp => by have h0 := VL.out j hj; have h1 := XL.out j hp; have z0 := HZ0.out; obtain ⟨z1, z2⟩ := ZW.out; have z3 := Z6.out; have z4 := ZY6.out; have z5 := Z7.out; obtain ⟨z6, z7⟩ := ZE5.out; have z8 := ZY7.out; have z9 := Z8.out; have z10 := ZY8.out; omega)
 have W14 : Hid (Bt w13 bb [.int .i64 t1, .slice a1 g1.length p1, .slice a2 q1.length p2]) := (W13.out).off o (fun hp => by have h1 := XL.out _ hp; have z0 := HZ0.out; obtain ⟨z1, z2⟩ := ZW.out; have z3 := Z6.out; have z4 := ZY6.out; have z5 := Z7.out; obtain ⟨z6, z7⟩ := ZE5.out; have z8 := ZY7.out; have z9 := Z8.out; have z10 := ZY8.out; omega)
 have S14 : Hid (W.Sl w13 (.slice (some ⟨e5, 0, none⟩) p.ws.length p.ws.length) p.ws Y6.heap.size) := (S13.out).off o (fun j hj hp => by have h1 := XL.out j hp; have h0 : e5 = j := Option.some.inj hj; have z0 := HZ0.out; obtain ⟨z1, z2⟩ := ZW.out; have z3 := Z6.out; have z4 := ZY6.out; have z5 := Z7.out; obtain ⟨z6, z7⟩ := ZE5.out; have z8 := ZY7.out; have z9 := Z8.out; have z10 := ZY8.out; omega)
 have F14 : Hid (Bo w13 w7.heap.size #[.int .i64 p.k, .string p.b, .int .i64 p.s, .slice (some ⟨e5, 0, none⟩) p.ws.length p.ws.length, .string p.h, .string p.c, .int .i64 p.t]) := (F13.out).off o (fun hp => by have h1 := XL.out _ hp; have z0 := HZ0.out; obtain ⟨z1, z2⟩ := ZW.out; have z3 := Z6.out; have z4 := ZY6.out; have z5 := Z7.out; obtain ⟨z6, z7⟩ := ZE5.out; have z8 := ZY7.out; have z9 := Z8.out; have z10 := ZY8.out; omega)
 have G14 : Hid (TkO w13 Y7.heap.size g1 q2 d2 (.slice c1 g1.length o1) (.slice c2 q2.length o2) (.slice c3 d2.length o3)) := (G13.out).off o (fun j hj hp => by have h0 := GL.out j hj; have h1 := XL.out j hp; have z0 := HZ0.out; obtain ⟨z1, z2⟩ := ZW.out; have z3 := Z6.out; have z4 := ZY6.out; have z5 := Z7.out; obtain ⟨z6, z7⟩ := ZE5.out; have z8 := ZY7.out; have z9 := Z8.out; have z10 := ZY8.out; omega)
 have D14 : Hid (Bo w13 w8.heap.size #[.int .i64 t1, .slice c1 g1.length o1, .slice c2 q2.length o2]) := (D13.out).off o (fun hp => by have h1 := XL.out _ hp; have z0 := HZ0.out; obtain ⟨z1, z2⟩ := ZW.out; have z3 := Z6.out; have z4 := ZY6.out; have z5 := Z7.out; obtain ⟨z6, z7⟩ := ZE5.out; have z8 := ZY7.out; have z9 := Z8.out; have z10 := ZY8.out; omega)
 clear o
 clear C13 A13 E13 V13 W13 S13 F13 G13 D13
 have kf := F14.out.c
 go_wp2_with fail
 clear kf
 refine (markParcel_sl p _ _ kk _ S14.out l5 kn (by omega)).mono ?_
 rintro e w14 ⟨rfl, o⟩
 clear S14 F14
 have C15 : Hid (Below w.heap.size w w14) := bl_off2 C14.out o (fun j hj => by have h0 : e5 = j := Option.some.inj hj; have z0 := HZ0.out; obtain ⟨z1, z2⟩ := ZW.out; have z3 := Z6.out; have z4 := ZY6.out; have z5 := Z7.out; obtain ⟨z6, z7⟩ := ZE5.out; have z8 := ZY7.out; have z9 := Z8.out; have z10 := ZY8.out; omega)
 have A15 : Hid (Bo w14 w.heap.size #[.int .i64 t, v1, v2]) := (A14.out).off o (fun hp => by have h0 := Option.some.inj hp; have z0 := HZ0.out; obtain ⟨z1, z2⟩ := ZW.out; have z3 := Z6.out; have z4 := ZY6.out; have z5 := Z7.out; obtain ⟨z6, z7⟩ := ZE5.out; have z8 := ZY7.out; have z9 := Z8.out; have z10 := ZY8.out; simp only at h0; omega)
 have E15 : Hid (Bo w14 (w.heap.size + 1) #[.int .i64 p.k, .string p.b, .int .i64 p.s, v5, .string p.h, .string p.c, .int .i64 p.t]) := (E14.out).off o (fun hp => by have h0 := Option.some.inj hp; have z0 := HZ0.out; obtain ⟨z1, z2⟩ := ZW.out; have z3 := Z6.out; have z4 := ZY6.out; have z5 := Z7.out; obtain ⟨z6, z7⟩ := ZE5.out; have z8 := ZY7.out; have z9 := Z8.out; have z10 := ZY8.out; simp only at h0; omega)
 have V15 : Hid (TkO w14 w2.heap.size g1 q1 d1 (.slice a1 g1.length p1) (.slice a2 q1.length p2) (.slice a3 d1.length p3)) := (V14.out).off o (fun j hj hp => by have h0 := VL.out j hj; have h1 : e5 = j := Option.some.inj hp; have z0 := HZ0.out; obtain ⟨z1, z2⟩ := ZW.out; have z3 := Z6.out; have z4 := ZY6.out; have z5 := Z7.out; obtain ⟨z6, z7⟩ := ZE5.out; have z8 := ZY7.out; have z9 := Z8.out; have z10 := ZY8.out; omega)
 have W15 : Hid (Bt w14 bb [.int .i64 t1, .slice a1 g1.length p1, .slice a2 q1.length p2]) := (W14.out).off o (fun hp => by have h0 := Option.some.inj hp; have z0 := HZ0.out; obtain ⟨z1, z2⟩ := ZW.out; have z3 := Z6.out; have z4 := ZY6.out; have z5 := Z7.out; obtain ⟨z6, z7⟩ := ZE5.out; have z8 := ZY7.out; have z9 := Z8.out; have z10 := ZY8.out; simp only at h0; omega)
 have G15 : Hid (TkO w14 Y7.heap.size g1 q2 d2 (.slice c1 g1.length o1) (.slice c2 q2.length o2) (.slice c3 d2.length o3)) := (G14.out).off o (fun j hj hp => by have h0 := GL.out j hj; have h1 : e5 = j := Option.some.inj hp; have z0 := HZ0.out; obtain ⟨z1, z2⟩ := ZW.out; have z3 := Z6.out; have z4 := ZY6.out; have z5 := Z7.out; obtain ⟨z6, z7⟩ := ZE5.out; have z8 := ZY7.out; have z9 := Z8.out; have z10 := ZY8.out; omega)
 have D15 : Hid (Bo w14 w8.heap.size #[.int .i64 t1, .slice c1 g1.length o1, .slice c2 q2.length o2]) := (D14.out).off o (fun hp => by have h0 := Option.some.inj hp; have z0 := HZ0.out; obtain ⟨z1, z2⟩ := ZW.out; have z3 := Z6.out; have z4 := ZY6.out; have z5 := Z7.out; obtain ⟨z6, z7⟩ := ZE5.out; have z8 := ZY7.out; have z9 := Z8.out; have z10 := ZY8.out; simp only at h0; omega)
 clear o
 clear C14 A14 E14 V14 W14 G14 D14
 obtain ⟨kl, hkl⟩ : ∃ kl : Int, kl = kk + 7 * (p.ws.length : Int) := ⟨_, rfl⟩
 have kln : 0 ≤ kl := by omega
 rw [← hkl]
 clear hkl
 have kw0 : w14.cell? ⟨bb, 0, none⟩ = some (.int .i64 t1) := W15.out.r 0 _ rfl
 have kw1 : w14.cell? ⟨bb, 1, none⟩ = some (.slice a1 g1.length p1) := W15.out.r 1 _ rfl
 have kw2 : w14.cell? ⟨bb, 2, none⟩ = some (.slice a2 q1.length p2) := W15.out.r 2 _ rfl
 have kz := D15.out.c
 go_wp2_with fail
 clear kw0 kw1 kw2 kz
 refine (eqLand_o t1 g1 _ q1 _ _ _ _ _ _ w14 G15.out.l V15.out.l LQ.out BD2.out.a BD2.out.b BD2.out.c).mono ?_
 rintro e w15 ⟨rfl, c⟩
 have C16 : Hid (Below w.heap.size w w15) := bl_trans C15.out c
 have A16 : Hid (Bo w15 w.heap.size #[.int .i64 t, v1, v2]) := (A15.out).keep c
 have E16 : Hid (Bo w15 (w.heap.size + 1) #[.int .i64 p.k, .string p.b, .int .i64 p.s, v5, .string p.h, .string p.c, .int .i64 p.t]) := (E15.out).keep c
 have V16 : Hid (TkO w15 w2.heap.size g1 q1 d1 (.slice a1 g1.length p1) (.slice a2 q1.length p2) (.slice a3 d1.length p3)) := (V15.out).keep c
 have W16 : Hid (Bt w15 bb [.int .i64 t1, .slice a1 g1.length p1, .slice a2 q1.length p2]) := (W15.out).keep c
 have G16 : Hid (TkO w15 Y7.heap.size g1 q2 d2 (.slice c1 g1.length o1) (.slice c2 q2.length o2) (.slice c3 d2.length o3)) := (G15.out).keep c
 have D16 : Hid (Bo w15 w8.heap.size #[.int .i64 t1, .slice c1 g1.length o1, .slice c2 q2.length o2]) := (D15.out).keep c
 clear c
 clear C15 A15 E15 V15 W15 G15 D15
 go_wp2_with fail
 refine (eqPc_sl G16.out.c V16.out.c LD.out BD2.out.d BD2.out.e).mono ?_
 rintro e w16 ⟨rfl, c⟩
 have C17 : Hid (Below w.heap.size w w16) := bl_trans C16.out c
 have A17 : Hid (Bo w16 w.heap.size #[.int .i64 t, v1, v2]) := (A16.out).keep c
 have E17 : Hid (Bo w16 (w.heap.size + 1) #[.int .i64 p.k, .string p.b, .int .i64 p.s, v5, .string p.h, .string p.c, .int .i64 p.t]) := (E16.out).keep c
 have V17 : Hid (TkO w16 w2.heap.size g1 q1 d1 (.slice a1 g1.length p1) (.slice a2 q1.length p2) (.slice a3 d1.length p3)) := (V16.out).keep c
 have W17 : Hid (Bt w16 bb [.int .i64 t1, .slice a1 g1.length p1, .slice a2 q1.length p2]) := (W16.out).keep c
 have G17 : Hid (TkO w16 Y7.heap.size g1 q2 d2 (.slice c1 g1.length o1) (.slice c2 q2.length o2) (.slice c3 d2.length o3)) := (G16.out).keep c
 have D17 : Hid (Bo w16 w8.heap.size #[.int .i64 t1, .slice c1 g1.length o1, .slice c2 q2.length o2]) := (D16.out).keep c
 clear c
 clear C16 A16 E16 V16 W16 G16 D16
 have kz := D17.out.c
 go_wp2_with fail
 clear kz
 have eb := BD2.out.ends
 obtain ⟨m1, hm1⟩ : ∃ m1 : Int, m1 = endP (endG 1 g1) q2 := ⟨_, rfl⟩
 obtain ⟨m2, hm2⟩ : ∃ m2 : Int, m2 = foldK stPc m1 d2 d2.length := ⟨_, rfl⟩
 rw [← hm1, ← hm2] at eb
 obtain ⟨m1a, m1b, m2a⟩ := eb
 have HM1 : Hid (m1 = endP (endG 1 g1) q2) := hm1
 have HM2 : Hid (m2 = foldK stPc m1 d2 d2.length) := hm2
 clear hm1 hm2
 refine (markLand_o t1 g1 q2 _ _ _ 1 _ G17.out.l BD2.out.a BD2.out.b BD2.out.c (by omega) (by omega)).mono ?_
 rintro e w17 ⟨he, M, o⟩
 rw [← HM1.out] at he
 subst he
 have GLC : Hid (∀ g, LdO.bs q2 (.slice c1 g1.length o1) (.slice c2 q2.length o2) g → ¬ PcO.bs d2 (.slice c3 d2.length o3) g) := G17.out.lc
 have N18 : Hid (PcO w17 Y7.heap.size d2 (.slice c3 d2.length o3)) := G17.out.c.off o (fun g hg hp => GLC.out g hp hg)
 have M18 : Hid (LdO w17 Y7.heap.size (markGs 1 g1) (markPs (endG 1 g1) q2) (.slice c1 g1.length o1) (.slice c2 q2.length o2)) := M
 have C18 : Hid (Below w.heap.size w w17) := bl_off2 C17.out o (fun j hj => by have h1 := GL.out j (Or.inl hj); have z0 := HZ0.out; obtain ⟨z1, z2⟩ := ZW.out; have z3 := Z6.out; have z4 := ZY6.out; have z5 := Z7.out; obtain ⟨z6, z7⟩ := ZE5.out; have z8 := ZY7.out; have z9 := Z8.out; have z10 := ZY8.out; omega)
 have A18 : Hid (Bo w17 w.heap.size #[.int .i64 t, v1, v2]) := (A17.out).off o (fun hp => by have h1 := GL.out _ (Or.inl hp); have z0 := HZ0.out; obtain ⟨z1, z2⟩ := ZW.out; have z3 := Z6.out; have z4 := ZY6.out; have z5 := Z7.out; obtain ⟨z6, z7⟩ := ZE5.out; have z8 := ZY7.out; have z9 := Z8.out; have z10 := ZY8.out; omega)
 have E18 : Hid (Bo w17 (w.heap.size + 1) #[.int .i64 p.k, .string p.b, .int .i64 p.s, v5, .string p.h, .string p.c, .int .i64 p.t]) := (E17.out).off o (fun hp => by have h1 := GL.out _ (Or.inl hp); have z0 := HZ0.out; obtain ⟨z1, z2⟩ := ZW.out; have z3 := Z6.out; have z4 := ZY6.out; have z5 := Z7.out; obtain ⟨z6, z7⟩ := ZE5.out; have z8 := ZY7.out; have z9 := Z8.out; have z10 := ZY8.out; omega)
 have V18 : Hid (TkO w17 w2.heap.size g1 q1 d1 (.slice a1 g1.length p1) (.slice a2 q1.length p2) (.slice a3 d1.length p3)) := (V17.out).off o (fun j hj hp => by have h0 := VL.out j hj; have h1 := GL.out j (Or.inl hp); have z0 := HZ0.out; obtain ⟨z1, z2⟩ := ZW.out; have z3 := Z6.out; have z4 := ZY6.out; have z5 := Z7.out; obtain ⟨z6, z7⟩ := ZE5.out; have z8 := ZY7.out; have z9 := Z8.out; have z10 := ZY8.out; omega)
 have W18 : Hid (Bt w17 bb [.int .i64 t1, .slice a1 g1.length p1, .slice a2 q1.length p2]) := (W17.out).off o (fun hp => by have h1 := GL.out _ (Or.inl hp); have z0 := HZ0.out; obtain ⟨z1, z2⟩ := ZW.out; have z3 := Z6.out; have z4 := ZY6.out; have z5 := Z7.out; obtain ⟨z6, z7⟩ := ZE5.out; have z8 := ZY7.out; have z9 := Z8.out; have z10 := ZY8.out; omega)
 have D18 : Hid (Bo w17 w8.heap.size #[.int .i64 t1, .slice c1 g1.length o1, .slice c2 q2.length o2]) := (D17.out).off o (fun hp => by have h1 := GL.out _ (Or.inl hp); have z0 := HZ0.out; obtain ⟨z1, z2⟩ := ZW.out; have z3 := Z6.out; have z4 := ZY6.out; have z5 := Z7.out; obtain ⟨z6, z7⟩ := ZE5.out; have z8 := ZY7.out; have z9 := Z8.out; have z10 := ZY8.out; omega)
 clear o M
 clear C17 A17 E17 V17 W17 D17 G17
 go_wp2_with fail
 refine (markPc_sl d2 _ _ m1 _ N18.out BD2.out.d BD2.out.e (by omega) (by omega)).mono ?_
 rintro e w18 ⟨he, N, o⟩
 rw [← HM2.out] at he
 subst he
 have R19 : Hid (PcO w18 Y7.heap.size (markL stPc mkPc m1 d2 d2.length) (.slice c3 d2.length o3)) := N
 have C19 : Hid (Below w.heap.size w w18) := bl_off2 C18.out o (fun j hj => by have h1 := GL.out j (Or.inr hj); have z0 := HZ0.out; obtain ⟨z1, z2⟩ := ZW.out; have z3 := Z6.out; have z4 := ZY6.out; have z5 := Z7.out; obtain ⟨z6, z7⟩ := ZE5.out; have z8 := ZY7.out; have z9 := Z8.out; have z10 := ZY8.out; omega)
 have A19 : Hid (Bo w18 w.heap.size #[.int .i64 t, v1, v2]) := (A18.out).off o (fun hp => by have h1 := GL.out _ (Or.inr hp); have z0 := HZ0.out; obtain ⟨z1, z2⟩ := ZW.out; have z3 := Z6.out; have z4 := ZY6.out; have z5 := Z7.out; obtain ⟨z6, z7⟩ := ZE5.out; have z8 := ZY7.out; have z9 := Z8.out; have z10 := ZY8.out; omega)
 have E19 : Hid (Bo w18 (w.heap.size + 1) #[.int .i64 p.k, .string p.b, .int .i64 p.s, v5, .string p.h, .string p.c, .int .i64 p.t]) := (E18.out).off o (fun hp => by have h1 := GL.out _ (Or.inr hp); have z0 := HZ0.out; obtain ⟨z1, z2⟩ := ZW.out; have z3 := Z6.out; have z4 := ZY6.out; have z5 := Z7.out; obtain ⟨z6, z7⟩ := ZE5.out; have z8 := ZY7.out; have z9 := Z8.out; have z10 := ZY8.out; omega)
 have V19 : Hid (TkO w18 w2.heap.size g1 q1 d1 (.slice a1 g1.length p1) (.slice a2 q1.length p2) (.slice a3 d1.length p3)) := (V18.out).off o (fun j hj hp => by have h0 := VL.out j hj; have h1 := GL.out j (Or.inr hp); have z0 := HZ0.out; obtain ⟨z1, z2⟩ := ZW.out; have z3 := Z6.out; have z4 := ZY6.out; have z5 := Z7.out; obtain ⟨z6, z7⟩ := ZE5.out; have z8 := ZY7.out; have z9 := Z8.out; have z10 := ZY8.out; omega)
 have W19 : Hid (Bt w18 bb [.int .i64 t1, .slice a1 g1.length p1, .slice a2 q1.length p2]) := (W18.out).off o (fun hp => by have h1 := GL.out _ (Or.inr hp); have z0 := HZ0.out; obtain ⟨z1, z2⟩ := ZW.out; have z3 := Z6.out; have z4 := ZY6.out; have z5 := Z7.out; obtain ⟨z6, z7⟩ := ZE5.out; have z8 := ZY7.out; have z9 := Z8.out; have z10 := ZY8.out; omega)
 have D19 : Hid (Bo w18 w8.heap.size #[.int .i64 t1, .slice c1 g1.length o1, .slice c2 q2.length o2]) := (D18.out).off o (fun hp => by have h1 := GL.out _ (Or.inr hp); have z0 := HZ0.out; obtain ⟨z1, z2⟩ := ZW.out; have z3 := Z6.out; have z4 := ZY6.out; have z5 := Z7.out; obtain ⟨z6, z7⟩ := ZE5.out; have z8 := ZY7.out; have z9 := Z8.out; have z10 := ZY8.out; omega)
 have M19 : Hid (LdO w18 Y7.heap.size (markGs 1 g1) (markPs (endG 1 g1) q2) (.slice c1 g1.length o1) (.slice c2 q2.length o2)) := (M18.out).off o (fun g hg hp => GLC.out g (by rcases hg with h | h; exact Or.inl h; exact Or.inr ((bs_markPs _ q2 _ _ g).1 h)) hp)
 clear o N
 clear C18 A18 E18 V18 W18 D18 M18 N18
 have kz := D19.out.c
 go_wp2_with fail
 clear kz
 refine (heldLand_o t1 g1 q2 _ _ _ 1 _ M19.out BD2.out.a BD2.out.b BD2.out.c (by omega) (by omega)).mono ?_
 rintro e w19 ⟨he, c⟩
 rw [← HM1.out] at he
 subst he
 have C20 : Hid (Below w.heap.size w w19) := bl_trans C19.out c
 have A20 : Hid (Bo w19 w.heap.size #[.int .i64 t, v1, v2]) := (A19.out).keep c
 have E20 : Hid (Bo w19 (w.heap.size + 1) #[.int .i64 p.k, .string p.b, .int .i64 p.s, v5, .string p.h, .string p.c, .int .i64 p.t]) := (E19.out).keep c
 have V20 : Hid (TkO w19 w2.heap.size g1 q1 d1 (.slice a1 g1.length p1) (.slice a2 q1.length p2) (.slice a3 d1.length p3)) := (V19.out).keep c
 have W20 : Hid (Bt w19 bb [.int .i64 t1, .slice a1 g1.length p1, .slice a2 q1.length p2]) := (W19.out).keep c
 have D20 : Hid (Bo w19 w8.heap.size #[.int .i64 t1, .slice c1 g1.length o1, .slice c2 q2.length o2]) := (D19.out).keep c
 have M20 : Hid (LdO w19 Y7.heap.size (markGs 1 g1) (markPs (endG 1 g1) q2) (.slice c1 g1.length o1) (.slice c2 q2.length o2)) := (M19.out).keep c
 have R20 : Hid (PcO w19 Y7.heap.size (markL stPc mkPc m1 d2 d2.length) (.slice c3 d2.length o3)) := (R19.out).keep c
 clear c
 clear C19 A19 E19 V19 W19 D19 M19 R19
 go_wp2_with fail
 refine (heldPc_sl d2 _ _ m1 _ R20.out BD2.out.d BD2.out.e (by omega) (by omega)).mono ?_
 rintro e w20 ⟨he, c⟩
 rw [← HM2.out] at he
 subst he
 have C21 : Hid (Below w.heap.size w w20) := bl_trans C20.out c
 have A21 : Hid (Bo w20 w.heap.size #[.int .i64 t, v1, v2]) := (A20.out).keep c
 have E21 : Hid (Bo w20 (w.heap.size + 1) #[.int .i64 p.k, .string p.b, .int .i64 p.s, v5, .string p.h, .string p.c, .int .i64 p.t]) := (E20.out).keep c
 have V21 : Hid (TkO w20 w2.heap.size g1 q1 d1 (.slice a1 g1.length p1) (.slice a2 q1.length p2) (.slice a3 d1.length p3)) := (V20.out).keep c
 have W21 : Hid (Bt w20 bb [.int .i64 t1, .slice a1 g1.length p1, .slice a2 q1.length p2]) := (W20.out).keep c
 have D21 : Hid (Bo w20 w8.heap.size #[.int .i64 t1, .slice c1 g1.length o1, .slice c2 q2.length o2]) := (D20.out).keep c
 have M21 : Hid (LdO w20 Y7.heap.size (markGs 1 g1) (markPs (endG 1 g1) q2) (.slice c1 g1.length o1) (.slice c2 q2.length o2)) := (M20.out).keep c
 have R21 : Hid (PcO w20 Y7.heap.size (markL stPc mkPc m1 d2 d2.length) (.slice c3 d2.length o3)) := (R20.out).keep c
 clear c
 clear C20 A20 E20 V20 W20 D20 M20 R20
 have KA : Hid (∀ y, Below w20.heap.size w20 y → ∀ k, y.cell? ⟨w.heap.size, k, none⟩ = (#[.int .i64 t, v1, v2] : Array Value)[k]?) := fun y hy => (A21.out.keep hy).c
 have KB : Hid (∀ y, Below w20.heap.size w20 y → ∀ k, y.cell? ⟨w.heap.size + 1, k, none⟩ = (#[.int .i64 p.k, .string p.b, .int .i64 p.s, v5, .string p.h, .string p.c, .int .i64 p.t] : Array Value)[k]?) := fun y hy => (E21.out.keep hy).c
 have TO : Hid (∀ y, Below w20.heap.size w20 y → Calls Tryz.prog 7 #[.agg #[.int .i64 t, v1, v2]] y fun e w' => (∃ b1 b2 qs, e = .returned (.agg #[.int .i64 t, .slice (some ⟨b1, 0, none⟩) gs.length gs.length, .slice (some ⟨b2, 0, none⟩) qs.length qs.length]) ∧ P.Like qs ps ∧ P.LandAt w' gs qs b1 b2 ∧ LdO w' y.heap.size gs qs (.slice (some ⟨b1, 0, none⟩) gs.length gs.length) (.slice (some ⟨b2, 0, none⟩) qs.length qs.length)) ∧ Below y.heap.size y w') := fun y hy => P.toLand_o t gs ps v1 v2 y (i1.keep (bl_trans C21.out hy)) (i2.keep (bl_trans C21.out hy)) l1 l2 HL.out
 have TPC : Hid (∀ y, Below w20.heap.size w20 y → Calls Tryz.prog 8 #[.agg #[.int .i64 p.k, .string p.b, .int .i64 p.s, v5, .string p.h, .string p.c, .int .i64 p.t]] y fun e w' => ∃ b5, e = .returned (.agg #[.int .i64 p.k, .string p.b, .int .i64 p.s, .slice (some ⟨b5, 0, none⟩) p.ws.length p.ws.length, .string p.h, .string p.c, .int .i64 p.t]) ∧ W.Sl w' (.slice (some ⟨b5, 0, none⟩) p.ws.length p.ws.length) p.ws y.heap.size ∧ Below y.heap.size y w') := fun y hy => toParcel_sl p v5 y (i5.keep (bl_trans C21.out hy)) l5
 have CI : Hid (∀ y b1 b2 zs b5, Below w20.heap.size w20 y → P.Like zs ps → P.LandAt y gs zs b1 b2 → Calls Tryz.prog 9 #[.agg #[.int .i64 t, .slice (some ⟨b1, 0, none⟩) gs.length gs.length, .slice (some ⟨b2, 0, none⟩) zs.length zs.length], .agg #[.int .i64 p.k, .string p.b, .int .i64 p.s, .slice (some ⟨b5, 0, none⟩) p.ws.length p.ws.length, .string p.h, .string p.c, .int .i64 p.t]] y fun e w' => (∃ t' gs' qs ds s1 s2 v, e = .returned (.tuple #[.agg #[.int .i64 t', s1, s2], v]) ∧ TakeLSay t gs zs (⟨p.k, p.b, p.h, p.c, p.t⟩ : TakeP) t' gs' qs ds ∧ TkO w' y.heap.size gs' qs ds s1 s2 v) ∧ Below y.heap.size y w') := fun y b1 b2 zs b5 hy hz hA => implLandTake hK1 hS1k hK2 hS2k t gs zs b1 b2 (⟨p.k, p.b, p.h, p.c, p.t⟩ : TakeP) p.s _ _ _ y hA (HF.out.like hz) HFT.out (HE.out.keep (bl_trans C21.out hy))
 go_wp2_with fail
 refine wp_region_any (by kernel_rfl) ?_
 refine reg_invH (fun k => (104 ≤ k ∧ k ≤ 111) ∨ k = 15 ∨ k = 16) 11 (KI w20 t gs ps v1 v2 p v5) (by decide) rfl ⟨0, 0, [], 0, 0, [], [], [], undef, undef, undef, 0, ⟨bl_drew (Below.refl _ _), (fun e => by cases e), (fun e => by cases e), (fun e => by cases e), (fun e => by cases e), (fun e => by cases e), (fun e => by cases e), (fun e => by cases e), (fun e => by cases e), (fun e => by cases e), (fun e => by cases e), (fun e => by cases e)⟩⟩ ?doneI ?stepI
 case stepI =>
  intro listed x y i hI hi hlt
  obtain rfl | rfl | rfl | rfl | rfl | rfl | rfl | rfl | rfl | rfl | rfl : i = 0 ∨ i = 1 ∨ i = 2 ∨ i = 3 ∨ i = 4 ∨ i = 5 ∨ i = 6 ∨ i = 7 ∨ i = 8 ∨ i = 9 ∨ i = 10 := by omega
  ·
   have ho := ready_open hi
   have HLZ : Hid (listed.size = 11) := hI.lz
   have hv1 : listed.getD 1 false = false := noT (fun h => openT ho (hI.tr 1 0 (by rfl) h))
   have hv4 : listed.getD 4 false = false := noT (fun h => openT ho (hI.tr 1 0 (by rfl) (hI.tr 4 1 (by rfl) h)))
   have hv5 : listed.getD 5 false = false := noT (fun h => openT ho (hI.tr 1 0 (by rfl) (hI.tr 4 1 (by rfl) (hI.tr 5 4 (by rfl) h))))
   have hv6 : listed.getD 6 false = false := noT (fun h => openT ho (hI.tr 1 0 (by rfl) (hI.tr 4 1 (by rfl) (hI.tr 5 4 (by rfl) (hI.tr 6 5 (by rfl) h)))))
   have hv7 : listed.getD 7 false = false := noT (fun h => openT ho (hI.tr 1 0 (by rfl) (hI.tr 4 1 (by rfl) (hI.tr 5 4 (by rfl) (hI.tr 7 5 (by rfl) h)))))
   have hv9 : listed.getD 9 false = false := noT (fun h => openT ho (hI.tr 1 0 (by rfl) (hI.tr 4 1 (by rfl) (hI.tr 5 4 (by rfl) (hI.tr 6 5 (by rfl) (hI.tr 9 6 (by rfl) h))))))
   have hv10 : listed.getD 10 false = false := noT (fun h => openT ho (hI.tr 1 0 (by rfl) (hI.tr 4 1 (by rfl) (hI.tr 5 4 (by rfl) (hI.tr 7 5 (by rfl) (hI.tr 10 7 (by rfl) h))))))
   obtain ⟨b1, b2, zs, b5, t1, g1, q1, d1, s1, s2, sv, bb, h⟩ := hI.j
   have e1 : x.tmps[2]?.getD undef = .pointer (some ⟨w.heap.size, 0, none⟩) := ev_tmp (hI.out 2 (by omega))
   have k0 : y.cell? ⟨w.heap.size, 0, none⟩ = some (.int .i64 t) := KA.out y h.bl 0
   have k1 : y.cell? ⟨w.heap.size, 1, none⟩ = some v1 := KA.out y h.bl 1
   have k2 : y.cell? ⟨w.heap.size, 2, none⟩ = some v2 := KA.out y h.bl 2
   have HH : Hid (JI w20 t gs ps v1 v2 p v5 b1 b2 zs b5 t1 g1 q1 d1 s1 s2 sv bb listed y (fun k => x.tmps.getD k undef)) := h
   have HJ : Hid (Ih _ _ _ _ _ _ _ _) := hI
   have HI : Hid (_ ∈ Region.ready _ _ _) := hi
   clear hi hI ho h
   refine wpOp_plain rfl rfl ?_
   refine wp_cover (fun K hK => ?_)
   go_simp
   have h := HH.out
   exact hK.out _ _ (HJ.out.put HI.out (by omega) (by show (_ ∧ _) ∨ _; omega) (Nat.le_of_ble_eq_true rfl) ⟨b1, b2, zs, b5, t1, g1, q1, d1, s1, s2, sv, bb, (h.bl), (fun _ => rfl), (fun e => by rw [setT_ne (by decide), hv1] at e; cases e), (fun e => h.a2 (by rw [setT_ne (by decide)] at e; exact e)), (fun e => h.a3 (by rw [setT_ne (by decide)] at e; exact e)), (fun e => by rw [setT_ne (by decide), hv4] at e; cases e), (fun e => by rw [setT_ne (by decide), hv5] at e; cases e), (fun e => by rw [setT_ne (by decide), hv6] at e; cases e), (fun e => by rw [setT_ne (by decide), hv7] at e; cases e), (fun e => ⟨(h.a8 (by rw [setT_ne (by decide)] at e; exact e)).1, (h.a8 (by rw [setT_ne (by decide)] at e; exact e)).2.1, (h.a8 (by rw [setT_ne (by decide)] at e; exact e)).2.2.1, (fun e9 => (h.a8 (by rw [setT_ne (by decide)] at e; exact e)).2.2.2.1 (by rw [setT_ne (by decide)] at e9; exact e9)), fun e4 => (h.a8 (by rw [setT_ne (by decide)] at e; exact e)).2.2.2.2 (by rw [setT_ne (by decide)] at e4; exact e4)⟩), (fun e => by rw [setT_ne (by decide), hv9] at e; cases e), (fun e => by rw [setT_ne (by decide), hv10] at e; cases e)⟩)
  ·
   have ho := ready_open hi
   have HLZ : Hid (listed.size = 11) := hI.lz
   have hv4 : listed.getD 4 false = false := noT (fun h => openT ho (hI.tr 4 1 (by rfl) h))
   have hv5 : listed.getD 5 false = false := noT (fun h => openT ho (hI.tr 4 1 (by rfl) (hI.tr 5 4 (by rfl) h)))
   have hv6 : listed.getD 6 false = false := noT (fun h => openT ho (hI.tr 4 1 (by rfl) (hI.tr 5 4 (by rfl) (hI.tr 6 5 (by rfl) h))))
   have hv7 : listed.getD 7 false = false := noT (fun h => openT ho (hI.tr 4 1 (by rfl) (hI.tr 5 4 (by rfl) (hI.tr 7 5 (by rfl) h))))
   have hv9 : listed.getD 9 false = false := noT (fun h => openT ho (hI.tr 4 1 (by rfl) (hI.tr 5 4 (by rfl) (hI.tr 6 5 (by rfl) (hI.tr 9 6 (by rfl) h)))))
   have hv10 : listed.getD 10 false = false := noT (fun h => openT ho (hI.tr 4 1 (by rfl) (hI.tr 5 4 (by rfl) (hI.tr 7 5 (by rfl) (hI.tr 10 7 (by rfl) h)))))
   obtain ⟨b1, b2, zs, b5, t1, g1, q1, d1, s1, s2, sv, bb, h⟩ := hI.j
   have e1 : x.tmps[105]?.getD undef = .agg #[.int .i64 t, v1, v2] := ev_tmp (h.a0 (waits_of hi (i := 1) (j := 0) (by rfl)))
   have HH : Hid (JI w20 t gs ps v1 v2 p v5 b1 b2 zs b5 t1 g1 q1 d1 s1 s2 sv bb listed y (fun k => x.tmps.getD k undef)) := h
   have HJ : Hid (Ih _ _ _ _ _ _ _ _) := hI
   have HI : Hid (_ ∈ Region.ready _ _ _) := hi
   clear hi hI ho h
   refine wpOp_plain rfl rfl ?_
   refine wp_cover (fun K hK => ?_)
   go_simp
   refine (TO.out y HH.out.bl).mono ?_
   rintro e y9 ⟨⟨n1, n2, nz, rfl, hz9, hA9, -⟩, c9⟩
   have h := HH.out
   exact hK.out _ _ (HJ.out.put HI.out (by omega) (by show (_ ∧ _) ∨ _; omega) (Nat.le_of_ble_eq_true rfl) ⟨n1, n2, nz, b5, t1, g1, q1, d1, s1, s2, sv, bb, (bl_trans h.bl c9), (fun e => h.a0 (by rw [setT_ne (by decide)] at e; exact e)), (fun _ => ⟨rfl, hz9, fun _ => hA9⟩), (fun e => h.a2 (by rw [setT_ne (by decide)] at e; exact e)), (fun e => h.a3 (by rw [setT_ne (by decide)] at e; exact e)), (fun e => by rw [setT_ne (by decide), hv4] at e; cases e), (fun e => by rw [setT_ne (by decide), hv5] at e; cases e), (fun e => by rw [setT_ne (by decide), hv6] at e; cases e), (fun e => by rw [setT_ne (by decide), hv7] at e; cases e), (fun e => ⟨(h.a8 (by rw [setT_ne (by decide)] at e; exact e)).1, (h.a8 (by rw [setT_ne (by decide)] at e; exact e)).2.1, Nat.lt_of_lt_of_le (h.a8 (by rw [setT_ne (by decide)] at e; exact e)).2.2.1 c9.size, (fun e9 => there_keepK ((h.a8 (by rw [setT_ne (by decide)] at e; exact e)).2.2.2.1 (by rw [setT_ne (by decide)] at e9; exact e9)) c9 (h.a8 (by rw [setT_ne (by decide)] at e; exact e)).2.2.1), fun e4 => (h.a8 (by rw [setT_ne (by decide)] at e; exact e)).2.2.2.2 (by rw [setT_ne (by decide)] at e4; exact e4)⟩), (fun e => by rw [setT_ne (by decide), hv9] at e; cases e), (fun e => by rw [setT_ne (by decide), hv10] at e; cases e)⟩)
  ·
   have ho := ready_open hi
   have HLZ : Hid (listed.size = 11) := hI.lz
   have hv3 : listed.getD 3 false = false := noT (fun h => openT ho (hI.tr 3 2 (by rfl) h))
   have hv4 : listed.getD 4 false = false := noT (fun h => openT ho (hI.tr 3 2 (by rfl) (hI.tr 4 3 (by rfl) h)))
   have hv5 : listed.getD 5 false = false := noT (fun h => openT ho (hI.tr 3 2 (by rfl) (hI.tr 4 3 (by rfl) (hI.tr 5 4 (by rfl) h))))
   have hv6 : listed.getD 6 false = false := noT (fun h => openT ho (hI.tr 3 2 (by rfl) (hI.tr 4 3 (by rfl) (hI.tr 5 4 (by rfl) (hI.tr 6 5 (by rfl) h)))))
   have hv7 : listed.getD 7 false = false := noT (fun h => openT ho (hI.tr 3 2 (by rfl) (hI.tr 4 3 (by rfl) (hI.tr 5 4 (by rfl) (hI.tr 7 5 (by rfl) h)))))
   have hv9 : listed.getD 9 false = false := noT (fun h => openT ho (hI.tr 3 2 (by rfl) (hI.tr 4 3 (by rfl) (hI.tr 5 4 (by rfl) (hI.tr 6 5 (by rfl) (hI.tr 9 6 (by rfl) h))))))
   have hv10 : listed.getD 10 false = false := noT (fun h => openT ho (hI.tr 3 2 (by rfl) (hI.tr 4 3 (by rfl) (hI.tr 5 4 (by rfl) (hI.tr 7 5 (by rfl) (hI.tr 10 7 (by rfl) h))))))
   obtain ⟨b1, b2, zs, b5, t1, g1, q1, d1, s1, s2, sv, bb, h⟩ := hI.j
   have e1 : x.tmps[3]?.getD undef = .pointer (some ⟨w.heap.size + 1, 0, none⟩) := ev_tmp (hI.out 3 (by omega))
   have k0 : y.cell? ⟨w.heap.size + 1, 0, none⟩ = some (.int .i64 p.k) := KB.out y h.bl 0
   have k1 : y.cell? ⟨w.heap.size + 1, 1, none⟩ = some (.string p.b) := KB.out y h.bl 1
   have k2 : y.cell? ⟨w.heap.size + 1, 2, none⟩ = some (.int .i64 p.s) := KB.out y h.bl 2
   have k3 : y.cell? ⟨w.heap.size + 1, 3, none⟩ = some (v5) := KB.out y h.bl 3
   have k4 : y.cell? ⟨w.heap.size + 1, 4, none⟩ = some (.string p.h) := KB.out y h.bl 4
   have k5 : y.cell? ⟨w.heap.size + 1, 5, none⟩ = some (.string p.c) := KB.out y h.bl 5
   have k6 : y.cell? ⟨w.heap.size + 1, 6, none⟩ = some (.int .i64 p.t) := KB.out y h.bl 6
   have HH : Hid (JI w20 t gs ps v1 v2 p v5 b1 b2 zs b5 t1 g1 q1 d1 s1 s2 sv bb listed y (fun k => x.tmps.getD k undef)) := h
   have HJ : Hid (Ih _ _ _ _ _ _ _ _) := hI
   have HI : Hid (_ ∈ Region.ready _ _ _) := hi
   clear hi hI ho h
   refine wpOp_plain rfl rfl ?_
   refine wp_cover (fun K hK => ?_)
   go_simp
   have h := HH.out
   exact hK.out _ _ (HJ.out.put HI.out (by omega) (by show (_ ∧ _) ∨ _; omega) (Nat.le_of_ble_eq_true rfl) ⟨b1, b2, zs, b5, t1, g1, q1, d1, s1, s2, sv, bb, (h.bl), (fun e => h.a0 (by rw [setT_ne (by decide)] at e; exact e)), (fun e => ⟨(h.a1 (by rw [setT_ne (by decide)] at e; exact e)).1, (h.a1 (by rw [setT_ne (by decide)] at e; exact e)).2.1, fun e4 => ((h.a1 (by rw [setT_ne (by decide)] at e; exact e)).2.2 (by rw [setT_ne (by decide)] at e4; exact e4))⟩), (fun _ => rfl), (fun e => by rw [setT_ne (by decide), hv3] at e; cases e), (fun e => by rw [setT_ne (by decide), hv4] at e; cases e), (fun e => by rw [setT_ne (by decide), hv5] at e; cases e), (fun e => by rw [setT_ne (by decide), hv6] at e; cases e), (fun e => by rw [setT_ne (by decide), hv7] at e; cases e), (fun e => ⟨(h.a8 (by rw [setT_ne (by decide)] at e; exact e)).1, (h.a8 (by rw [setT_ne (by decide)] at e; exact e)).2.1, (h.a8 (by rw [setT_ne (by decide)] at e; exact e)).2.2.1, (fun e9 => (h.a8 (by rw [setT_ne (by decide)] at e; exact e)).2.2.2.1 (by rw [setT_ne (by decide)] at e9; exact e9)), fun e4 => (h.a8 (by rw [setT_ne (by decide)] at e; exact e)).2.2.2.2 (by rw [setT_ne (by decide)] at e4; exact e4)⟩), (fun e => by rw [setT_ne (by decide), hv9] at e; cases e), (fun e => by rw [setT_ne (by decide), hv10] at e; cases e)⟩)
  ·
   have ho := ready_open hi
   have HLZ : Hid (listed.size = 11) := hI.lz
   have hv4 : listed.getD 4 false = false := noT (fun h => openT ho (hI.tr 4 3 (by rfl) h))
   have hv5 : listed.getD 5 false = false := noT (fun h => openT ho (hI.tr 4 3 (by rfl) (hI.tr 5 4 (by rfl) h)))
   have hv6 : listed.getD 6 false = false := noT (fun h => openT ho (hI.tr 4 3 (by rfl) (hI.tr 5 4 (by rfl) (hI.tr 6 5 (by rfl) h))))
   have hv7 : listed.getD 7 false = false := noT (fun h => openT ho (hI.tr 4 3 (by rfl) (hI.tr 5 4 (by rfl) (hI.tr 7 5 (by rfl) h))))
   have hv9 : listed.getD 9 false = false := noT (fun h => openT ho (hI.tr 4 3 (by rfl) (hI.tr 5 4 (by rfl) (hI.tr 6 5 (by rfl) (hI.tr 9 6 (by rfl) h)))))
   have hv10 : listed.getD 10 false = false := noT (fun h => openT ho (hI.tr 4 3 (by rfl) (hI.tr 5 4 (by rfl) (hI.tr 7 5 (by rfl) (hI.tr 10 7 (by rfl) h)))))
   obtain ⟨b1, b2, zs, b5, t1, g1, q1, d1, s1, s2, sv, bb, h⟩ := hI.j
   have e1 : x.tmps[107]?.getD undef = .agg #[.int .i64 p.k, .string p.b, .int .i64 p.s, v5, .string p.h, .string p.c, .int .i64 p.t] := ev_tmp (h.a2 (waits_of hi (i := 3) (j := 2) (by rfl)))
   have HH : Hid (JI w20 t gs ps v1 v2 p v5 b1 b2 zs b5 t1 g1 q1 d1 s1 s2 sv bb listed y (fun k => x.tmps.getD k undef)) := h
   have HJ : Hid (Ih _ _ _ _ _ _ _ _) := hI
   have HI : Hid (_ ∈ Region.ready _ _ _) := hi
   clear hi hI ho h
   refine wpOp_plain rfl rfl ?_
   refine wp_cover (fun K hK => ?_)
   go_simp
   refine (TPC.out y HH.out.bl).mono ?_
   rintro e y9 ⟨n5, rfl, -, c9⟩
   have h := HH.out
   exact hK.out _ _ (HJ.out.put HI.out (by omega) (by show (_ ∧ _) ∨ _; omega) (Nat.le_of_ble_eq_true rfl) ⟨b1, b2, zs, n5, t1, g1, q1, d1, s1, s2, sv, bb, (bl_trans h.bl c9), (fun e => h.a0 (by rw [setT_ne (by decide)] at e; exact e)), (fun e => ⟨(h.a1 (by rw [setT_ne (by decide)] at e; exact e)).1, (h.a1 (by rw [setT_ne (by decide)] at e; exact e)).2.1, fun e4 => ((h.a1 (by rw [setT_ne (by decide)] at e; exact e)).2.2 (by rw [setT_ne (by decide)] at e4; exact e4)).keep c9⟩), (fun e => h.a2 (by rw [setT_ne (by decide)] at e; exact e)), (fun _ => rfl), (fun e => by rw [setT_ne (by decide), hv4] at e; cases e), (fun e => by rw [setT_ne (by decide), hv5] at e; cases e), (fun e => by rw [setT_ne (by decide), hv6] at e; cases e), (fun e => by rw [setT_ne (by decide), hv7] at e; cases e), (fun e => ⟨(h.a8 (by rw [setT_ne (by decide)] at e; exact e)).1, (h.a8 (by rw [setT_ne (by decide)] at e; exact e)).2.1, Nat.lt_of_lt_of_le (h.a8 (by rw [setT_ne (by decide)] at e; exact e)).2.2.1 c9.size, (fun e9 => there_keepK ((h.a8 (by rw [setT_ne (by decide)] at e; exact e)).2.2.2.1 (by rw [setT_ne (by decide)] at e9; exact e9)) c9 (h.a8 (by rw [setT_ne (by decide)] at e; exact e)).2.2.1), fun e4 => (h.a8 (by rw [setT_ne (by decide)] at e; exact e)).2.2.2.2 (by rw [setT_ne (by decide)] at e4; exact e4)⟩), (fun e => by rw [setT_ne (by decide), hv9] at e; cases e), (fun e => by rw [setT_ne (by decide), hv10] at e; cases e)⟩)
  ·
   have ho := ready_open hi
   have HLZ : Hid (listed.size = 11) := hI.lz
   have hv5 : listed.getD 5 false = false := noT (fun h => openT ho (hI.tr 5 4 (by rfl) h))
   have hv6 : listed.getD 6 false = false := noT (fun h => openT ho (hI.tr 5 4 (by rfl) (hI.tr 6 5 (by rfl) h)))
   have hv7 : listed.getD 7 false = false := noT (fun h => openT ho (hI.tr 5 4 (by rfl) (hI.tr 7 5 (by rfl) h)))
   have hv9 : listed.getD 9 false = false := noT (fun h => openT ho (hI.tr 5 4 (by rfl) (hI.tr 6 5 (by rfl) (hI.tr 9 6 (by rfl) h))))
   have hv10 : listed.getD 10 false = false := noT (fun h => openT ho (hI.tr 5 4 (by rfl) (hI.tr 7 5 (by rfl) (hI.tr 10 7 (by rfl) h))))
   obtain ⟨b1, b2, zs, b5, t1, g1, q1, d1, s1, s2, sv, bb, h⟩ := hI.j
   have h1 := h.a1 (waits_of hi (i := 4) (j := 1) (by rfl))
   have e1 : x.tmps[106]?.getD undef = .agg #[.int .i64 t, .slice (some ⟨b1, 0, none⟩) gs.length gs.length, .slice (some ⟨b2, 0, none⟩) zs.length zs.length] := ev_tmp (h1.1)
   have e2 : x.tmps[108]?.getD undef = .agg #[.int .i64 p.k, .string p.b, .int .i64 p.s, .slice (some ⟨b5, 0, none⟩) p.ws.length p.ws.length, .string p.h, .string p.c, .int .i64 p.t] := ev_tmp (h.a3 (waits_of hi (i := 4) (j := 3) (by rfl)))
   have h4n : listed.getD 4 false = false := noT (fun h => openT ho h)
   have HL1 : Hid (P.Like zs ps ∧ P.LandAt y gs zs b1 b2) := ⟨h1.2.1, h1.2.2 h4n⟩
   have HIS : Hid (y.heap.size = y.heap.size) := rfl
   clear h1
   have HH : Hid (JI w20 t gs ps v1 v2 p v5 b1 b2 zs b5 t1 g1 q1 d1 s1 s2 sv bb listed y (fun k => x.tmps.getD k undef)) := h
   have HJ : Hid (Ih _ _ _ _ _ _ _ _) := hI
   have HI : Hid (_ ∈ Region.ready _ _ _) := hi
   clear hi hI ho h
   refine wpOp_plain rfl rfl ?_
   refine wp_cover (fun K hK => ?_)
   go_simp
   refine (CI.out y b1 b2 zs b5 HH.out.bl HL1.out.1 HL1.out.2).mono ?_
   rintro e y9 ⟨⟨m1, m2, m3, m4, m5, m6, m7, rfl, hS, hT⟩, c9⟩
   have h := HH.out
   exact hK.out _ _ (HJ.out.put HI.out (by omega) (by show (_ ∧ _) ∨ _; omega) (Nat.le_of_ble_eq_true rfl) ⟨b1, b2, zs, b5, m1, m2, m3, m4, m5, m6, m7, bb, (bl_trans h.bl c9), (fun e => h.a0 (by rw [setT_ne (by decide)] at e; exact e)), (fun e => ⟨(h.a1 (by rw [setT_ne (by decide)] at e; exact e)).1, (h.a1 (by rw [setT_ne (by decide)] at e; exact e)).2.1, fun e4 => by rw [setT_same (by rw [HLZ.out]; omega)] at e4; cases e4⟩), (fun e => h.a2 (by rw [setT_ne (by decide)] at e; exact e)), (fun e => h.a3 (by rw [setT_ne (by decide)] at e; exact e)), (fun _ => ⟨rfl, ⟨HL1.out.1, hS⟩, hT.low h.bl.size⟩), (fun e => by rw [setT_ne (by decide), hv5] at e; cases e), (fun e => by rw [setT_ne (by decide), hv6] at e; cases e), (fun e => by rw [setT_ne (by decide), hv7] at e; cases e), (fun e => ⟨(h.a8 (by rw [setT_ne (by decide)] at e; exact e)).1, (h.a8 (by rw [setT_ne (by decide)] at e; exact e)).2.1, Nat.lt_of_lt_of_le (h.a8 (by rw [setT_ne (by decide)] at e; exact e)).2.2.1 c9.size, (fun e9 => there_keepK ((h.a8 (by rw [setT_ne (by decide)] at e; exact e)).2.2.2.1 (by rw [setT_ne (by decide)] at e9; exact e9)) c9 (h.a8 (by rw [setT_ne (by decide)] at e; exact e)).2.2.1), fun _ hg => by have h1 := (hT.lt bb hg).1; have h2 := (h.a8 (by rw [setT_ne (by decide)] at e; exact e)).2.2.1; omega⟩), (fun e => by rw [setT_ne (by decide), hv9] at e; cases e), (fun e => by rw [setT_ne (by decide), hv10] at e; cases e)⟩)
  ·
   have ho := ready_open hi
   have HLZ : Hid (listed.size = 11) := hI.lz
   have hv6 : listed.getD 6 false = false := noT (fun h => openT ho (hI.tr 6 5 (by rfl) h))
   have hv7 : listed.getD 7 false = false := noT (fun h => openT ho (hI.tr 7 5 (by rfl) h))
   have hv9 : listed.getD 9 false = false := noT (fun h => openT ho (hI.tr 6 5 (by rfl) (hI.tr 9 6 (by rfl) h)))
   have hv10 : listed.getD 10 false = false := noT (fun h => openT ho (hI.tr 7 5 (by rfl) (hI.tr 10 7 (by rfl) h)))
   obtain ⟨b1, b2, zs, b5, t1, g1, q1, d1, s1, s2, sv, bb, h⟩ := hI.j
   have e1 : x.tmps[109]?.getD undef = .tuple #[.agg #[.int .i64 t1, s1, s2], sv] := ev_tmp ((h.a4 (waits_of hi (i := 5) (j := 4) (by rfl))).1)
   have HH : Hid (JI w20 t gs ps v1 v2 p v5 b1 b2 zs b5 t1 g1 q1 d1 s1 s2 sv bb listed y (fun k => x.tmps.getD k undef)) := h
   have HJ : Hid (Ih _ _ _ _ _ _ _ _) := hI
   have HI : Hid (_ ∈ Region.ready _ _ _) := hi
   clear hi hI ho h
   refine wpOp_plain rfl rfl ?_
   refine wp_cover (fun K hK => ?_)
   go_simp
   have h := HH.out
   exact hK.out _ _ (HJ.out.put HI.out (by omega) (by show (_ ∧ _) ∨ _; omega) (Nat.le_of_ble_eq_true rfl) ⟨b1, b2, zs, b5, t1, g1, q1, d1, s1, s2, sv, bb, (h.bl), (fun e => h.a0 (by rw [setT_ne (by decide)] at e; exact e)), (fun e => ⟨(h.a1 (by rw [setT_ne (by decide)] at e; exact e)).1, (h.a1 (by rw [setT_ne (by decide)] at e; exact e)).2.1, fun e4 => ((h.a1 (by rw [setT_ne (by decide)] at e; exact e)).2.2 (by rw [setT_ne (by decide)] at e4; exact e4))⟩), (fun e => h.a2 (by rw [setT_ne (by decide)] at e; exact e)), (fun e => h.a3 (by rw [setT_ne (by decide)] at e; exact e)), (fun e => h.a4 (by rw [setT_ne (by decide)] at e; exact e)), (fun _ => rfl), (fun e => by rw [setT_ne (by decide), hv6] at e; cases e), (fun e => by rw [setT_ne (by decide), hv7] at e; cases e), (fun e => ⟨(h.a8 (by rw [setT_ne (by decide)] at e; exact e)).1, (h.a8 (by rw [setT_ne (by decide)] at e; exact e)).2.1, (h.a8 (by rw [setT_ne (by decide)] at e; exact e)).2.2.1, (fun e9 => (h.a8 (by rw [setT_ne (by decide)] at e; exact e)).2.2.2.1 (by rw [setT_ne (by decide)] at e9; exact e9)), fun e4 => (h.a8 (by rw [setT_ne (by decide)] at e; exact e)).2.2.2.2 (by rw [setT_ne (by decide)] at e4; exact e4)⟩), (fun e => by rw [setT_ne (by decide), hv9] at e; cases e), (fun e => by rw [setT_ne (by decide), hv10] at e; cases e)⟩)
  ·
   have ho := ready_open hi
   have HLZ : Hid (listed.size = 11) := hI.lz
   have hv9 : listed.getD 9 false = false := noT (fun h => openT ho (hI.tr 9 6 (by rfl) h))
   obtain ⟨b1, b2, zs, b5, t1, g1, q1, d1, s1, s2, sv, bb, h⟩ := hI.j
   have e1 : x.tmps[104]?.getD undef = .tuple #[.agg #[.int .i64 t1, s1, s2], sv] := ev_tmp (h.a5 (waits_of hi (i := 6) (j := 5) (by rfl)))
   have HH : Hid (JI w20 t gs ps v1 v2 p v5 b1 b2 zs b5 t1 g1 q1 d1 s1 s2 sv bb listed y (fun k => x.tmps.getD k undef)) := h
   have HJ : Hid (Ih _ _ _ _ _ _ _ _) := hI
   have HI : Hid (_ ∈ Region.ready _ _ _) := hi
   clear hi hI ho h
   refine wpOp_plain rfl rfl ?_
   refine wp_cover (fun K hK => ?_)
   go_simp
   have h := HH.out
   exact hK.out _ _ (HJ.out.put HI.out (by omega) (by show (_ ∧ _) ∨ _; omega) (Nat.le_of_ble_eq_true rfl) ⟨b1, b2, zs, b5, t1, g1, q1, d1, s1, s2, sv, bb, (h.bl), (fun e => h.a0 (by rw [setT_ne (by decide)] at e; exact e)), (fun e => ⟨(h.a1 (by rw [setT_ne (by decide)] at e; exact e)).1, (h.a1 (by rw [setT_ne (by decide)] at e; exact e)).2.1, fun e4 => ((h.a1 (by rw [setT_ne (by decide)] at e; exact e)).2.2 (by rw [setT_ne (by decide)] at e4; exact e4))⟩), (fun e => h.a2 (by rw [setT_ne (by decide)] at e; exact e)), (fun e => h.a3 (by rw [setT_ne (by decide)] at e; exact e)), (fun e => h.a4 (by rw [setT_ne (by decide)] at e; exact e)), (fun e => h.a5 (by rw [setT_ne (by decide)] at e; exact e)), (fun _ => rfl), (fun e => h.a7 (by rw [setT_ne (by decide)] at e; exact e)), (fun e => ⟨(h.a8 (by rw [setT_ne (by decide)] at e; exact e)).1, (h.a8 (by rw [setT_ne (by decide)] at e; exact e)).2.1, (h.a8 (by rw [setT_ne (by decide)] at e; exact e)).2.2.1, (fun e9 => (h.a8 (by rw [setT_ne (by decide)] at e; exact e)).2.2.2.1 (by rw [setT_ne (by decide)] at e9; exact e9)), fun e4 => (h.a8 (by rw [setT_ne (by decide)] at e; exact e)).2.2.2.2 (by rw [setT_ne (by decide)] at e4; exact e4)⟩), (fun e => by rw [setT_ne (by decide), hv9] at e; cases e), (fun e => h.a10 (by rw [setT_ne (by decide)] at e; exact e))⟩)
  ·
   have ho := ready_open hi
   have HLZ : Hid (listed.size = 11) := hI.lz
   have hv10 : listed.getD 10 false = false := noT (fun h => openT ho (hI.tr 10 7 (by rfl) h))
   obtain ⟨b1, b2, zs, b5, t1, g1, q1, d1, s1, s2, sv, bb, h⟩ := hI.j
   have e1 : x.tmps[104]?.getD undef = .tuple #[.agg #[.int .i64 t1, s1, s2], sv] := ev_tmp (h.a5 (waits_of hi (i := 7) (j := 5) (by rfl)))
   have HH : Hid (JI w20 t gs ps v1 v2 p v5 b1 b2 zs b5 t1 g1 q1 d1 s1 s2 sv bb listed y (fun k => x.tmps.getD k undef)) := h
   have HJ : Hid (Ih _ _ _ _ _ _ _ _) := hI
   have HI : Hid (_ ∈ Region.ready _ _ _) := hi
   clear hi hI ho h
   refine wpOp_plain rfl rfl ?_
   refine wp_cover (fun K hK => ?_)
   go_simp
   have h := HH.out
   exact hK.out _ _ (HJ.out.put HI.out (by omega) (by show (_ ∧ _) ∨ _; omega) (Nat.le_of_ble_eq_true rfl) ⟨b1, b2, zs, b5, t1, g1, q1, d1, s1, s2, sv, bb, (h.bl), (fun e => h.a0 (by rw [setT_ne (by decide)] at e; exact e)), (fun e => ⟨(h.a1 (by rw [setT_ne (by decide)] at e; exact e)).1, (h.a1 (by rw [setT_ne (by decide)] at e; exact e)).2.1, fun e4 => ((h.a1 (by rw [setT_ne (by decide)] at e; exact e)).2.2 (by rw [setT_ne (by decide)] at e4; exact e4))⟩), (fun e => h.a2 (by rw [setT_ne (by decide)] at e; exact e)), (fun e => h.a3 (by rw [setT_ne (by decide)] at e; exact e)), (fun e => h.a4 (by rw [setT_ne (by decide)] at e; exact e)), (fun e => h.a5 (by rw [setT_ne (by decide)] at e; exact e)), (fun e => h.a6 (by rw [setT_ne (by decide)] at e; exact e)), (fun _ => rfl), (fun e => ⟨(h.a8 (by rw [setT_ne (by decide)] at e; exact e)).1, (h.a8 (by rw [setT_ne (by decide)] at e; exact e)).2.1, (h.a8 (by rw [setT_ne (by decide)] at e; exact e)).2.2.1, (fun e9 => (h.a8 (by rw [setT_ne (by decide)] at e; exact e)).2.2.2.1 (by rw [setT_ne (by decide)] at e9; exact e9)), fun e4 => (h.a8 (by rw [setT_ne (by decide)] at e; exact e)).2.2.2.2 (by rw [setT_ne (by decide)] at e4; exact e4)⟩), (fun e => h.a9 (by rw [setT_ne (by decide)] at e; exact e)), (fun e => by rw [setT_ne (by decide), hv10] at e; cases e)⟩)
  ·
   have ho := ready_open hi
   have HLZ : Hid (listed.size = 11) := hI.lz
   have hv9 : listed.getD 9 false = false := noT (fun h => openT ho (hI.tr 9 8 (by rfl) h))
   obtain ⟨b1, b2, zs, b5, t1, g1, q1, d1, s1, s2, sv, bb, h⟩ := hI.j
   have HH : Hid (JI w20 t gs ps v1 v2 p v5 b1 b2 zs b5 t1 g1 q1 d1 s1 s2 sv bb listed y (fun k => x.tmps.getD k undef)) := h
   have HJ : Hid (Ih _ _ _ _ _ _ _ _) := hI
   have HI : Hid (_ ∈ Region.ready _ _ _) := hi
   clear hi hI ho h
   refine wpOp_plain rfl rfl ?_
   refine wp_cover (fun K hK => ?_)
   go_simp
   have hbl : Below y.heap.size y (y.alloc (.cells #[.int .i64 0, .slice none 0 0, .slice none 0 0] 34)) := bl_alloc (Below.refl _ _) _
   have h := HH.out
   exact hK.out _ _ (HJ.out.put HI.out (by omega) (by show (_ ∧ _) ∨ _; omega) (Nat.le_of_ble_eq_true rfl) ⟨b1, b2, zs, b5, t1, g1, q1, d1, s1, s2, sv, y.heap.size, (bl_trans h.bl hbl), (fun e => h.a0 (by rw [setT_ne (by decide)] at e; exact e)), (fun e => ⟨(h.a1 (by rw [setT_ne (by decide)] at e; exact e)).1, (h.a1 (by rw [setT_ne (by decide)] at e; exact e)).2.1, fun e4 => ((h.a1 (by rw [setT_ne (by decide)] at e; exact e)).2.2 (by rw [setT_ne (by decide)] at e4; exact e4)).keep hbl⟩), (fun e => h.a2 (by rw [setT_ne (by decide)] at e; exact e)), (fun e => h.a3 (by rw [setT_ne (by decide)] at e; exact e)), (fun e => ⟨(h.a4 (by rw [setT_ne (by decide)] at e; exact e)).1, (h.a4 (by rw [setT_ne (by decide)] at e; exact e)).2.1, (h.a4 (by rw [setT_ne (by decide)] at e; exact e)).2.2.keep hbl⟩), (fun e => h.a5 (by rw [setT_ne (by decide)] at e; exact e)), (fun e => h.a6 (by rw [setT_ne (by decide)] at e; exact e)), (fun e => h.a7 (by rw [setT_ne (by decide)] at e; exact e)), (fun _ => ⟨rfl, h.bl.size, by simp, (fun _ => there_newG y _ _ (by rfl)), fun e4 hg => by have h1 := ((h.a4 (by rw [setT_ne (by decide)] at e4; exact e4)).2.2.lt y.heap.size hg).2; omega⟩), (fun e => by rw [setT_ne (by decide), hv9] at e; cases e), (fun e => h.a10 (by rw [setT_ne (by decide)] at e; exact e))⟩)
  ·
   have ho := ready_open hi
   have HLZ : Hid (listed.size = 11) := hI.lz
   obtain ⟨b1, b2, zs, b5, t1, g1, q1, d1, s1, s2, sv, bb, h⟩ := hI.j
   have h8y := waits_of hi (i := 9) (j := 8) (by rfl)
   have h6y := waits_of hi (i := 9) (j := 6) (by rfl)
   have h5y := hI.tr 6 5 (by rfl) h6y
   have h4y := hI.tr 5 4 (by rfl) h5y
   have h9n : listed.getD 9 false = false := noT (fun h => openT ho h)
   have h8 := h.a8 h8y
   have hth := h8.2.2.2.1 h9n
   have hnb := h8.2.2.2.2 h4y
   have ev6 := h.a6 h6y
   obtain ⟨y1, y2, y3, y4, hy1, hy2⟩ := tko_slices (h.a4 h4y).2.2
   have HH : Hid (JI w20 t gs ps v1 v2 p v5 b1 b2 zs b5 t1 g1 q1 d1 s1 s2 sv bb listed y (fun k => x.tmps.getD k undef)) := h
   have HJ : Hid (Ih _ _ _ _ _ _ _ _) := hI
   have HI : Hid (_ ∈ Region.ready _ _ _) := hi
   clear hi hI ho h
   refine wpOp_plain rfl rfl ?_
   refine wp_cover (fun K hK => ?_)
   refine wp_store_mid 34 _ _ rfl bb 0 #[.int .i64 t1, s1, s2] h8.1 ev6 hth hinfo (by rw [hy1, hy2]; simp [Value.oneCell']) ?_
   have h := HH.out
   have hx : Ex bb y (y.setCells bb 0 [.int .i64 t1, s1, s2]) := (Ex.refl _ _).cells _ _
   have hrg : (y.setCells bb 0 [.int .i64 t1, s1, s2]).rangeAt bb 0 [.int .i64 t1, s1, s2] := World.rangeAt_setCells_same y bb 0 _ hth
   exact hK.out _ _ (HJ.out.nil HI.out (by omega) undef ⟨b1, b2, zs, b5, t1, g1, q1, d1, s1, s2, sv, bb, (Ex.mono h.bl hx h8.2.1), (fun e => h.a0 (by rw [setT_ne (by decide)] at e; exact e)), (fun e => ⟨(h.a1 (by rw [setT_ne (by decide)] at e; exact e)).1, (h.a1 (by rw [setT_ne (by decide)] at e; exact e)).2.1, fun e4 => by rw [setT_ne (by decide), h4y] at e4; cases e4⟩), (fun e => h.a2 (by rw [setT_ne (by decide)] at e; exact e)), (fun e => h.a3 (by rw [setT_ne (by decide)] at e; exact e)), (fun e => ⟨(h.a4 (by rw [setT_ne (by decide)] at e; exact e)).1, (h.a4 (by rw [setT_ne (by decide)] at e; exact e)).2.1, (h.a4 (by rw [setT_ne (by decide)] at e; exact e)).2.2.off (off_of_ex hx) (fun g hg e9 => by subst e9; exact hnb hg)⟩), (fun e => h.a5 (by rw [setT_ne (by decide)] at e; exact e)), (fun e => h.a6 (by rw [setT_ne (by decide)] at e; exact e)), (fun e => h.a7 (by rw [setT_ne (by decide)] at e; exact e)), (fun e => ⟨(h.a8 (by rw [setT_ne (by decide)] at e; exact e)).1, (h.a8 (by rw [setT_ne (by decide)] at e; exact e)).2.1, Nat.lt_of_lt_of_le (h.a8 (by rw [setT_ne (by decide)] at e; exact e)).2.2.1 hx.size, (fun e9 => by rw [setT_same (by rw [HLZ.out]; omega)] at e9; cases e9), fun e4 => (h.a8 (by rw [setT_ne (by decide)] at e; exact e)).2.2.2.2 (by rw [setT_ne (by decide)] at e4; exact e4)⟩), (fun _ => hrg), (fun e => h.a10 (by rw [setT_ne (by decide)] at e; exact e))⟩)
  ·
   have ho := ready_open hi
   have HLZ : Hid (listed.size = 11) := hI.lz
   obtain ⟨b1, b2, zs, b5, t1, g1, q1, d1, s1, s2, sv, bb, h⟩ := hI.j
   have e1 : x.tmps[111]?.getD undef = sv := ev_tmp (h.a7 (waits_of hi (i := 10) (j := 7) (by rfl)))
   have HH : Hid (JI w20 t gs ps v1 v2 p v5 b1 b2 zs b5 t1 g1 q1 d1 s1 s2 sv bb listed y (fun k => x.tmps.getD k undef)) := h
   have HJ : Hid (Ih _ _ _ _ _ _ _ _) := hI
   have HI : Hid (_ ∈ Region.ready _ _ _) := hi
   clear hi hI ho h
   refine wpOp_plain rfl rfl ?_
   refine wp_cover (fun K hK => ?_)
   go_simp
   have h := HH.out
   exact hK.out _ _ (HJ.out.put HI.out (by omega) (by show (_ ∧ _) ∨ _; omega) (Nat.le_of_ble_eq_true rfl) ⟨b1, b2, zs, b5, t1, g1, q1, d1, s1, s2, sv, bb, (h.bl), (fun e => h.a0 (by rw [setT_ne (by decide)] at e; exact e)), (fun e => ⟨(h.a1 (by rw [setT_ne (by decide)] at e; exact e)).1, (h.a1 (by rw [setT_ne (by decide)] at e; exact e)).2.1, fun e4 => ((h.a1 (by rw [setT_ne (by decide)] at e; exact e)).2.2 (by rw [setT_ne (by decide)] at e4; exact e4))⟩), (fun e => h.a2 (by rw [setT_ne (by decide)] at e; exact e)), (fun e => h.a3 (by rw [setT_ne (by decide)] at e; exact e)), (fun e => h.a4 (by rw [setT_ne (by decide)] at e; exact e)), (fun e => h.a5 (by rw [setT_ne (by decide)] at e; exact e)), (fun e => h.a6 (by rw [setT_ne (by decide)] at e; exact e)), (fun e => h.a7 (by rw [setT_ne (by decide)] at e; exact e)), (fun e => ⟨(h.a8 (by rw [setT_ne (by decide)] at e; exact e)).1, (h.a8 (by rw [setT_ne (by decide)] at e; exact e)).2.1, (h.a8 (by rw [setT_ne (by decide)] at e; exact e)).2.2.1, (fun e9 => (h.a8 (by rw [setT_ne (by decide)] at e; exact e)).2.2.2.1 (by rw [setT_ne (by decide)] at e9; exact e9)), fun e4 => (h.a8 (by rw [setT_ne (by decide)] at e; exact e)).2.2.2.2 (by rw [setT_ne (by decide)] at e4; exact e4)⟩), (fun e => h.a9 (by rw [setT_ne (by decide)] at e; exact e)), (fun _ => rfl)⟩)
 intro LL aa y hL hdf hsz hout hJ
 obtain ⟨n1, n2, nz, n5, t3, g3, q3, d3, r1, r2, rv, ub, hJ⟩ := hJ
 have h6 := (hJ.a8 (hL 8 (by omega)))
 have h7 := hJ.a10 (hL 10 (by omega))
 obtain ⟨-, ⟨hz9, hS9⟩, hT9⟩ := hJ.a4 (hL 4 (by omega))
 have hR9 := hJ.a9 (hL 9 (by omega))
 have cc := hJ.bl
 obtain ⟨hp6, hp6a, hp6b, -, hp6c⟩ := h6
 have hnb9 := hp6c (hL 4 (by omega))
 clear hp6c hJ hL
 obtain ⟨l', hl', ha⟩ := frameP_of (lo := 15) (n := 97) hdf hsz (fun j hj => hout j (by omega)) (Nat.le_of_ble_eq_true rfl)
 subst ha
 obtain ⟨z0, zl0, rfl, zh0⟩ := lenP_succ hl'
 obtain ⟨z1, zl1, rfl, zh1⟩ := lenP_succ zh0
 obtain ⟨z2, zl2, rfl, zh2⟩ := lenP_succ zh1
 obtain ⟨z3, zl3, rfl, zh3⟩ := lenP_succ zh2
 obtain ⟨z4, zl4, rfl, zh4⟩ := lenP_succ zh3
 obtain ⟨z5, zl5, rfl, zh5⟩ := lenP_succ zh4
 obtain ⟨z6, zl6, rfl, zh6⟩ := lenP_succ zh5
 obtain ⟨z7, zl7, rfl, zh7⟩ := lenP_succ zh6
 obtain ⟨z8, zl8, rfl, zh8⟩ := lenP_succ zh7
 obtain ⟨z9, zl9, rfl, zh9⟩ := lenP_succ zh8
 obtain ⟨z10, zl10, rfl, zh10⟩ := lenP_succ zh9
 obtain ⟨z11, zl11, rfl, zh11⟩ := lenP_succ zh10
 obtain ⟨z12, zl12, rfl, zh12⟩ := lenP_succ zh11
 obtain ⟨z13, zl13, rfl, zh13⟩ := lenP_succ zh12
 obtain ⟨z14, zl14, rfl, zh14⟩ := lenP_succ zh13
 obtain ⟨z15, zl15, rfl, zh15⟩ := lenP_succ zh14
 obtain ⟨z16, zl16, rfl, zh16⟩ := lenP_succ zh15
 obtain ⟨z17, zl17, rfl, zh17⟩ := lenP_succ zh16
 obtain ⟨z18, zl18, rfl, zh18⟩ := lenP_succ zh17
 obtain ⟨z19, zl19, rfl, zh19⟩ := lenP_succ zh18
 obtain ⟨z20, zl20, rfl, zh20⟩ := lenP_succ zh19
 obtain ⟨z21, zl21, rfl, zh21⟩ := lenP_succ zh20
 obtain ⟨z22, zl22, rfl, zh22⟩ := lenP_succ zh21
 obtain ⟨z23, zl23, rfl, zh23⟩ := lenP_succ zh22
 obtain ⟨z24, zl24, rfl, zh24⟩ := lenP_succ zh23
 obtain ⟨z25, zl25, rfl, zh25⟩ := lenP_succ zh24
 obtain ⟨z26, zl26, rfl, zh26⟩ := lenP_succ zh25
 obtain ⟨z27, zl27, rfl, zh27⟩ := lenP_succ zh26
 obtain ⟨z28, zl28, rfl, zh28⟩ := lenP_succ zh27
 obtain ⟨z29, zl29, rfl, zh29⟩ := lenP_succ zh28
 obtain ⟨z30, zl30, rfl, zh30⟩ := lenP_succ zh29
 obtain ⟨z31, zl31, rfl, zh31⟩ := lenP_succ zh30
 obtain ⟨z32, zl32, rfl, zh32⟩ := lenP_succ zh31
 obtain ⟨z33, zl33, rfl, zh33⟩ := lenP_succ zh32
 obtain ⟨z34, zl34, rfl, zh34⟩ := lenP_succ zh33
 obtain ⟨z35, zl35, rfl, zh35⟩ := lenP_succ zh34
 obtain ⟨z36, zl36, rfl, zh36⟩ := lenP_succ zh35
 obtain ⟨z37, zl37, rfl, zh37⟩ := lenP_succ zh36
 obtain ⟨z38, zl38, rfl, zh38⟩ := lenP_succ zh37
 obtain ⟨z39, zl39, rfl, zh39⟩ := lenP_succ zh38
 obtain ⟨z40, zl40, rfl, zh40⟩ := lenP_succ zh39
 obtain ⟨z41, zl41, rfl, zh41⟩ := lenP_succ zh40
 obtain ⟨z42, zl42, rfl, zh42⟩ := lenP_succ zh41
 obtain ⟨z43, zl43, rfl, zh43⟩ := lenP_succ zh42
 obtain ⟨z44, zl44, rfl, zh44⟩ := lenP_succ zh43
 obtain ⟨z45, zl45, rfl, zh45⟩ := lenP_succ zh44
 obtain ⟨z46, zl46, rfl, zh46⟩ := lenP_succ zh45
 obtain ⟨z47, zl47, rfl, zh47⟩ := lenP_succ zh46
 obtain ⟨z48, zl48, rfl, zh48⟩ := lenP_succ zh47
 obtain ⟨z49, zl49, rfl, zh49⟩ := lenP_succ zh48
 obtain ⟨z50, zl50, rfl, zh50⟩ := lenP_succ zh49
 obtain ⟨z51, zl51, rfl, zh51⟩ := lenP_succ zh50
 obtain ⟨z52, zl52, rfl, zh52⟩ := lenP_succ zh51
 obtain ⟨z53, zl53, rfl, zh53⟩ := lenP_succ zh52
 obtain ⟨z54, zl54, rfl, zh54⟩ := lenP_succ zh53
 obtain ⟨z55, zl55, rfl, zh55⟩ := lenP_succ zh54
 obtain ⟨z56, zl56, rfl, zh56⟩ := lenP_succ zh55
 obtain ⟨z57, zl57, rfl, zh57⟩ := lenP_succ zh56
 obtain ⟨z58, zl58, rfl, zh58⟩ := lenP_succ zh57
 obtain ⟨z59, zl59, rfl, zh59⟩ := lenP_succ zh58
 obtain ⟨z60, zl60, rfl, zh60⟩ := lenP_succ zh59
 obtain ⟨z61, zl61, rfl, zh61⟩ := lenP_succ zh60
 obtain ⟨z62, zl62, rfl, zh62⟩ := lenP_succ zh61
 obtain ⟨z63, zl63, rfl, zh63⟩ := lenP_succ zh62
 obtain ⟨z64, zl64, rfl, zh64⟩ := lenP_succ zh63
 obtain ⟨z65, zl65, rfl, zh65⟩ := lenP_succ zh64
 obtain ⟨z66, zl66, rfl, zh66⟩ := lenP_succ zh65
 obtain ⟨z67, zl67, rfl, zh67⟩ := lenP_succ zh66
 obtain ⟨z68, zl68, rfl, zh68⟩ := lenP_succ zh67
 obtain ⟨z69, zl69, rfl, zh69⟩ := lenP_succ zh68
 obtain ⟨z70, zl70, rfl, zh70⟩ := lenP_succ zh69
 obtain ⟨z71, zl71, rfl, zh71⟩ := lenP_succ zh70
 obtain ⟨z72, zl72, rfl, zh72⟩ := lenP_succ zh71
 obtain ⟨z73, zl73, rfl, zh73⟩ := lenP_succ zh72
 obtain ⟨z74, zl74, rfl, zh74⟩ := lenP_succ zh73
 obtain ⟨z75, zl75, rfl, zh75⟩ := lenP_succ zh74
 obtain ⟨z76, zl76, rfl, zh76⟩ := lenP_succ zh75
 obtain ⟨z77, zl77, rfl, zh77⟩ := lenP_succ zh76
 obtain ⟨z78, zl78, rfl, zh78⟩ := lenP_succ zh77
 obtain ⟨z79, zl79, rfl, zh79⟩ := lenP_succ zh78
 obtain ⟨z80, zl80, rfl, zh80⟩ := lenP_succ zh79
 obtain ⟨z81, zl81, rfl, zh81⟩ := lenP_succ zh80
 obtain ⟨z82, zl82, rfl, zh82⟩ := lenP_succ zh81
 obtain ⟨z83, zl83, rfl, zh83⟩ := lenP_succ zh82
 obtain ⟨z84, zl84, rfl, zh84⟩ := lenP_succ zh83
 obtain ⟨z85, zl85, rfl, zh85⟩ := lenP_succ zh84
 obtain ⟨z86, zl86, rfl, zh86⟩ := lenP_succ zh85
 obtain ⟨z87, zl87, rfl, zh87⟩ := lenP_succ zh86
 obtain ⟨z88, zl88, rfl, zh88⟩ := lenP_succ zh87
 obtain ⟨z89, zl89, rfl, zh89⟩ := lenP_succ zh88
 obtain ⟨z90, zl90, rfl, zh90⟩ := lenP_succ zh89
 obtain ⟨z91, zl91, rfl, zh91⟩ := lenP_succ zh90
 obtain ⟨z92, zl92, rfl, zh92⟩ := lenP_succ zh91
 obtain ⟨z93, zl93, rfl, zh93⟩ := lenP_succ zh92
 obtain ⟨z94, zl94, rfl, zh94⟩ := lenP_succ zh93
 obtain ⟨z95, zl95, rfl, zh95⟩ := lenP_succ zh94
 obtain ⟨z96, zl96, rfl, zh96⟩ := lenP_succ zh95
 obtain rfl := lenP_zero zh96
 have hp6' : z0 = _ := hp6
 have h7' : z1 = _ := h7
 subst hp6' h7'
 clear hp6 h7 hdf hsz hout KA KB TO TPC CI
 simp only [List.take_succ_cons, List.take_zero, List.drop_succ_cons, List.drop_zero, List.cons_append, List.nil_append, Nat.reduceAdd]
 obtain ⟨et, eg, hlq, hld⟩ := takeL_one (HZS.out.trans hz9.symm) HS1.out hS9
 subst et eg
 obtain ⟨j1, k1, rfl⟩ := G.Sl.shape hT9.l.g
 obtain ⟨j2, k2, hs2⟩ := Pr.Sl.shape hT9.l.p.o
 rw [List.length_map] at hs2
 subst hs2
 obtain ⟨j3, k3, hs3⟩ := Pc.Sl.shape hT9.c.o
 rw [List.length_map] at hs3
 subst hs3
 obtain ⟨w21, hw21⟩ : ∃ w21 : World, w21 = y := ⟨_, rfl⟩
 subst hw21
 have BD3 : Hid (SmallT g1 q3 d3) := hS9.small
 have LQ3 : Hid (P.Like q3 q1) := hlq.symm
 have LD3 : Hid (Pc.Like d3 d1) := hld.symm
 have C22 : Hid (Below w.heap.size w w21) := bl_trans C21.out cc
 have A22 : Hid (Bo w21 w.heap.size #[.int .i64 t, v1, v2]) := (A21.out).keep cc
 have E22 : Hid (Bo w21 (w.heap.size + 1) #[.int .i64 p.k, .string p.b, .int .i64 p.s, v5, .string p.h, .string p.c, .int .i64 p.t]) := (E21.out).keep cc
 have V22 : Hid (TkO w21 w2.heap.size g1 q1 d1 (.slice a1 g1.length p1) (.slice a2 q1.length p2) (.slice a3 d1.length p3)) := (V21.out).keep cc
 have W22 : Hid (Bt w21 bb [.int .i64 t1, .slice a1 g1.length p1, .slice a2 q1.length p2]) := (W21.out).keep cc
 have D22 : Hid (Bo w21 w8.heap.size #[.int .i64 t1, .slice c1 g1.length o1, .slice c2 q2.length o2]) := (D21.out).keep cc
 have M22 : Hid (LdO w21 Y7.heap.size (markGs 1 g1) (markPs (endG 1 g1) q2) (.slice c1 g1.length o1) (.slice c2 q2.length o2)) := (M21.out).keep cc
 have R22 : Hid (PcO w21 Y7.heap.size (markL stPc mkPc m1 d2 d2.length) (.slice c3 d2.length o3)) := (R21.out).keep cc
 clear cc
 clear C21 A21 E21 V21 W21 D21 M21 R21
 have H9 : Hid (TkO w21 w20.heap.size g1 q3 d3 (.slice j1 g1.length k1) (.slice j2 q3.length k2) (.slice j3 d3.length k3)) := hT9
 have ku0 : w21.cell? ⟨ub, 0, none⟩ = some (.int .i64 t1) := hR9 0 _ rfl
 have ku1 : w21.cell? ⟨ub, 1, none⟩ = some (.slice j1 g1.length k1) := hR9 1 _ rfl
 have ku2 : w21.cell? ⟨ub, 2, none⟩ = some (.slice j2 q3.length k2) := hR9 2 _ rfl
 have kw0 : w21.cell? ⟨bb, 0, none⟩ = some (.int .i64 t1) := W22.out.r 0 _ rfl
 have kw1 : w21.cell? ⟨bb, 1, none⟩ = some (.slice a1 g1.length p1) := W22.out.r 1 _ rfl
 have kw2 : w21.cell? ⟨bb, 2, none⟩ = some (.slice a2 q1.length p2) := W22.out.r 2 _ rfl
 clear hS9 hz9 hT9 hR9 hp6a hp6b hnb9 hlq hld
 go_wp2_with fail
 clear kw0 kw1 kw2 ku0 ku1 ku2
 refine (eqLand_o t1 g1 _ q1 _ _ _ _ _ _ w21 H9.out.l V22.out.l LQ3.out BD3.out.a BD3.out.b BD3.out.c).mono ?_
 rintro e w22 ⟨rfl, c⟩
 have H10 : Hid (TkO w22 w20.heap.size g1 q3 d3 (.slice j1 g1.length k1) (.slice j2 q3.length k2) (.slice j3 d3.length k3)) := H9.out.keep c
 have C23 : Hid (Below w.heap.size w w22) := bl_trans C22.out c
 have A23 : Hid (Bo w22 w.heap.size #[.int .i64 t, v1, v2]) := (A22.out).keep c
 have E23 : Hid (Bo w22 (w.heap.size + 1) #[.int .i64 p.k, .string p.b, .int .i64 p.s, v5, .string p.h, .string p.c, .int .i64 p.t]) := (E22.out).keep c
 have V23 : Hid (TkO w22 w2.heap.size g1 q1 d1 (.slice a1 g1.length p1) (.slice a2 q1.length p2) (.slice a3 d1.length p3)) := (V22.out).keep c
 have W23 : Hid (Bt w22 bb [.int .i64 t1, .slice a1 g1.length p1, .slice a2 q1.length p2]) := (W22.out).keep c
 have D23 : Hid (Bo w22 w8.heap.size #[.int .i64 t1, .slice c1 g1.length o1, .slice c2 q2.length o2]) := (D22.out).keep c
 have M23 : Hid (LdO w22 Y7.heap.size (markGs 1 g1) (markPs (endG 1 g1) q2) (.slice c1 g1.length o1) (.slice c2 q2.length o2)) := (M22.out).keep c
 have R23 : Hid (PcO w22 Y7.heap.size (markL stPc mkPc m1 d2 d2.length) (.slice c3 d2.length o3)) := (R22.out).keep c
 clear c
 clear C22 A22 E22 V22 W22 D22 M22 R22
 go_wp2_with fail
 refine (eqPc_sl H10.out.c V23.out.c LD3.out BD3.out.d BD3.out.e).mono ?_
 rintro e w23 ⟨rfl, c⟩
 have C24 : Hid (Below w.heap.size w w23) := bl_trans C23.out c
 have A24 : Hid (Bo w23 w.heap.size #[.int .i64 t, v1, v2]) := (A23.out).keep c
 have E24 : Hid (Bo w23 (w.heap.size + 1) #[.int .i64 p.k, .string p.b, .int .i64 p.s, v5, .string p.h, .string p.c, .int .i64 p.t]) := (E23.out).keep c
 have V24 : Hid (TkO w23 w2.heap.size g1 q1 d1 (.slice a1 g1.length p1) (.slice a2 q1.length p2) (.slice a3 d1.length p3)) := (V23.out).keep c
 have W24 : Hid (Bt w23 bb [.int .i64 t1, .slice a1 g1.length p1, .slice a2 q1.length p2]) := (W23.out).keep c
 have D24 : Hid (Bo w23 w8.heap.size #[.int .i64 t1, .slice c1 g1.length o1, .slice c2 q2.length o2]) := (D23.out).keep c
 have M24 : Hid (LdO w23 Y7.heap.size (markGs 1 g1) (markPs (endG 1 g1) q2) (.slice c1 g1.length o1) (.slice c2 q2.length o2)) := (M23.out).keep c
 have R24 : Hid (PcO w23 Y7.heap.size (markL stPc mkPc m1 d2 d2.length) (.slice c3 d2.length o3)) := (R23.out).keep c
 clear c
 clear C23 A23 E23 V23 W23 D23 M23 R23
 clear H9 H10
 have kz := D24.out.c
 go_wp2_with fail
 clear kz
 refine (heldLand_o t1 g1 q2 _ _ _ 1 _ M24.out BD2.out.a BD2.out.b BD2.out.c (by omega) (by omega)).mono ?_
 rintro e w24 ⟨he, c⟩
 rw [← HM1.out] at he
 subst he
 have C25 : Hid (Below w.heap.size w w24) := bl_trans C24.out c
 have A25 : Hid (Bo w24 w.heap.size #[.int .i64 t, v1, v2]) := (A24.out).keep c
 have E25 : Hid (Bo w24 (w.heap.size + 1) #[.int .i64 p.k, .string p.b, .int .i64 p.s, v5, .string p.h, .string p.c, .int .i64 p.t]) := (E24.out).keep c
 have V25 : Hid (TkO w24 w2.heap.size g1 q1 d1 (.slice a1 g1.length p1) (.slice a2 q1.length p2) (.slice a3 d1.length p3)) := (V24.out).keep c
 have W25 : Hid (Bt w24 bb [.int .i64 t1, .slice a1 g1.length p1, .slice a2 q1.length p2]) := (W24.out).keep c
 have D25 : Hid (Bo w24 w8.heap.size #[.int .i64 t1, .slice c1 g1.length o1, .slice c2 q2.length o2]) := (D24.out).keep c
 have M25 : Hid (LdO w24 Y7.heap.size (markGs 1 g1) (markPs (endG 1 g1) q2) (.slice c1 g1.length o1) (.slice c2 q2.length o2)) := (M24.out).keep c
 have R25 : Hid (PcO w24 Y7.heap.size (markL stPc mkPc m1 d2 d2.length) (.slice c3 d2.length o3)) := (R24.out).keep c
 clear c
 clear C24 A24 E24 V24 W24 D24 M24 R24
 go_wp2_with fail
 refine (heldPc_sl d2 _ _ m1 _ R25.out BD2.out.d BD2.out.e (by omega) (by omega)).mono ?_
 rintro e w25 ⟨he, c⟩
 rw [← HM2.out] at he
 subst he
 have C26 : Hid (Below w.heap.size w w25) := bl_trans C25.out c
 have A26 : Hid (Bo w25 w.heap.size #[.int .i64 t, v1, v2]) := (A25.out).keep c
 have E26 : Hid (Bo w25 (w.heap.size + 1) #[.int .i64 p.k, .string p.b, .int .i64 p.s, v5, .string p.h, .string p.c, .int .i64 p.t]) := (E25.out).keep c
 have V26 : Hid (TkO w25 w2.heap.size g1 q1 d1 (.slice a1 g1.length p1) (.slice a2 q1.length p2) (.slice a3 d1.length p3)) := (V25.out).keep c
 have W26 : Hid (Bt w25 bb [.int .i64 t1, .slice a1 g1.length p1, .slice a2 q1.length p2]) := (W25.out).keep c
 have D26 : Hid (Bo w25 w8.heap.size #[.int .i64 t1, .slice c1 g1.length o1, .slice c2 q2.length o2]) := (D25.out).keep c
 have M26 : Hid (LdO w25 Y7.heap.size (markGs 1 g1) (markPs (endG 1 g1) q2) (.slice c1 g1.length o1) (.slice c2 q2.length o2)) := (M25.out).keep c
 have R26 : Hid (PcO w25 Y7.heap.size (markL stPc mkPc m1 d2 d2.length) (.slice c3 d2.length o3)) := (R25.out).keep c
 clear c
 clear C25 A25 E25 V25 W25 D25 M25 R25
 go_wp2
 go_ret
 exact ⟨rfl, C26.out⟩
end Go.Proofs.YtefkdohkjdopeaaGreatDoor
