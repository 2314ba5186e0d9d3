import Derived.Test.YtefkdohkjdopeaaGreatDoorJ19
import Derived.Test.YtefkdohkjdopeaaGreatDoorJ12
import Derived.Test.YtefkdohkjdopeaaGreatDoorJ11
import Derived.Test.YtefkdohkjdopeaaGreatDoorJ13
import Derived.Test.YtefkdohkjdopeaaGreatDoorJ14
import Derived.Test.YtefkdohkjdopeaaGreatDoorJ03
import Derived.Deep.RegionHeld3
import Derived.Laws.Pointers
import Derived.StillTactics
import Derived.Test.YtefkdohkjdopeaaGreatDoorJ06
import Derived.Deep.QuietTactic
import Derived.BigQuiet
import Derived.Maps.OwnSet
import Derived.Test.YtefkdohkjdopeaaGreatDoorJ15
namespace Go.Proofs.YtefkdohkjdopeaaGreatDoor
open Go.RowKit Go.Maps Go.WideMaps
set_option linter.unusedVariables false
structure TakeP where
 k : Int
 b : ByteArray
 h : ByteArray
 c : ByteArray
 t : Int
structure TakeP.fits (p : TakeP) : Prop where
 b : p.b.size ≤ maxLen
 h : p.h.size ≤ maxLen
 c : p.c.size ≤ maxLen
def eqT (a b : ByteArray) : Bool := a.toList == b.toList
theorem eqT_iff {a b : ByteArray} : eqT a b = true ↔ a = b := by
 unfold eqT
 rw [beq_iff_eq, ByteArray.toList_eq, ByteArray.toList_eq]
 exact ⟨Ord.ba_ext, fun e => by rw [e]⟩
def TakeP.good (p : TakeP) : Bool := nameB p.b && (nameB p.c && (holdB p.h && inB p.t 0 1000000))
def askW (p : TakeP) (r : W.WantD) : Bool := eqT r.c p.c && eqT r.h p.h
def wantedW (p : TakeP) (ws : List W.WantD) : Bool := ws.any (askW p)
def wantedL (p : TakeP) (ps : List P.PlaceD) : Bool := ps.any (fun q => eqT q.b p.b && wantedW p q.ws)
def overG (t : Int) (g : G.GrantD) : Bool := decide (g.u ≤ t)
def mineG (p : TakeP) (g : G.GrantD) : Bool := eqT g.b p.b && (eqT g.c p.c && decide (g.t ≤ p.t))
def mayG (t : Int) (p : TakeP) (gs : List G.GrantD) : Bool := gs.all (fun g => !eqT g.h p.h || (overG t g || mineG p g))
def hasG (h : ByteArray) (gs : List G.GrantD) : Bool := gs.any (fun g => eqT g.h h)
def roomG (h : ByteArray) (gs : List G.GrantD) : Bool := hasG h gs || decide (gs.length < 40)
def stillG (t : Int) (gs : List G.GrantD) : List G.GrantD := gs.filter (fun g => !overG t g)
def leftG (t : Int) (h : ByteArray) (gs : List G.GrantD) : List G.GrantD := if roomG h gs = true then gs else stillG t gs
def newG (t : Int) (p : TakeP) : G.GrantD := ⟨p.h, p.b, p.c, p.t, t + 32⟩
def backB (p : TakeP) (g : G.GrantD) : Bool := eqT g.b p.b && decide (g.t ≤ p.t)
def backG (p : TakeP) (gs : List G.GrantD) : List G.GrantD := gs.filter (fun g => !(eqT g.h p.h && backB p g))
abbrev SaysC := Int × ByteArray × Int × List W.WantD × ByteArray × ByteArray × Int
def takeF (t : Int) (gs : List G.GrantD) (ps : List P.PlaceD) (p : TakeP) : List G.GrantD × List SaysC :=
 if p.good = true then
  if p.k = 2 then
   if wantedL p ps = true ∧ mayG t p gs = true ∧ roomG p.h (leftG t p.h gs) = true then (Ord.insS G.keyV (newG t p) (leftG t p.h gs), [(3, p.b, 0, [], p.h, p.c, p.t)]) else (gs, [])
  else if p.k = 4 then (backG p gs, [(5, p.b, 0, [], p.h, ⟨#[]⟩, p.t)])
  else (gs, [])
 else (gs, [])
def TakeLSay (t : Int) (gs : List G.GrantD) (ps : List P.PlaceD) (p : TakeP) (t' : Int) (gs' : List G.GrantD) (qs : List P.PlaceD) (ds : List Pc.PcD) : Prop :=
 (¬ P.LandSay t gs ps ∧ t' = 0 ∧ gs' = [] ∧ qs = [] ∧ ds = []) ∨ (P.LandSay t gs ps ∧ t' = t ∧ P.Like qs ps ∧ gs' = (takeF t gs ps p).1 ∧ ds.map Pc.PcD.says = (takeF t gs ps p).2)
theorem wantedL_like {p : TakeP} : ∀ {ps qs : List P.PlaceD}, P.Like ps qs → wantedL p ps = wantedL p qs
 | [], [], _ => rfl
 | [], _ :: _, h => by cases h
 | _ :: _, [], h => by cases h
 | x :: ps, y :: qs, h => by
  have h0 := P.Like.at h (k := 0) rfl rfl
  have ih := wantedL_like (p := p) (List.cons.inj h).2
  unfold wantedL at ih ⊢
  rw [List.any_cons, List.any_cons, ih, h0.1, h0.2.2]
theorem takeF_like {t : Int} {gs : List G.GrantD} {p : TakeP} {ps qs : List P.PlaceD} (h : P.Like ps qs) : takeF t gs ps p = takeF t gs qs p := by
 unfold takeF
 rw [wantedL_like h]
theorem takeL_one {t : Int} {gs : List G.GrantD} {p : TakeP} {ps ps' : List P.PlaceD} {t1 t2 : Int} {g1 g2 : List G.GrantD} {q1 q2 : List P.PlaceD} {d1 d2 : List Pc.PcD} (hl : P.Like ps ps') (h1 : TakeLSay t gs ps p t1 g1 q1 d1) (h2 : TakeLSay t gs ps' p t2 g2 q2 d2) : t1 = t2 ∧ g1 = g2 ∧ P.Like q1 q2 ∧ Pc.Like d1 d2 := by
 rcases h1 with ⟨n1, rfl, rfl, rfl, rfl⟩ | ⟨y1, rfl, l1, rfl, e1⟩
 ·
  rcases h2 with ⟨n2, rfl, rfl, rfl, rfl⟩ | ⟨y2, -⟩
  ·
   exact ⟨rfl, rfl, rfl, rfl⟩
  ·
   exact (n1 ((P.like_says hl).2 y2)).elim
 ·
  rcases h2 with ⟨n2, -⟩ | ⟨y2, rfl, l2, rfl, e2⟩
  ·
   exact (n2 ((P.like_says hl).1 y1)).elim
  ·
   have e := fun t => takeF_like (t := t) (gs := gs) (p := p) hl
   refine ⟨rfl, by rw [e], (l1.trans hl).trans l2.symm, ?_⟩
   unfold Pc.Like
   rw [e1, e2, e]
theorem srtG_one {gs : List G.GrantD} (hs : G.Srt gs) {r g : G.GrantD} (hr : r ∈ gs) (hg : g ∈ gs) (e : g.h = r.h) : g = r := by
 have h : ∀ {x y : G.GrantD}, x ∈ gs → y ∈ gs → x = y ∨ bytesBefore (G.keyV x) (G.keyV y) = true ∨ bytesBefore (G.keyV y) (G.keyV x) = true := by
  intro x y hx hy
  obtain ⟨i, hi⟩ := List.getElem?_of_mem hx
  obtain ⟨j, hj⟩ := List.getElem?_of_mem hy
  obtain ⟨a1, rfl⟩ := List.getElem?_eq_some_iff.1 hi
  obtain ⟨a2, rfl⟩ := List.getElem?_eq_some_iff.1 hj
  rcases Nat.lt_trichotomy i j with h | h | h
  ·
   exact Or.inr (Or.inl (List.pairwise_iff_getElem.1 hs i j a1 a2 h))
  ·
   subst h; exact Or.inl rfl
  ·
   exact Or.inr (Or.inr (List.pairwise_iff_getElem.1 hs j i a2 a1 h))
 have ek : G.keyV g = G.keyV r := by unfold G.keyV; rw [e]
 rcases h hg hr with h | h | h
 ·
  exact h
 ·
  exact (Ord.before_ne h ek).elim
 ·
  exact (Ord.before_ne h ek.symm).elim
theorem may_of {t : Int} {p : TakeP} {gs : List G.GrantD} (hs : G.Srt gs) {r : G.GrantD} (hr : r ∈ gs) (e : r.h = p.h) : mayG t p gs = (overG t r || mineG p r) := by
 unfold mayG
 cases hx : (overG t r || mineG p r)
 ·
  rw [List.all_eq_false]
  exact ⟨r, hr, by rw [eqT_iff.2 e, hx]; decide⟩
 ·
  rw [List.all_eq_true]
  intro g hg
  cases he : eqT g.h p.h
  ·
   rfl
  ·
   rw [srtG_one hs hr hg ((eqT_iff.1 he).trans e.symm), hx]; rfl
theorem may_none {t : Int} {p : TakeP} {gs : List G.GrantD} (h : ∀ g ∈ gs, g.h ≠ p.h) : mayG t p gs = true := by
 unfold mayG
 rw [List.all_eq_true]
 intro g hg
 cases he : eqT g.h p.h
 ·
  rfl
 ·
  exact (h g hg (eqT_iff.1 he)).elim
theorem has_of {h : ByteArray} {gs : List G.GrantD} {r : G.GrantD} (hr : r ∈ gs) (e : r.h = h) : hasG h gs = true := by
 unfold hasG
 rw [List.any_eq_true]
 exact ⟨r, hr, eqT_iff.2 e⟩
theorem has_none {h : ByteArray} {gs : List G.GrantD} (hn : ∀ g ∈ gs, g.h ≠ h) : hasG h gs = false := by
 unfold hasG
 rw [List.any_eq_false]
 exact fun g hg he => hn g hg (eqT_iff.1 he)
theorem has_false {h : ByteArray} {gs : List G.GrantD} (hf : hasG h gs = false) : ∀ g ∈ gs, g.h ≠ h := fun g hg e => by
 rw [has_of hg e] at hf
 cases hf
theorem srtP_one {ps : List P.PlaceD} (hs : Ord.Srt keyP ps) {r g : P.PlaceD} (hr : r ∈ ps) (hg : g ∈ ps) (e : g.b = r.b) : g = r := by
 have h : ∀ {x y : P.PlaceD}, x ∈ ps → y ∈ ps → x = y ∨ bytesBefore (keyP x) (keyP y) = true ∨ bytesBefore (keyP y) (keyP x) = true := by
  intro x y hx hy
  obtain ⟨i, hi⟩ := List.getElem?_of_mem hx
  obtain ⟨j, hj⟩ := List.getElem?_of_mem hy
  obtain ⟨a1, rfl⟩ := List.getElem?_eq_some_iff.1 hi
  obtain ⟨a2, rfl⟩ := List.getElem?_eq_some_iff.1 hj
  rcases Nat.lt_trichotomy i j with h | h | h
  ·
   exact Or.inr (Or.inl (List.pairwise_iff_getElem.1 hs i j a1 a2 h))
  ·
   subst h; exact Or.inl rfl
  ·
   exact Or.inr (Or.inr (List.pairwise_iff_getElem.1 hs j i a2 a1 h))
 have ek : keyP g = keyP r := by unfold keyP; rw [e]
 rcases h hg hr with h | h | h
 ·
  exact h
 ·
  exact (Ord.before_ne h ek).elim
 ·
  exact (Ord.before_ne h ek.symm).elim
theorem wanted_of {p : TakeP} {ps : List P.PlaceD} (hs : Ord.Srt keyP ps) {r : P.PlaceD} (hr : r ∈ ps) (e : r.b = p.b) : wantedL p ps = wantedW p r.ws := by
 unfold wantedL
 cases hx : wantedW p r.ws
 ·
  rw [List.any_eq_false]
  intro g hg h
  rw [Bool.and_eq_true] at h
  have hgr := srtP_one hs hr hg ((eqT_iff.1 h.1).trans e.symm)
  rw [hgr, hx] at h
  cases h.2
 ·
  rw [List.any_eq_true]
  exact ⟨r, hr, by rw [eqT_iff.2 e, hx]; rfl⟩
theorem wanted_none {p : TakeP} {ps : List P.PlaceD} (h : ∀ q ∈ ps, q.b ≠ p.b) : wantedL p ps = false := by
 unfold wantedL
 rw [List.any_eq_false]
 intro g hg hh
 rw [Bool.and_eq_true] at hh
 exact h g hg (eqT_iff.1 hh.1)
theorem out_back {p : TakeP} {gs : List G.GrantD} (hs : G.Srt gs) {r : G.GrantD} (hr : r ∈ gs) (e : r.h = p.h) (hb : backB p r = true) : Ord.out G.keyV p.h.data.toList gs = backG p gs := by
 unfold Ord.out backG
 refine List.filter_congr fun g hg => ?_
 congr 1
 cases he : eqT g.h p.h
 ·
  cases hk : (G.keyV g == p.h.data.toList)
  ·
   rfl
  ·
   have : g.h = p.h := Ord.ba_ext (by simpa [G.keyV] using hk)
   rw [eqT_iff.2 this] at he
   cases he
 ·
  have h1 := eqT_iff.1 he
  rw [srtG_one hs hr hg (h1.trans e.symm), hb, G.keyV, e]
  simp
theorem back_same {p : TakeP} {gs : List G.GrantD} (h : ∀ g ∈ gs, g.h = p.h → backB p g = false) : backG p gs = gs := by
 unfold backG
 rw [List.filter_eq_self]
 intro g hg
 cases he : eqT g.h p.h
 ·
  rfl
 ·
  rw [h g hg (eqT_iff.1 he)]; rfl
end Go.Proofs.YtefkdohkjdopeaaGreatDoor
namespace Go.Proofs.YtefkdohkjdopeaaGreatDoor
open Go.RowKit
end Go.Proofs.YtefkdohkjdopeaaGreatDoor
namespace Go.Proofs.YtefkdohkjdopeaaGreatDoor.G
open Go.RowKit
set_option linter.unusedVariables false
def GvG (w : World) (a : Option Addr) (gs : List GrantD) : Prop := gs = [] ∨ ∃ b, a = some ⟨b, 0, none⟩ ∧ b < w.heap.size ∧ RowsAt w b 0 gs
theorem GvG.keep {w w' : World} {a : Option Addr} {gs : List GrantD} (h : GvG w a gs) (hb : Below w.heap.size w w') : GvG w' a gs := by
 rcases h with h | ⟨b, h1, h2, h3⟩
 ·
  exact Or.inl h
 ·
  exact Or.inr ⟨b, h1, Nat.lt_of_lt_of_le h2 hb.size, h3.keep h2 hb⟩
end Go.Proofs.YtefkdohkjdopeaaGreatDoor.G
namespace Go.Proofs.YtefkdohkjdopeaaGreatDoor.P
open Go.RowKit
set_option linter.unusedVariables false
def GvP (w : World) (a : Option Addr) (ps : List PlaceD) : Prop := ps = [] ∨ ∃ b, a = some ⟨b, 0, none⟩ ∧ b < w.heap.size ∧ RowsAt w b 0 ps
theorem GvP.keep {w w' : World} {a : Option Addr} {ps : List PlaceD} (h : GvP w a ps) (hb : Below w.heap.size w w') : GvP w' a ps := by
 rcases h with h | ⟨b, h1, h2, h3⟩
 ·
  exact Or.inl h
 ·
  exact Or.inr ⟨b, h1, Nat.lt_of_lt_of_le h2 hb.size, h3.keep h2 hb⟩
structure LandX (w : World) (gs : List G.GrantD) (ps : List PlaceD) (a1 a2 : Option Addr) : Prop where
 g : G.GvG w a1 gs
 p : GvP w a2 ps
 k : ∀ r ∈ ps, W.Src w r.a r.c r.ws
theorem LandX.keep {w w' : World} {gs : List G.GrantD} {ps : List PlaceD} {a1 a2 : Option Addr} (h : LandX w gs ps a1 a2) (hb : Below w.heap.size w w') : LandX w' gs ps a1 a2 :=
 ⟨h.g.keep hb, h.p.keep hb, fun r hr => (h.k r hr).keep hb⟩
end Go.Proofs.YtefkdohkjdopeaaGreatDoor.P
namespace Go.Proofs.YtefkdohkjdopeaaGreatDoor
open Go.RowKit Go.Maps Go.WideMaps
set_option linter.unusedVariables false
set_option maxRecDepth 4000 in
set_option maxHeartbeats 1000000 in
theorem namesHold_any (p : TakeP) (s : Int) (a : Option Addr) (n cw : Nat) (w : World) (hf : p.fits) :
  Calls Tryz.prog 55 #[.agg #[.int .i64 p.k, .string p.b, .int .i64 s, .slice a n cw, .string p.h, .string p.c, .int .i64 p.t]] w fun e w' => e = .returned (.bool p.good) ∧ Below w.heap.size w w' := by
 have h1 := hf.b
 have h2 := hf.h
 have h3 := hf.c
 have hb : Below w.heap.size w (w.alloc (.cells #[.int .i64 p.k, .string p.b, .int .i64 s, .slice a n cw, .string p.h, .string p.c, .int .i64 p.t] 41)) := bl_alloc (Below.refl _ _) _
 have HB : Hid (Below w.heap.size w (w.alloc (.cells #[.int .i64 p.k, .string p.b, .int .i64 s, .slice a n cw, .string p.h, .string p.c, .int .i64 p.t] 41))) := hb
 clear hb hf
 unfold TakeP.good
 cases q1 : nameB p.b
 ·
  go_enter Tryz.func55, Tryz.ntmps55
  go_wp2_with (go_at_call 74; refine (implName_any _ _ (by assumption)).mono ?_; rintro e w' ⟨rfl, hw⟩; have hw2 := hw.symm; subst hw2; clear hw)
  go_ret
  exact ⟨rfl, HB.out⟩
 ·
  cases q2 : nameB p.c
  ·
   go_enter Tryz.func55, Tryz.ntmps55
   go_wp2_with (go_at_call 74; refine (implName_any _ _ (by assumption)).mono ?_; rintro e w' ⟨rfl, hw⟩; have hw2 := hw.symm; subst hw2; clear hw)
   go_ret
   exact ⟨rfl, HB.out⟩
  ·
   cases q3 : holdB p.h
   ·
    go_enter Tryz.func55, Tryz.ntmps55
    go_wp2_with (first | (go_at_call 74; refine (implName_any _ _ (by assumption)).mono ?_; rintro e w' ⟨rfl, hw⟩; have hw2 := hw.symm; subst hw2; clear hw) | (go_at_call 75; refine (implHold_any _ _ (by assumption)).mono ?_; rintro e w' ⟨rfl, hw⟩; have hw2 := hw.symm; subst hw2; clear hw))
    go_ret
    exact ⟨rfl, HB.out⟩
   ·
    go_enter Tryz.func55, Tryz.ntmps55
    go_wp2_with (first | (go_at_call 74; refine (implName_any _ _ (by assumption)).mono ?_; rintro e w' ⟨rfl, hw⟩; have hw2 := hw.symm; subst hw2; clear hw) | (go_at_call 75; refine (implHold_any _ _ (by assumption)).mono ?_; rintro e w' ⟨rfl, hw⟩; have hw2 := hw.symm; subst hw2; clear hw) | (go_at_call 76; refine (within_any _ _ _ _).mono ?_; rintro e w' ⟨rfl, hw⟩; have hw2 := hw.symm; subst hw2; clear hw))
    go_ret
    exact ⟨rfl, HB.out⟩
set_option maxRecDepth 4000 in
theorem isOver_any (d : Nat) (t : Int) (g : G.GrantD) (w : World) (h0 : w.cell? ⟨d, 0, none⟩ = some (.int .i64 t)) (hd : d < w.heap.size) :
  Calls Tryz.prog 94 #[.pointer (some ⟨d, 0, none⟩), .agg #[.string g.h, .string g.b, .string g.c, .int .i64 g.t, .int .i64 g.u]] w fun e w' => e = .returned (.bool (overG t g)) ∧ Below w.heap.size w w' := by
 have h0' : (w.alloc (.cells #[.string g.h, .string g.b, .string g.c, .int .i64 g.t, .int .i64 g.u] 61)).cell? ⟨d, 0, none⟩ = some (.int .i64 t) := ((bl_alloc (Below.refl w.heap.size w) _).cell (p := ⟨d, 0, none⟩) hd).trans h0
 unfold overG
 go_enter Tryz.func94, Tryz.ntmps94
 go_wp2_with fail
 go_quiet (fail)
 go_wp2
 go_ret
 have hb : Below w.heap.size w (w.alloc (.cells #[.string g.h, .string g.b, .string g.c, .int .i64 g.t, .int .i64 g.u] 61)) := bl_alloc (Below.refl _ _) _
 exact ⟨rfl, ⟨hb.os, hb.tape, hb.output, hb.size, hb.block⟩⟩
set_option maxRecDepth 4000 in
theorem isWanted1_any (p : TakeP) (r : W.WantD) (pb : Nat) (w : World) (h4 : w.cell? ⟨pb, 4, none⟩ = some (.string p.h)) (h5 : w.cell? ⟨pb, 5, none⟩ = some (.string p.c)) (hp : pb < w.heap.size) :
  Calls Tryz.prog 93 #[.agg #[.string r.c, .int .i64 r.v, .string r.h, .int .i64 r.p, .int .i64 r.s, .int .i64 r.d, .int .i64 r.g], .pointer (some ⟨pb, 0, none⟩)] w fun e w' => e = .returned (.bool (askW p r)) ∧ Below w.heap.size w w' := by
 have h4' : (w.alloc (.cells #[.string r.c, .int .i64 r.v, .string r.h, .int .i64 r.p, .int .i64 r.s, .int .i64 r.d, .int .i64 r.g] 94)).cell? ⟨pb, 4, none⟩ = some (.string p.h) := ((bl_alloc (Below.refl w.heap.size w) _).cell (p := ⟨pb, 4, none⟩) hp).trans h4
 have h5' : (w.alloc (.cells #[.string r.c, .int .i64 r.v, .string r.h, .int .i64 r.p, .int .i64 r.s, .int .i64 r.d, .int .i64 r.g] 94)).cell? ⟨pb, 5, none⟩ = some (.string p.c) := ((bl_alloc (Below.refl w.heap.size w) _).cell (p := ⟨pb, 5, none⟩) hp).trans h5
 unfold askW eqT
 cases q : (r.c.toList == p.c.toList)
 ·
  go_enter Tryz.func93, Tryz.ntmps93
  go_wp2
  go_ret
  exact ⟨rfl, bl_alloc (Below.refl _ _) _⟩
 ·
  go_enter Tryz.func93, Tryz.ntmps93
  go_wp2
  go_ret
  exact ⟨rfl, bl_alloc (Below.refl _ _) _⟩
set_option maxRecDepth 4000 in
set_option maxHeartbeats 1000000 in
theorem indexW (p : TakeP) (a : Option Addr) (cap : Nat) (rs : List W.WantD) (pb : Nat) (w : World) (hR : W.Gv w a rs) (hl : rs.length ≤ 1048576) (h4 : w.cell? ⟨pb, 4, none⟩ = some (.string p.h)) (h5 : w.cell? ⟨pb, 5, none⟩ = some (.string p.c)) (hp : pb < w.heap.size) :
  Calls Tryz.prog 103 #[.slice a rs.length cap, .func (.func 93) #[] #[.pointer (some ⟨pb, 0, none⟩)]] w fun e w' => (∃ n : Int, e = .returned (.int .i64 n) ∧ decide (0 ≤ n) = wantedW p rs) ∧ Below w.heap.size w w' := by
 have HW : Hid (∀ y, Below w.heap.size w y → ∀ r : W.WantD, Calls Tryz.prog 93 #[.agg #[.string r.c, .int .i64 r.v, .string r.h, .int .i64 r.p, .int .i64 r.s, .int .i64 r.d, .int .i64 r.g], .pointer (some ⟨pb, 0, none⟩)] y fun e w' => e = .returned (.bool (askW p r)) ∧ Below y.heap.size y w') := fun y hy r =>
  isWanted1_any p r pb y ((hy.cell (p := ⟨pb, 4, none⟩) hp).trans h4) ((hy.cell (p := ⟨pb, 5, none⟩) hp).trans h5) (Nat.lt_of_lt_of_le hp hy.size)
 have HR : Hid (W.Gv w a rs) := hR
 clear hR h4 h5
 go_enter Tryz.func103, Tryz.ntmps103
 go_wp2
 go_loopw [8] (fun i wx => ∃ (k : Nat), k ≤ rs.length ∧ i = .int .i64 k ∧ Hid (∀ (j : Nat) r, j < k → rs[j]? = some r → askW p r = false) ∧ Below w.heap.size w wx) (fun i _ => rs.length - (intOf i).toNat)
 case atStart => exact ⟨0, Nat.zero_le _, rfl, fun j r h => by omega, Below.refl _ _⟩
 case round =>
  obtain ⟨k, hk, rfl, Ha, hB⟩ := hrel
  have HB : Hid (Below w.heap.size w wr) := hB
  by_cases hlt : k < rs.length
  ·
   obtain ⟨r, hr⟩ : ∃ r, rs[k]? = some r := ⟨rs[k], List.getElem?_eq_getElem hlt⟩
   obtain ⟨g, rfl, hg, hrow⟩ : ∃ g, a = some ⟨g, 0, none⟩ ∧ g < wr.heap.size ∧ W.RowsAt wr g 0 rs := by
    rcases HR.out.keep hB with h | h
    ·
     rw [h] at hlt; cases hlt
    ·
     exact h
   obtain ⟨c0, c1, c2, c3, c4, c5, c6⟩ := hrow.at hr
   have Hr : Hid (rs[k]? = some r) := hr
   simp only [Nat.zero_add] at c0 c1 c2 c3 c4 c5 c6
   clear hr hrow hB
   go_wp2_with fail
   refine (HW.out wr HB.out r).mono ?_
   rintro e w1 ⟨rfl, hb⟩
   have Hb1 : Hid (Below w.heap.size w w1) := bl_trans HB.out hb
   clear hb c0 c1 c2 c3 c4 c5 c6
   cases hP : askW p r
   ·
    go_wp2
    exact ⟨⟨k + 1, by omega, by go_num, (fun j q hj hq => by
     by_cases e : j = k
     ·
      subst e; have hh := Hr.out; rw [hh] at hq; cases hq; exact hP
     ·
      exact Ha.out j q (by omega) hq), Hb1.out⟩, by simp [intOf]; omega⟩
   ·
    go_wp2
    go_ret
    refine ⟨⟨k, rfl, ?_⟩, Hb1.out⟩
    have h1 : wantedW p rs = true := by
     unfold wantedW
     rw [List.any_eq_true]
     exact ⟨r, List.mem_of_getElem? Hr.out, hP⟩
    rw [h1]
    exact decide_eq_true (by omega)
  ·
   go_wp2
   go_ret
   refine ⟨⟨-1, rfl, ?_⟩, HB.out⟩
   have h1 : wantedW p rs = false := by
    unfold wantedW
    rw [List.any_eq_false]
    intro r hr h
    obtain ⟨j, hj⟩ := List.getElem?_of_mem hr
    have hjl : j < rs.length := (List.getElem?_eq_some_iff.1 hj).1
    rw [Ha.out j r (by omega) hj] at h
    cases h
   rw [h1]
   rfl
theorem containsW (p : TakeP) (a : Option Addr) (cap : Nat) (rs : List W.WantD) (pb : Nat) (w : World) (hR : W.Gv w a rs) (hl : rs.length ≤ 1048576) (h4 : w.cell? ⟨pb, 4, none⟩ = some (.string p.h)) (h5 : w.cell? ⟨pb, 5, none⟩ = some (.string p.c)) (hp : pb < w.heap.size) :
  Calls Tryz.prog 92 #[.slice a rs.length cap, .func (.func 93) #[] #[.pointer (some ⟨pb, 0, none⟩)]] w fun e w' => e = .returned (.bool (wantedW p rs)) ∧ Below w.heap.size w w' := by
 have HI : Hid (Calls Tryz.prog 103 #[.slice a rs.length cap, .func (.func 93) #[] #[.pointer (some ⟨pb, 0, none⟩)]] w fun e w' => (∃ n : Int, e = .returned (.int .i64 n) ∧ decide (0 ≤ n) = wantedW p rs) ∧ Below w.heap.size w w') := indexW p a cap rs pb w hR hl h4 h5 hp
 clear hR h4 h5
 go_enter Tryz.func92, Tryz.ntmps92
 go_wp2_with fail
 refine HI.out.mono ?_
 rintro e w1 ⟨⟨n, rfl, hn⟩, hb⟩
 have HB : Hid (Below w.heap.size w w1) := hb
 have HN : Hid (decide (0 ≤ n) = wantedW p rs) := hn
 clear hb hn HI
 go_wp2
 go_ret
 exact ⟨by rw [← HN.out]; rfl, HB.out⟩
end Go.Proofs.YtefkdohkjdopeaaGreatDoor
