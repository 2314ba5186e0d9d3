import Derived.Test.YtefkdohkjdopeaaGreatDoorJ14
import Derived.Test.YtefkdohkjdopeaaGreatDoorJ11
import Derived.Test.YtefkdohkjdopeaaGreatDoorJ12
import Derived.Test.YtefkdohkjdopeaaGreatDoorJ02
import Derived.Test.YtefkdohkjdopeaaGreatDoorJ13
import Derived.Test.YtefkdohkjdopeaaGreatDoorJ03
import Derived.Deep.RegionHeld3
import Derived.Laws.Pointers
import Derived.StillTactics
import Derived.Test.YtefkdohkjdopeaaGreatDoorJ06
import Derived.Deep.QuietTactic
import Derived.BigQuiet
import Derived.Maps.OwnSet
namespace Go.Proofs.YtefkdohkjdopeaaGreatDoor.P
open Go.RowKit
set_option linter.unusedVariables false
def SaysG (q : Bool) (t : Int) (gs : List G.GrantD) : Prop := q = true ↔ GrantsSay t gs
def SaysP (q : Bool) (ps : List PlaceD) : Prop := q = true ↔ PlacesSay ps
def SaysF (q : Bool) (b : ByteArray) (s : Int) (ws : List W.WantD) : Prop := q = true ↔ nameB b = true ∧ (inB s 1 1000000 = true ∧ (ws.length ≤ 10 ∧ W.AllW ws ws.length))
theorem ml_box {w w' : World} {t : Int} {gs : List G.GrantD} {ps : List PlaceD} {b1 b2 : Nat} (hb : Below (w.alloc (.cells #[.int .i64 t, .slice (some ⟨b1, 0, none⟩) gs.length gs.length, .slice (some ⟨b2, 0, none⟩) ps.length ps.length] 34)).heap.size (w.alloc (.cells #[.int .i64 t, .slice (some ⟨b1, 0, none⟩) gs.length gs.length, .slice (some ⟨b2, 0, none⟩) ps.length ps.length] 34)) w') : (∀ k, w'.cell? ⟨w.heap.size, k, none⟩ = (#[.int .i64 t, .slice (some ⟨b1, 0, none⟩) gs.length gs.length, .slice (some ⟨b2, 0, none⟩) ps.length ps.length] : Array Value)[k]?) ∧ w.heap.size < w'.heap.size := by
 constructor
 ·
  intro k
  rw [hb.cell (p := ⟨w.heap.size, k, none⟩) (by simp)]
  simp [go_sem]
 ·
  have := hb.size; simp at this; omega
set_option maxRecDepth 4000 in
set_option maxHeartbeats 1000000 in
theorem grantsOk_any (t : Int) (gs : List G.GrantD) (ps : List PlaceD) (b1 b2 : Nat) (w : World) (hA : LandAt w gs ps b1 b2) (hF : Fit gs ps) (h0 : 0 ≤ t) (h1 : t ≤ 2000000) :
  Calls Tryz.prog 64 #[.agg #[.int .i64 t, .slice (some ⟨b1, 0, none⟩) gs.length gs.length, .slice (some ⟨b2, 0, none⟩) ps.length ps.length]] w fun e w' => (∃ q : Bool, e = .returned (.bool q) ∧ SaysG q t gs) ∧ Below w.heap.size w w' := by
 have HA : Hid (LandAt w gs ps b1 b2) := hA
 have HF : Hid (Fit gs ps) := hF
 have hgl := hF.gl
 clear hA hF
 by_cases h40 : gs.length ≤ 40
 ·
  have hi40 : (gs.length : Int) ≤ 40 := by omega
  go_enter Tryz.func64, Tryz.ntmps64
  go_wp2_with fail
  have hb0 : Below w.heap.size w (w.alloc (.cells #[.int .i64 t, .slice (some ⟨b1, 0, none⟩) gs.length gs.length, .slice (some ⟨b2, 0, none⟩) ps.length ps.length] 34)) := bl_alloc (Below.refl _ _) _
  refine (G.ascends b1 0 gs.length gs _ (HA.out.keep hb0).g (HA.out.keep hb0).g1 hgl).mono ?_
  rintro e w1 ⟨⟨q1, rfl, k1⟩, c1⟩
  have B1 : Hid (Below w.heap.size w w1) := bl_trans hb0 c1
  have H0 : Hid _ := k1
  obtain ⟨kb, kz⟩ := ml_box c1
  clear k1 hb0 c1
  cases q1
  ·
   go_wp2
   go_ret
   exact ⟨⟨false, rfl, ⟨fun h => (by cases h), fun h => by have := H0.out.2 h.2.1; cases this⟩⟩, B1.out⟩
  ·
   have H1 : Hid _ := H0.out.1 rfl
   have Hck : Hid (w1.cell? ⟨w.heap.size, 0, none⟩ = some (.int .i64 t)) := kb 0
   clear H0
   go_wp2_with fail
   refine (G.allOk w.heap.size (grantB t) b1 0 gs.length gs w1 (HA.out.keep B1.out).g (HA.out.keep B1.out).g1 hgl (fun r hr x hx => closGrant r t w.heap.size x ((hx.cell (p := ⟨w.heap.size, 0, none⟩) kz).trans Hck.out) (Nat.lt_of_lt_of_le kz hx.size) (HF.out.g r hr) h0 h1)).mono ?_
   rintro e w2 ⟨⟨q2, rfl, k2⟩, c2⟩
   have B2 : Hid _ := bl_trans B1.out c2
   have H2 : Hid _ := k2
   clear c2 k2 kb
   go_wp2
   go_ret
   exact ⟨⟨q2, rfl, ⟨fun h => ⟨h40, H1.out, H2.out.1 h⟩, fun h => H2.out.2 h.2.2⟩⟩, B2.out⟩
 ·
  have hi40 : (40 : Int) < (gs.length : Int) := by omega
  have H40 : Hid _ := h40
  clear h40
  go_enter Tryz.func64, Tryz.ntmps64
  go_wp2
  go_ret
  first
  | exact ⟨Or.inl ⟨rfl, ⟨fun h => (by cases h), fun h => absurd h.1 H40.out⟩⟩, bl_alloc (Below.refl _ _) _⟩
  | exact ⟨⟨false, rfl, ⟨fun h => (by cases h), fun h => absurd h.1 H40.out⟩⟩, bl_alloc (Below.refl _ _) _⟩
set_option maxRecDepth 4000 in
set_option maxHeartbeats 1000000 in
theorem placeOk_q (b : ByteArray) (s : Int) (g : Nat) (ws : List W.WantD) (w : World) (hb : b.size ≤ maxLen) (hg : g < w.heap.size) (hR : W.RowsAt w g 0 ws) (hfit : ∀ r ∈ ws, r.fits) (hl : ws.length ≤ 1048576) :
  Calls Tryz.prog 87 #[.agg #[.string b, .int .i64 s, .slice (some ⟨g, 0, none⟩) ws.length ws.length]] w fun e w' => (∃ q : Bool, e = .returned (.bool q) ∧ SaysF q b s ws) ∧ Below w.heap.size w w' := by
 have HR : Hid (W.RowsAt w g 0 ws) := hR
 have HF : Hid _ := hfit
 clear hR hfit
 have hb0 : Hid (Below w.heap.size w (w.alloc (.cells #[.string b, .int .i64 s, .slice (some ⟨g, 0, none⟩) ws.length ws.length] 90))) := bl_alloc (Below.refl _ _) _
 cases q1 : nameB b
 ·
  go_enter Tryz.func87, Tryz.ntmps87
  go_wp2_with (first | (go_at_call 74; refine (implName_any _ _ hb).mono ?_; rintro e w' ⟨rfl, rfl⟩) | (go_at_call 76; refine (within_any _ _ _ _).mono ?_; rintro e w' ⟨rfl, rfl⟩))
  go_ret
  exact ⟨⟨false, rfl, ⟨fun h => (by cases h), fun h => by have := h.1; rw [q1] at this; cases this⟩⟩, hb0.out⟩
 cases q2 : inB s 1 1000000
 ·
  go_enter Tryz.func87, Tryz.ntmps87
  go_wp2_with (first | (go_at_call 74; refine (implName_any _ _ hb).mono ?_; rintro e w' ⟨rfl, rfl⟩) | (go_at_call 76; refine (within_any _ _ _ _).mono ?_; rintro e w' ⟨rfl, rfl⟩))
  go_ret
  exact ⟨⟨false, rfl, ⟨fun h => (by cases h), fun h => by have := h.2.1; rw [q2] at this; cases this⟩⟩, hb0.out⟩
 ·
  go_enter Tryz.func87, Tryz.ntmps87
  go_wp2_with (first | (go_at_call 74; refine (implName_any _ _ hb).mono ?_; rintro e w' ⟨rfl, rfl⟩) | (go_at_call 76; refine (within_any _ _ _ _).mono ?_; rintro e w' ⟨rfl, rfl⟩))
  refine (W.implWantsOk g 0 ws _ (HR.out.keep hg hb0.out) (Nat.lt_of_lt_of_le hg hb0.out.size) HF.out hl).mono ?_
  rintro e w1 ⟨⟨q, rfl, k⟩, c⟩
  have K : Hid _ := k
  have B1 : Hid _ := bl_trans hb0.out c
  clear k c
  go_wp2
  go_ret
  exact ⟨⟨q, rfl, ⟨fun h => ⟨q1, q2, K.out.1 h⟩, fun h => K.out.2 h.2.2⟩⟩, B1.out⟩
open Classical in
noncomputable def fineB (r : PlaceD) : Bool := decide r.fine
theorem fineB_iff (r : PlaceD) : fineB r = true ↔ r.fine := by
 classical
 unfold fineB
 exact decide_eq_true_iff
theorem fineB_of {r : PlaceD} {q : Bool} (k : q = true ↔ r.fine) : q = fineB r := by
 have h := k.trans (fineB_iff r).symm
 cases q <;> cases hf : fineB r <;> simp_all
theorem placeOk_any (r : PlaceD) (w : World) (hk : r.blk 0 w) (hb : r.b.size ≤ maxLen) (hfit : ∀ q ∈ r.ws, q.fits) (hl : r.ws.length ≤ 1048576) :
  Calls Tryz.prog 87 #[.agg #[.string r.b, .int .i64 r.s, .slice r.a r.ws.length r.c]] w fun e w' => e = .returned (.bool (fineB r)) ∧ Below w.heap.size w w' := by
 obtain ⟨b, s, a, c, ws⟩ := r
 obtain ⟨g, e1, e2, -, h3, h4⟩ := hk
 simp only at e1 e2 hb hfit hl h4
 subst e1 e2
 refine (placeOk_q b s g ws w hb h3 h4 hfit hl).mono ?_
 rintro e w' ⟨⟨q, rfl, k⟩, c⟩
 refine ⟨?_, c⟩
 have : q = fineB ⟨b, s, some ⟨g, 0, none⟩, ws.length, ws⟩ := fineB_of k
 rw [this]
set_option maxRecDepth 4000 in
set_option maxHeartbeats 1000000 in
theorem placesOk_any (t : Int) (gs : List G.GrantD) (ps : List PlaceD) (b1 b2 : Nat) (w : World) (hA : LandAt w gs ps b1 b2) (hF : Fit gs ps) :
  Calls Tryz.prog 65 #[.agg #[.int .i64 t, .slice (some ⟨b1, 0, none⟩) gs.length gs.length, .slice (some ⟨b2, 0, none⟩) ps.length ps.length]] w fun e w' => (∃ q : Bool, e = .returned (.bool q) ∧ SaysP q ps) ∧ Below w.heap.size w w' := by
 have HA : Hid (LandAt w gs ps b1 b2) := hA
 have HF : Hid (Fit gs ps) := hF
 have hpl := hF.pl
 clear hA hF
 by_cases h4 : ps.length ≤ 4
 ·
  have hi4 : (ps.length : Int) ≤ 4 := by omega
  go_enter Tryz.func65, Tryz.ntmps65
  go_wp2_with fail
  have hb0 : Below w.heap.size w (w.alloc (.cells #[.int .i64 t, .slice (some ⟨b1, 0, none⟩) gs.length gs.length, .slice (some ⟨b2, 0, none⟩) ps.length ps.length] 34)) := bl_alloc (Below.refl _ _) _
  refine (ascends b2 0 ps.length ps _ (HA.out.keep hb0).p (HA.out.keep hb0).p1 hpl).mono ?_
  rintro e w1 ⟨⟨q1, rfl, k1⟩, c1⟩
  have B1 : Hid (Below w.heap.size w w1) := bl_trans hb0 c1
  have H0 : Hid _ := k1
  obtain ⟨kb, kz⟩ := ml_box c1
  clear k1 hb0 c1
  cases q1
  ·
   go_wp2
   go_ret
   exact ⟨⟨false, rfl, ⟨fun h => (by cases h), fun h => by have := H0.out.2 h.2.1; cases this⟩⟩, B1.out⟩
  ·
   have H1 : Hid _ := H0.out.1 rfl
   clear H0
   go_wp2_with fail
   refine (allOk fineB b2 0 ps.length ps w1 (HA.out.keep B1.out).p (HA.out.keep B1.out).p1 hpl (fun r hr x hx => placeOk_any r x (((HA.out.keep B1.out).k r hr).keep hx) (HF.out.p r hr).1 (HF.out.p r hr).2 (HF.out.ln r hr))).mono ?_
   rintro e w2 ⟨⟨q2, rfl, k2⟩, c2⟩
   have B2 : Hid _ := bl_trans B1.out c2
   have H2 : Hid _ := k2
   clear c2 k2 kb
   go_wp2
   go_ret
   exact ⟨⟨q2, rfl, ⟨fun h => ⟨h4, H1.out, fun p hp => (fineB_iff p).1 (H2.out.1 h p hp)⟩, fun h => H2.out.2 (fun p hp => (fineB_iff p).2 (h.2.2 p hp))⟩⟩, B2.out⟩
 ·
  have hi4 : (4 : Int) < (ps.length : Int) := by omega
  have H4 : Hid _ := h4
  clear h4
  go_enter Tryz.func65, Tryz.ntmps65
  go_wp2
  go_ret
  first
  | exact ⟨Or.inl ⟨rfl, ⟨fun h => (by cases h), fun h => absurd h.1 H4.out⟩⟩, bl_alloc (Below.refl _ _) _⟩
  | exact ⟨⟨false, rfl, ⟨fun h => (by cases h), fun h => absurd h.1 H4.out⟩⟩, bl_alloc (Below.refl _ _) _⟩
end Go.Proofs.YtefkdohkjdopeaaGreatDoor.P
namespace Go.Proofs.YtefkdohkjdopeaaGreatDoor.W
open Go.RowKit
set_option linter.unusedVariables false
set_option maxHeartbeats 1000000 in
theorem holdsDiffer2 (a : Option Addr) (cap : Nat) (ws : List WantD) (w : World) (hG : Gv w a ws) (hc : ws.length ≤ cap) (hl : ws.length ≤ 1048576) :
  Calls Tryz.prog 88 #[.slice a ws.length cap] w fun e w' => (∃ q : Bool, e = .returned (.bool q) ∧ (q = true ↔ Diff ws ws.length)) ∧ Below w.heap.size w w' := by
 go_enter Tryz.func88, Tryz.ntmps88
 go_wp2
 go_loopw [9] (fun i wx => ∃ (k : Nat), k ≤ ws.length ∧ i = .int .i64 k ∧ Hid (Diff ws k) ∧ Below w.heap.size w wx) (fun i _ => ws.length - (intOf i).toNat)
 case atStart => exact ⟨0, Nat.zero_le _, rfl, fun j r h => by omega, Below.refl _ _⟩
 case round =>
  obtain ⟨k, hk, rfl, Ha, hB⟩ := hrel
  by_cases hlt : k < ws.length
  ·
   obtain ⟨b, rfl, l1, hR⟩ := hG.resolve_left (fun h => by rw [h] at hlt; simp at hlt)
   have hkc : (k : Int) ≤ (cap : Int) := by omega
   obtain ⟨r, hr⟩ : ∃ r, ws[k]? = some r := ⟨ws[k], List.getElem?_eq_getElem hlt⟩
   have Hr : Hid _ := hr
   clear hr
   have i0 : (0 : Int) ≤ (k : Int) := by omega
   have i1 : (k : Int) ≤ (ws.length : Int) := by omega
   obtain ⟨c0, c1, c2, c3, c4, c5, c6⟩ := (hR.keep l1 hB).at Hr.out
   simp only [Nat.zero_add] at c0 c1 c2 c3 c4 c5 c6
   obtain ⟨wo, rfl⟩ : ∃ wo : World, wo = wr := ⟨_, rfl⟩
   go_wp2_with fail
   clear c0 c1 c2 c3 c4 c5 c6
   go_loopw [18] (fun j wx => ∃ (n : Nat), n ≤ k ∧ j = .int .i64 n ∧ Hid (NoneOf ws r n) ∧ Below (wo.alloc (.cells #[.string r.c, .int .i64 r.v, .string r.h, .int .i64 r.p, .int .i64 r.s, .int .i64 r.d, .int .i64 r.g] 94)).heap.size (wo.alloc (.cells #[.string r.c, .int .i64 r.v, .string r.h, .int .i64 r.p, .int .i64 r.s, .int .i64 r.d, .int .i64 r.g] 94)) wx) (fun j _ => k - (intOf j).toNat)
   case atStart => exact ⟨0, Nat.zero_le _, rfl, fun i q h => by omega, Below.refl _ _⟩
   case round =>
    obtain ⟨n, hn, rfl, Hn, hBn⟩ := hrel
    have bo : Below w.heap.size w wr := bl_trans (bl_trans hB (bl_alloc (Below.refl _ _) _)) hBn
    by_cases hnl : n < k
    ·
     obtain ⟨t, ht⟩ : ∃ t, ws[n]? = some t := ⟨ws[n], List.getElem?_eq_getElem (by omega)⟩
     have Ht : Hid _ := ht
     clear ht
     have j0 : (0 : Int) ≤ (n : Int) := by omega
     have j1 : (n : Int) < (k : Int) := by omega
     obtain ⟨c0, c1, c2, c3, c4, c5, c6⟩ := (hR.keep l1 bo).at Ht.out
     simp only [Nat.zero_add] at c0 c1 c2 c3 c4 c5 c6
     have hkb := box_keep hBn
     have hzb := boxlt hBn
     cases he : r.h.toList.isEmpty
     ·
      cases hcl : (t.h.toList == r.h.toList)
      ·
       go_wp2
       exact ⟨⟨n + 1, by omega, by go_num, NoneOf.step Hn.out Ht.out (by simp [clash, he, hcl]), bl_trans hBn (bl_alloc (Below.refl _ _) _)⟩, by simp [intOf]; omega⟩
      ·
       go_wp2
       go_ret
       exact ⟨⟨false, rfl, ⟨fun h => (by cases h), fun h => by have := h k r hlt Hr.out n t hnl Ht.out; simp [clash, he, hcl] at this⟩⟩, bl_alloc bo _⟩
     ·
      go_wp2
      exact ⟨⟨n + 1, by omega, by go_num, NoneOf.step Hn.out Ht.out (by simp [clash, he]), bl_trans hBn (bl_alloc (Below.refl _ _) _)⟩, by simp [intOf]; omega⟩
    ·
     have hne : n = k := by omega
     subst hne
     go_wp2
     exact ⟨⟨n + 1, by omega, by go_num, Ha.out.step Hr.out Hn.out, bo⟩, by simp [intOf]; omega⟩
  ·
   go_wp2
   go_ret
   exact ⟨⟨true, rfl, ⟨fun _ j r hj hr => Ha.out j r (by omega) hr, fun _ => rfl⟩⟩, hB⟩
end Go.Proofs.YtefkdohkjdopeaaGreatDoor.W
namespace Go.Proofs.YtefkdohkjdopeaaGreatDoor.P
open Go.RowKit
set_option linter.unusedVariables false
def SaysH (q : Bool) (ps : List PlaceD) : Prop := q = true ↔ W.Diff (ps.flatMap (·.ws)) (ps.flatMap (·.ws)).length
theorem flat_len (ps : List PlaceD) (h : ∀ p ∈ ps, p.ws.length ≤ 10) : (ps.flatMap (·.ws)).length ≤ ps.length * 10 := by
 induction ps with
 | nil => simp
 | cons p ps ih =>
  rw [List.flatMap_cons, List.length_append, List.length_cons]
  have h1 := h p (List.mem_cons_self ..)
  have h2 := ih (fun q hq => h q (List.mem_cons_of_mem _ hq))
  omega
theorem flatW_append (xs ys : List W.WantD) : W.flatR (xs ++ ys) = W.flatR xs ++ W.flatR ys := by simp [W.flatR]
theorem flat_step {ps : List PlaceD} {k : Nat} {p : PlaceD} (hp : ps[k]? = some p) : (ps.take (k + 1)).flatMap (·.ws) = (ps.take k).flatMap (·.ws) ++ p.ws := by
 have hlt : k < ps.length := (List.getElem?_eq_some_iff.1 hp).1
 have he : ps[k] = p := by rw [List.getElem?_eq_getElem hlt] at hp; exact Option.some.inj hp
 rw [List.take_succ_eq_append_getElem hlt, List.flatMap_append, he]
 simp
theorem sl_gv {w : World} {v : Value} {ws : List W.WantD} {B : Nat} (h : w.ownsRow B 94 7 v ws.length (W.flatR ws)) : ∃ a c, v = .slice a ws.length c ∧ ws.length ≤ c ∧ W.Gv w a ws := by
 have hs : W.Sl w v ws B := W.Sl.of_owns h
 rcases h.2 with ⟨h1, h2⟩ | ⟨g, cap, cur, h1, -, -, h4, -⟩
 ·
  exact ⟨none, 0, by rw [h2]; exact h1, by omega, Or.inl (List.eq_nil_of_length_eq_zero h2)⟩
 ·
  refine ⟨_, cap, h1, h4, ?_⟩
  rcases hs with ⟨-, h⟩ | ⟨g', cap', e, h1', h2', h3', h4'⟩
  ·
   exact Or.inl h
  ·
   rw [h1] at e; cases e; exact Or.inr ⟨g, rfl, h2', h3'⟩
set_option maxRecDepth 4000 in
set_option maxHeartbeats 1000000 in
theorem holdApart_any (t : Int) (gs : List G.GrantD) (ps : List PlaceD) (b1 b2 : Nat) (w : World) (hA : LandAt w gs ps b1 b2) (hF : Fit gs ps) (h4 : ps.length ≤ 4) (h10 : ∀ p ∈ ps, p.ws.length ≤ 10) :
  Calls Tryz.prog 66 #[.agg #[.int .i64 t, .slice (some ⟨b1, 0, none⟩) gs.length gs.length, .slice (some ⟨b2, 0, none⟩) ps.length ps.length]] w fun e w' => (∃ q : Bool, e = .returned (.bool q) ∧ SaysH q ps) ∧ Below w.heap.size w w' := by
 have HA : Hid (LandAt w gs ps b1 b2) := hA
 have H10 : Hid _ := h10
 obtain ⟨i0, hi, hz0, hz1, hz2⟩ := info_parts W.infoR
 clear hA hF h10
 go_enter Tryz.func66, Tryz.ntmps66
 go_wp2
 go_loopw [3, 9] (fun v i wx => ∃ (k : Nat), k ≤ ps.length ∧ i = .int .i64 k ∧ wx.ownsRow (w.heap.size + 1) 94 7 v ((ps.take k).flatMap (·.ws)).length (W.flatR ((ps.take k).flatMap (·.ws))) ∧ Below (w.alloc (.cells #[.int .i64 t, .slice (some ⟨b1, 0, none⟩) gs.length gs.length, .slice (some ⟨b2, 0, none⟩) ps.length ps.length] 34)).heap.size (w.alloc (.cells #[.int .i64 t, .slice (some ⟨b1, 0, none⟩) gs.length gs.length, .slice (some ⟨b2, 0, none⟩) ps.length ps.length] 34)) wx) (fun _ i _ => ps.length - (intOf i).toNat)
 case atStart => exact ⟨0, Nat.zero_le _, rfl, World.ownsRow_nil _ _ _ _, Below.refl _ _⟩
 case round =>
  obtain ⟨k, hk, rfl, hown, hB⟩ := hrel
  by_cases hlt : k < ps.length
  ·
   obtain ⟨p, hp⟩ : ∃ p, ps[k]? = some p := ⟨ps[k], List.getElem?_eq_getElem hlt⟩
   have Hp : Hid _ := hp
   have hA1 := HA.out.keep (bl_trans (bl_alloc (Below.refl _ _) _) hB)
   obtain ⟨c0, c1, c2⟩ := hA1.p.at hp
   simp only [Nat.zero_add] at c0 c1 c2
   obtain ⟨g, e1, e2, -, hg, hrw⟩ := hA1.k p (List.mem_of_getElem? hp)
   have hw10 : p.ws.length ≤ 10 := H10.out p (List.mem_of_getElem? hp)
   rw [e1, e2] at c2
   obtain ⟨n, hn⟩ : ∃ n, n = ((ps.take k).flatMap (·.ws)).length := ⟨_, rfl⟩
   obtain ⟨xs, hxs⟩ : ∃ xs, xs = W.flatR ((ps.take k).flatMap (·.ws)) := ⟨_, rfl⟩
   have hnk : n ≤ 40 := by
    rw [hn]
    have h1 := flat_len (ps.take k) (fun q hq => H10.out q (List.mem_of_mem_take hq))
    have h2 : (ps.take k).length ≤ 4 := by rw [List.length_take]; omega
    omega
   rw [← hn, ← hxs] at hown
   have Ho : Hid (wr.ownsRow (w.heap.size + 1) 94 7 _ n xs) := hown
   have Hn : Hid _ := hn
   have Hx : Hid _ := hxs
   have Hrw : Hid (W.RowsAt wr g 0 p.ws) := hrw
   have hz : w.heap.size + 1 ≤ wr.heap.size := by have := hB.size; simpa using this
   clear hp hown hn hxs hrw hA1
   go_wp2_with (at_builtin; refine wpList_append_own _ rfl _ _ 39 rfl (w.heap.size + 1) 94 i0 _ 7 72 Tryz.underlying39 hi hz0 hz1 hz2 rfl (by decide) _ n _ rfl (by exact owns_below Ho.out (by repeat (first | exact Below.refl _ _ | refine bl_alloc ?_ _))) ⟨g, 0, none⟩ p.ws.length p.ws.length (W.flatR p.ws) (by first | rfl | simp [Act.eval]) (W.flatR_len _) (W.flat_cells (Hrw.out.keep hg (by repeat (first | exact Below.refl _ _ | refine bl_alloc ?_ _)))) (W.flatR_one _) (by unfold maxLen; omega) (by omega) (by simp; omega) ?_; intro v' w2 ho2 hg2 hn2)
   refine ⟨⟨k + 1, by omega, by go_num, ?_, Below.grown (by repeat (first | exact hB | refine bl_alloc ?_ _)) hg2 (by simp; omega) (fun j hj => by have := owns_ge Ho.out j hj; simpa using this)⟩, by simp [intOf]; omega⟩
   rw [flat_step Hp.out, List.length_append, flatW_append, ← Hn.out, ← Hx.out]
   exact ho2
  ·
   have hk' : k = ps.length := by omega
   subst hk'
   rw [List.take_of_length_le (Nat.le_refl _)] at hown
   obtain ⟨a, c, rfl, hc, hG⟩ := sl_gv hown
   have HG : Hid _ := hG
   have hlen : (ps.flatMap (·.ws)).length ≤ 1048576 := by
    have h1 := flat_len ps H10.out
    omega
   obtain ⟨l, hl⟩ : ∃ l, l = ps.flatMap (·.ws) := ⟨_, rfl⟩
   have Hl : Hid _ := hl
   rw [← hl] at hc hlen ⊢
   have HG2 : Hid (W.Gv wr a l) := by rw [hl]; exact HG.out
   have HB : Hid (Below w.heap.size w wr) := bl_trans (bl_alloc (Below.refl _ _) _) hB
   clear hl hown hG HG hB
   go_wp2_with fail
   refine (W.holdsDiffer2 a c l _ HG2.out hc hlen).mono ?_
   rintro e w3 ⟨⟨q, rfl, kq⟩, c3⟩
   have K : Hid _ := kq
   have B3 : Hid (Below w.heap.size w w3) := bl_trans HB.out c3
   clear kq c3
   go_wp2
   go_ret
   exact ⟨⟨q, rfl, by unfold SaysH; rw [← Hl.out]; exact K.out⟩, B3.out⟩
end Go.Proofs.YtefkdohkjdopeaaGreatDoor.P
namespace Go.Proofs.YtefkdohkjdopeaaGreatDoor
open Go.RowKit
set_option linter.unusedVariables false
theorem W.Src.gv {w : World} {a : Option Addr} {c : Nat} {l : List W.WantD} (h : W.Src w a c l) : W.Gv w a l := by
 rcases h with ⟨-, -, h⟩ | ⟨g, h1, h2, h3⟩
 ·
  exact Or.inl h
 ·
  exact Or.inr ⟨g, h1, h2, h3⟩
end Go.Proofs.YtefkdohkjdopeaaGreatDoor
