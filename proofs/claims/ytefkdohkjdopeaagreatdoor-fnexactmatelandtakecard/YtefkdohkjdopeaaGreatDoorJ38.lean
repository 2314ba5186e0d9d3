import Derived.Test.YtefkdohkjdopeaaGreatDoorJ19
import Derived.Test.YtefkdohkjdopeaaGreatDoorJ37
import Derived.Test.YtefkdohkjdopeaaGreatDoorJ33
namespace Go.Proofs.YtefkdohkjdopeaaGreatDoor
open Go.RowKit
set_option linter.unusedVariables false
theorem eqG_zero (a1 a2 : Option Addr) (c1 c2 : Nat) (w : World) :
  Calls Tryz.prog 34 #[.slice a1 0 c1, .slice a2 0 c2] w fun e w' => e = .returned (.bool true) ∧ w' = w := by
 go_enter Tryz.func34, Tryz.ntmps34
 go_wp2
 refine wp_loop_rounds 1 ?_
 rw [rounds_succ]
 go_wp2
 go_ret
 exact ⟨rfl, rfl⟩
theorem eqG_sl {w : World} {v1 v2 : Value} {l : List G.GrantD} {B1 B2 : Nat} (h1 : G.Sl w v1 l B1) (h2 : G.Sl w v2 l B2) (hl : l.length ≤ 1048576) :
  Calls Tryz.prog 34 #[v1, v2] w fun e w' => e = .returned (.bool true) ∧ Below w.heap.size w w' := by
 have z : ∀ (a1 a2 : Option Addr) (c1 c2 : Nat), Calls Tryz.prog 34 #[.slice a1 0 c1, .slice a2 0 c2] w fun e w' => e = .returned (.bool true) ∧ Below w.heap.size w w' := fun a1 a2 c1 c2 => (eqG_zero a1 a2 c1 c2 w).mono (by rintro e w' ⟨rfl, rfl⟩; exact ⟨rfl, Below.refl _ _⟩)
 rcases h1 with ⟨rfl, rfl⟩ | ⟨g1, cap1, rfl, -, k2, k3, -⟩
 ·
  rcases h2 with ⟨rfl, -⟩ | ⟨g2, cap2, rfl, -, m2, m3, -⟩
  ·
   exact z _ _ _ _
  ·
   exact z _ _ _ _
 ·
  rcases h2 with ⟨rfl, rfl⟩ | ⟨g2, cap2, rfl, -, m2, m3, -⟩
  ·
   exact z _ _ _ _
  ·
   exact G.eqGrantS g1 0 cap1 g2 0 cap2 l w k3 m3 k2 m2 hl
theorem P.Like.get2 {ps qs : List P.PlaceD} (h : P.Like ps qs) {k : Nat} {q : P.PlaceD} (hq : ps[k]? = some q) : ∃ r, qs[k]? = some r ∧ (r.b = q.b ∧ r.s = q.s ∧ r.ws = q.ws) := by
 have hk : k < qs.length := by rw [← h.len]; exact (List.getElem?_eq_some_iff.1 hq).1
 refine ⟨qs[k], List.getElem?_eq_getElem hk, ?_⟩
 have h1 : (ps.map P.PlaceD.says)[k]? = (qs.map P.PlaceD.says)[k]? := by rw [h]
 rw [List.getElem?_map, List.getElem?_map, hq, List.getElem?_eq_getElem hk] at h1
 have h2 : P.PlaceD.says q = P.PlaceD.says qs[k] := by simpa using h1
 simp only [P.PlaceD.says, Prod.mk.injEq] at h2
 obtain ⟨e0, e1, e2⟩ := h2
 exact ⟨e0.symm, e1.symm, e2.symm⟩
theorem eqPl_zero (a1 a2 : Option Addr) (c1 c2 : Nat) (w : World) :
  Calls Tryz.prog 35 #[.slice a1 0 c1, .slice a2 0 c2] w fun e w' => e = .returned (.bool true) ∧ w' = w := by
 go_enter Tryz.func35, Tryz.ntmps35
 go_wp2
 refine wp_loop_rounds 1 ?_
 rw [rounds_succ]
 go_wp2
 go_ret
 exact ⟨rfl, rfl⟩
set_option maxHeartbeats 1000000 in
theorem eqPl_one (q : P.PlaceD) (v1 v2 : Value) (B1 B2 : Nat) (w : World) (h1 : W.Sl w v1 q.ws B1) (h2 : W.Sl w v2 q.ws B2) (hl : q.ws.length ≤ 1048576) :
  Calls Tryz.prog 59 #[.agg #[.string q.b, .int .i64 q.s, v1], .agg #[.string q.b, .int .i64 q.s, v2]] w fun e w' => e = .returned (.bool true) ∧ Below w.heap.size w w' := by
 have hb : Below w.heap.size w ((w.alloc (.cells #[.string q.b, .int .i64 q.s, v1] 90)).alloc (.cells #[.string q.b, .int .i64 q.s, v2] 90)) := bl_alloc (bl_alloc (Below.refl _ _) _) _
 have HB : Hid (Below w.heap.size w ((w.alloc (.cells #[.string q.b, .int .i64 q.s, v1] 90)).alloc (.cells #[.string q.b, .int .i64 q.s, v2] 90))) := hb
 have H1 : Hid (W.Sl _ v1 q.ws B1) := h1.keep hb
 have H2 : Hid (W.Sl _ v2 q.ws B2) := h2.keep hb
 have BX : Hid (∀ y, Below ((w.alloc (.cells #[.string q.b, .int .i64 q.s, v1] 90)).alloc (.cells #[.string q.b, .int .i64 q.s, v2] 90)).heap.size ((w.alloc (.cells #[.string q.b, .int .i64 q.s, v1] 90)).alloc (.cells #[.string q.b, .int .i64 q.s, v2] 90)) y → (∀ k, y.cell? ⟨w.heap.size, k, none⟩ = (#[.string q.b, .int .i64 q.s, v1] : Array Value)[k]?) ∧ (∀ k, y.cell? ⟨w.heap.size + 1, k, none⟩ = (#[.string q.b, .int .i64 q.s, v2] : Array Value)[k]?)) := by
  intro y hy
  constructor
  ·
   intro k
   rw [hy.cell (p := ⟨w.heap.size, k, none⟩) (by simp; omega)]
   simp [go_sem]
  ·
   intro k
   rw [hy.cell (p := ⟨w.heap.size + 1, k, none⟩) (by simp)]
   simp [go_sem]
 clear hb h1 h2
 obtain ⟨xb, xs, xa, xc, xws⟩ := q
 simp only at *
 go_enter Tryz.func59, Tryz.ntmps59
 go_wp2_with fail
 refine (W.eq_sl H1.out H2.out hl).mono ?_
 rintro e w1 ⟨rfl, c⟩
 have C : Hid (Below w.heap.size w w1) := bl_trans HB.out c
 obtain ⟨x1, x2⟩ := BX.out w1 c
 clear c
 go_wp2
 go_ret
 exact ⟨rfl, C.out⟩
theorem bothPl {x w' : World} {g1 n1 c1 g2 n2 c2 B1 B2 k : Nat} {ps qs : List P.PlaceD} {q : P.PlaceD} {a' : Option Addr} {c' : Nat} (h1 : PlO x B1 ps (.slice (some ⟨g1, 0, none⟩) n1 c1)) (h2 : PlO x B2 qs (.slice (some ⟨g2, 0, none⟩) n2 c2)) (hq : ps[k]? = some q) (hr : ∃ r, qs[k]? = some r ∧ (r.b = q.b ∧ r.s = q.s ∧ r.ws = q.ws) ∧ r.a = a' ∧ r.c = c') (hb : Below x.heap.size x w') :
  Below x.heap.size x w' ∧ (w'.cell? ⟨g1, k * 3, none⟩ = some (.string q.b) ∧ w'.cell? ⟨g1, k * 3 + 1, none⟩ = some (.int .i64 q.s) ∧ w'.cell? ⟨g1, k * 3 + 2, none⟩ = some (.slice q.a q.ws.length q.c)) ∧ (w'.cell? ⟨g2, k * 3, none⟩ = some (.string q.b) ∧ w'.cell? ⟨g2, k * 3 + 1, none⟩ = some (.int .i64 q.s) ∧ w'.cell? ⟨g2, k * 3 + 2, none⟩ = some (.slice a' q.ws.length c')) := by
 obtain ⟨r, hr, ⟨e0, e1, e2⟩, ea, ec⟩ := hr
 obtain ⟨-, hc, -⟩ := rowPl (h1.keep hb) hq
 obtain ⟨-, hd, -⟩ := rowPl (h2.keep hb) hr
 rw [e0, e1, e2, ea, ec] at hd
 exact ⟨hb, hc, hd⟩
set_option maxRecDepth 4000 in
set_option maxHeartbeats 2000000 in
theorem eqPl_at (g1 c1 g2 c2 B1 B2 : Nat) (ps qs : List P.PlaceD) (w : World) (h1 : PlO w B1 ps (.slice (some ⟨g1, 0, none⟩) ps.length c1)) (h2 : PlO w B2 qs (.slice (some ⟨g2, 0, none⟩) qs.length c2)) (hs : P.Like ps qs) (hl : ps.length ≤ 1048576) (hL : ∀ q ∈ ps, q.ws.length ≤ 1048576) :
  Calls Tryz.prog 35 #[.slice (some ⟨g1, 0, none⟩) ps.length c1, .slice (some ⟨g2, 0, none⟩) qs.length c2] w fun e w' => e = .returned (.bool true) ∧ Below w.heap.size w w' := by
 have H1 : Hid (PlO w B1 ps (.slice (some ⟨g1, 0, none⟩) ps.length c1)) := h1
 have H2 : Hid (PlO w B2 qs (.slice (some ⟨g2, 0, none⟩) ps.length c2)) := by rw [hs.len]; exact h2
 have HS : Hid (P.Like ps qs) := hs
 have HL : Hid _ := hL
 rw [← P.Like.len hs]
 clear h1 h2 hs hL
 go_enter Tryz.func35, Tryz.ntmps35
 go_wp2
 go_loopw [5] (fun i wx => ∃ (k : Nat), k ≤ ps.length ∧ i = .int .i64 k ∧ Below w.heap.size w wx) (fun i _ => ps.length - (intOf i).toNat)
 case atStart => exact ⟨0, Nat.zero_le _, rfl, Below.refl _ _⟩
 case round =>
  obtain ⟨k, hk, rfl, hB⟩ := hrel
  by_cases hlt : k < ps.length
  ·
   obtain ⟨q, hq⟩ : ∃ q, ps[k]? = some q := ⟨ps[k], List.getElem?_eq_getElem hlt⟩
   obtain ⟨r, hr, he⟩ := HS.out.get2 hq
   have HQ : Hid (ps[k]? = some q) := hq
   obtain ⟨a', c', hac⟩ : ∃ a' c', r.a = a' ∧ r.c = c' := ⟨_, _, rfl, rfl⟩
   have hew : r.ws = q.ws := he.2.2
   have HR : Hid (∃ r, qs[k]? = some r ∧ (r.b = q.b ∧ r.s = q.s ∧ r.ws = q.ws) ∧ r.a = a' ∧ r.c = c') := ⟨r, hr, he, hac⟩
   have Q1 : Hid (PlO wr B1 ps (.slice (some ⟨g1, 0, none⟩) ps.length c1)) := H1.out.keep hB
   have Q2 : Hid (PlO wr B2 qs (.slice (some ⟨g2, 0, none⟩) ps.length c2)) := H2.out.keep hB
   have S1 : Hid (W.Sl wr (.slice q.a q.ws.length q.c) q.ws B1) := Q1.out.k k q hq
   have S2 : Hid (W.Sl wr (.slice a' q.ws.length c') q.ws B2) := by
    have := Q2.out.k k r hr
    rw [hac.1, hac.2, hew] at this
    exact this
   have hlp : q.ws.length ≤ 1048576 := HL.out q (List.mem_of_getElem? hq)
   have BB : Hid (∀ w', Below wr.heap.size wr w' → Below wr.heap.size wr w' ∧ (w'.cell? ⟨g1, k * 3, none⟩ = some (.string q.b) ∧ w'.cell? ⟨g1, k * 3 + 1, none⟩ = some (.int .i64 q.s) ∧ w'.cell? ⟨g1, k * 3 + 2, none⟩ = some (.slice q.a q.ws.length q.c)) ∧ (w'.cell? ⟨g2, k * 3, none⟩ = some (.string q.b) ∧ w'.cell? ⟨g2, k * 3 + 1, none⟩ = some (.int .i64 q.s) ∧ w'.cell? ⟨g2, k * 3 + 2, none⟩ = some (.slice a' q.ws.length c'))) := fun w' hb => bothPl Q1.out Q2.out HQ.out HR.out hb
   clear hq hr he hac hew
   have i0 : (0 : Int) ≤ (k : Int) := by omega
   have i1 : (k : Int) < (ps.length : Int) := by omega
   obtain ⟨xb, xs, xa, xc, xws⟩ := q
   simp only at S1 S2 hlp BB
   go_wp2_with fail
   go_region_held3 (fun w' => Below wr.heap.size wr w' ∧ (w'.cell? ⟨g1, k * 3, none⟩ = some (.string xb) ∧ w'.cell? ⟨g1, k * 3 + 1, none⟩ = some (.int .i64 xs) ∧ w'.cell? ⟨g1, k * 3 + 2, none⟩ = some (.slice xa xws.length xc)) ∧ (w'.cell? ⟨g2, k * 3, none⟩ = some (.string xb) ∧ w'.cell? ⟨g2, k * 3 + 1, none⟩ = some (.int .i64 xs) ∧ w'.cell? ⟨g2, k * 3 + 2, none⟩ = some (.slice a' xws.length c')))
    (first | exact BB.out _ (bl_drew (Below.refl _ _)) | exact BB.out _ (bl_trans (bl_drew (Below.refl _ _)) hb))
    (first | (go_at_call 59; refine (eqPl_one ⟨xb, xs, xa, xc, xws⟩ _ _ B1 B2 _ (S1.out.keep (bl_drew (Below.refl _ _))) (S2.out.keep (bl_drew (Below.refl _ _))) hlp).mono ?_; rintro e w' ⟨rfl, hb⟩))
   go_wp2
   exact ⟨⟨k + 1, by omega, by go_num, bl_trans hB (bl_trans (bl_drew (Below.refl _ _)) hb)⟩, by simp [intOf]; omega⟩
  ·
   go_wp2
   go_ret
   exact ⟨rfl, hB⟩
theorem eqPl_sl {w : World} {v1 v2 : Value} {ps qs : List P.PlaceD} {B1 B2 : Nat} (h1 : PlO w B1 ps v1) (h2 : PlO w B2 qs v2) (hs : P.Like ps qs) (hl : ps.length ≤ 1048576) (hL : ∀ q ∈ ps, q.ws.length ≤ 1048576) :
  Calls Tryz.prog 35 #[v1, v2] w fun e w' => e = .returned (.bool true) ∧ Below w.heap.size w w' := by
 have z : ∀ (a1 a2 : Option Addr) (c1 c2 : Nat), Calls Tryz.prog 35 #[.slice a1 0 c1, .slice a2 0 c2] w fun e w' => e = .returned (.bool true) ∧ Below w.heap.size w w' := fun a1 a2 c1 c2 => (eqPl_zero a1 a2 c1 c2 w).mono (by rintro e w' ⟨rfl, rfl⟩; exact ⟨rfl, Below.refl _ _⟩)
 have hlen := hs.len
 have o1 := h1.o
 have o2 := h2.o
 rcases o1 with ⟨rfl, hn⟩ | ⟨g1, cap1, hv1, -⟩
 ·
  have e1 : ps = [] := List.map_eq_nil_iff.1 hn
  subst e1
  have e2 : qs = [] := List.length_eq_zero_iff.1 hlen.symm
  subst e2
  rcases o2 with ⟨rfl, -⟩ | ⟨g2, cap2, hv2, -⟩
  ·
   exact z _ _ _ _
  ·
   subst hv2
   exact z _ _ _ _
 ·
  rcases o2 with ⟨rfl, hn⟩ | ⟨g2, cap2, hv2, -⟩
  ·
   have e2 : qs = [] := List.map_eq_nil_iff.1 hn
   subst e2
   have e1 : ps = [] := List.length_eq_zero_iff.1 hlen
   subst e1
   subst hv1
   exact z _ _ _ _
  ·
   rw [List.length_map] at hv1 hv2
   subst hv1 hv2
   exact eqPl_at g1 cap1 g2 cap2 B1 B2 ps qs w h1 h2 hs hl hL
theorem ld_boxes {w w' : World} {t : Int} {v1 v2 u1 u2 : Value} (hb : Below ((w.alloc (.cells #[.int .i64 t, v1, v2] 34)).alloc (.cells #[.int .i64 t, u1, u2] 34)).heap.size ((w.alloc (.cells #[.int .i64 t, v1, v2] 34)).alloc (.cells #[.int .i64 t, u1, u2] 34)) w') :
  (∀ k, w'.cell? ⟨w.heap.size, k, none⟩ = (#[.int .i64 t, v1, v2] : Array Value)[k]?) ∧ (∀ k, w'.cell? ⟨w.heap.size + 1, k, none⟩ = (#[.int .i64 t, u1, u2] : Array Value)[k]?) := by
 constructor
 ·
  intro k
  rw [hb.cell (p := ⟨w.heap.size, k, none⟩) (by simp; omega)]
  simp [go_sem]
 ·
  intro k
  rw [hb.cell (p := ⟨w.heap.size + 1, k, none⟩) (by simp)]
  simp [go_sem]
set_option maxRecDepth 4000 in
set_option maxHeartbeats 2000000 in
theorem eqLand_o (t : Int) (gs : List G.GrantD) (ps qs : List P.PlaceD) (v1 v2 u1 u2 : Value) (B1 B2 : Nat) (w : World) (h1 : LdO w B1 gs ps v1 v2) (h2 : LdO w B2 gs qs u1 u2) (hs : P.Like ps qs) (l1 : gs.length ≤ 1048576) (l2 : ps.length ≤ 1048576) (hL : ∀ q ∈ ps, q.ws.length ≤ 1048576) :
  Calls Tryz.prog 10 #[.agg #[.int .i64 t, v1, v2], .agg #[.int .i64 t, u1, u2]] w fun e w' => e = .returned (.bool true) ∧ Below w.heap.size w w' := by
 obtain ⟨W, hW⟩ : ∃ W, W = (w.alloc (.cells #[.int .i64 t, v1, v2] 34)).alloc (.cells #[.int .i64 t, u1, u2] 34) := ⟨_, rfl⟩
 have HW : Hid (W = (w.alloc (.cells #[.int .i64 t, v1, v2] 34)).alloc (.cells #[.int .i64 t, u1, u2] 34)) := hW
 have Hb0 : Hid (Below w.heap.size w W) := by rw [hW]; exact bl_alloc (bl_alloc (Below.refl _ _) _) _
 have BX : Hid (∀ y, Below W.heap.size W y → (∀ k, y.cell? ⟨w.heap.size, k, none⟩ = (#[.int .i64 t, v1, v2] : Array Value)[k]?) ∧ (∀ k, y.cell? ⟨w.heap.size + 1, k, none⟩ = (#[.int .i64 t, u1, u2] : Array Value)[k]?)) := by
  intro y hy
  rw [hW] at hy
  exact ld_boxes hy
 have P0 : Hid (LdO W B1 gs ps v1 v2) := h1.keep Hb0.out
 have Q0 : Hid (LdO W B2 gs qs u1 u2) := h2.keep Hb0.out
 have HS : Hid (P.Like ps qs) := hs
 have HL : Hid _ := hL
 clear h1 h2 hs hL hW
 go_enter Tryz.func10, Tryz.ntmps10
 go_wp2_with fail
 rw [← HW.out]
 refine (eqG_sl P0.out.g Q0.out.g l1).mono ?_
 rintro e w1 ⟨rfl, c1⟩
 have D1 : Hid (Below W.heap.size W w1) := c1
 clear c1
 obtain ⟨ka1, kb1⟩ := BX.out w1 D1.out
 go_wp2_with fail
 refine (eqPl_sl (P0.out.keep D1.out).p (Q0.out.keep D1.out).p HS.out l2 HL.out).mono ?_
 rintro e w2 ⟨rfl, c2⟩
 have D2 : Hid (Below w.heap.size w w2) := bl_trans Hb0.out (bl_trans D1.out c2)
 clear c2 ka1 kb1
 go_wp2
 go_ret
 exact ⟨rfl, D2.out⟩
def markGs (k0 : Int) (gs : List G.GrantD) : List G.GrantD := markL stG mkG k0 gs gs.length
def endG (k0 : Int) (gs : List G.GrantD) : Int := foldK stG k0 gs gs.length
def markPs (k0 : Int) (qs : List P.PlaceD) : List P.PlaceD := markL stPl mkPl k0 qs qs.length
def endP (k0 : Int) (qs : List P.PlaceD) : Int := foldK stPl k0 qs qs.length
theorem endG_le (k0 : Int) (gs : List G.GrantD) : k0 ≤ endG k0 gs ∧ endG k0 gs ≤ k0 + 5 * (gs.length : Int) := foldG_bound k0 gs gs.length
theorem endP_le (k0 : Int) (qs : List P.PlaceD) (hL : ∀ q ∈ qs, q.ws.length ≤ 1048576) : k0 ≤ endP k0 qs ∧ endP k0 qs ≤ k0 + 7340034 * (qs.length : Int) := foldPl_bound k0 qs hL qs.length
theorem bs_markPs (k0 : Int) (qs : List P.PlaceD) (v : Value) : ∀ m g, PlO.bs (markL stPl mkPl k0 qs m) v g ↔ PlO.bs qs v g
 | 0, g => Iff.rfl
 | m + 1, g => by
  have ih := bs_markPs k0 qs v m g
  cases hm : qs[m]? with
  | none =>
   rw [markL_none hm]; exact ih
  | some a =>
   rw [markL_succ hm, ← ih]
   exact PlO.bs_set (q' := mkPl (foldK stPl k0 qs m) a) ((markL_old _ _ _ _ m m (Nat.le_refl _)).trans hm) rfl (W.len_marks _ _) rfl g
set_option maxRecDepth 4000 in
set_option maxHeartbeats 2000000 in
theorem markLand_o (t : Int) (gs : List G.GrantD) (qs : List P.PlaceD) (s1 s2 : Value) (B : Nat) (k0 : Int) (w : World) (h : LdO w B gs qs s1 s2) (l1 : gs.length ≤ 1048576) (l2 : qs.length ≤ 1048576) (hL : ∀ q ∈ qs, q.ws.length ≤ 1048576) (h0 : 0 ≤ k0) (h1 : k0 ≤ 1000000) :
  Calls Tryz.prog 13 #[.agg #[.int .i64 t, s1, s2], .int .i64 k0] w fun e w' => e = .returned (.int .i64 (endP (endG k0 gs) qs)) ∧ LdO w' B (markGs k0 gs) (markPs (endG k0 gs) qs) s1 s2 ∧ Off (LdO.bs qs s1 s2) w w' := by
 obtain ⟨W, hW⟩ : ∃ W, W = w.alloc (.cells #[.int .i64 t, s1, s2] 34) := ⟨_, rfl⟩
 have HW : Hid (W = w.alloc (.cells #[.int .i64 t, s1, s2] 34)) := hW
 have Hb0 : Hid (Below w.heap.size w W) := by rw [hW]; exact bl_alloc (Below.refl _ _) _
 have P0 : Hid (LdO W B gs qs s1 s2) := h.keep Hb0.out
 have Hlt : Hid (∀ g, LdO.bs qs s1 s2 g → g < w.heap.size) := fun g hg => (h.lt g hg).2
 have K0 : Hid (∀ y, Off (LdO.bs qs s1 s2) W y → ∀ j, y.cell? ⟨w.heap.size, j, none⟩ = (#[.int .i64 t, s1, s2] : Array Value)[j]?) := by
  intro y hy j
  rw [hy.cell (p := ⟨w.heap.size, j, none⟩) (by rw [hW]; simp) (fun hp => by have := Hlt.out _ hp; simp at this), hW]
  simp [go_sem]
 have eb := endG_le k0 gs
 obtain ⟨kk, hkk⟩ : ∃ kk, kk = endG k0 gs := ⟨_, rfl⟩
 rw [← hkk] at eb ⊢
 have Hkk : Hid (kk = endG k0 gs) := hkk
 have HL : Hid _ := hL
 clear h hW hL hkk
 go_enter Tryz.func13, Tryz.ntmps13
 go_wp2_with fail
 rw [← HW.out]
 refine (markG_sl gs s1 B k0 W P0.out.g l1 h0 (by omega)).mono ?_
 rintro e w1 ⟨he, m1, o1⟩
 have F1 : Hid (Off (LdO.bs qs s1 s2) W w1) := ⟨o1.os, o1.tape, o1.output, o1.size, fun k hk hn => o1.block k hk (fun e => hn (Or.inl e))⟩
 have M1 : Hid (G.Sl w1 s1 (markGs k0 gs) B) := m1
 have R1 : Hid (PlO w1 B qs s2) := P0.out.p.off o1 (fun g hg e => P0.out.gp g e hg)
 have he2 : e = .returned (.int .i64 kk) := by rw [he, Hkk.out]; rfl
 clear he m1 o1
 subst he2
 have kb := K0.out w1 F1.out
 go_wp2_with fail
 clear kb
 refine (markPl_sl qs s2 B kk w1 R1.out l2 HL.out (by omega) (by omega)).mono ?_
 rintro e w2 ⟨he, m2, o2⟩
 have F2 : Hid (Off (LdO.bs qs s1 s2) W w2) := F1.out.trans ⟨o2.os, o2.tape, o2.output, o2.size, fun k hk hn => o2.block k hk (fun e => hn (Or.inr e))⟩
 have M2 : Hid (LdO w2 B (markGs k0 gs) (markPs kk qs) s1 s2) := ⟨M1.out.off o2 (fun g hg e => P0.out.gp g hg e), m2, fun g hg e => P0.out.gp g hg ((bs_markPs kk qs s2 _ g).1 e)⟩
 obtain ⟨k3, hk3⟩ : ∃ k3, k3 = endP kk qs := ⟨_, rfl⟩
 have he2 : e = .returned (.int .i64 k3) := by rw [he, hk3]; rfl
 have Hk3 : Hid (k3 = endP kk qs) := hk3
 clear he m2 o2 hk3
 subst he2
 go_wp2
 go_ret
 exact ⟨by rw [← Hk3.out]; rfl, M2.out, (Off.of_below Hb0.out).trans F2.out⟩
set_option maxRecDepth 4000 in
set_option maxHeartbeats 2000000 in
theorem heldLand_o (t : Int) (gs : List G.GrantD) (qs : List P.PlaceD) (s1 s2 : Value) (B : Nat) (k0 : Int) (w : World) (h : LdO w B (markGs k0 gs) (markPs (endG k0 gs) qs) s1 s2) (l1 : gs.length ≤ 1048576) (l2 : qs.length ≤ 1048576) (hL : ∀ q ∈ qs, q.ws.length ≤ 1048576) (h0 : 0 ≤ k0) (h1 : k0 ≤ 1000000) :
  Calls Tryz.prog 16 #[.agg #[.int .i64 t, s1, s2], .int .i64 k0] w fun e w' => e = .returned (.int .i64 (endP (endG k0 gs) qs)) ∧ Below w.heap.size w w' := by
 obtain ⟨W, hW⟩ : ∃ W, W = w.alloc (.cells #[.int .i64 t, s1, s2] 34) := ⟨_, rfl⟩
 have HW : Hid (W = w.alloc (.cells #[.int .i64 t, s1, s2] 34)) := hW
 have Hb0 : Hid (Below w.heap.size w W) := by rw [hW]; exact bl_alloc (Below.refl _ _) _
 have P0 : Hid (LdO W B (markGs k0 gs) (markPs (endG k0 gs) qs) s1 s2) := h.keep Hb0.out
 have K0 : Hid (∀ y, Below W.heap.size W y → ∀ j, y.cell? ⟨w.heap.size, j, none⟩ = (#[.int .i64 t, s1, s2] : Array Value)[j]?) := by
  intro y hy j
  rw [hy.cell (p := ⟨w.heap.size, j, none⟩) (by rw [hW]; simp), hW]
  simp [go_sem]
 have eb := endG_le k0 gs
 obtain ⟨kk, hkk⟩ : ∃ kk, kk = endG k0 gs := ⟨_, rfl⟩
 rw [← hkk] at eb ⊢
 have Hkk : Hid (kk = endG k0 gs) := hkk
 have eb2 := endP_le kk qs hL
 obtain ⟨k3, hk3⟩ : ∃ k3, k3 = endP kk qs := ⟨_, rfl⟩
 rw [← hk3] at eb2
 have Hk3 : Hid (k3 = endP kk qs) := hk3
 have HL : Hid _ := hL
 clear h hW hL hkk hk3
 go_enter Tryz.func16, Tryz.ntmps16
 go_wp2_with fail
 rw [← HW.out]
 refine (heldG_sl gs s1 B k0 W P0.out.g l1 h0 (by omega)).mono ?_
 rintro e w1 ⟨he, c1⟩
 have he2 : e = .returned (.int .i64 kk) := by rw [he, Hkk.out]; rfl
 have D1 : Hid (Below W.heap.size W w1) := c1
 clear he c1
 subst he2
 have kb := K0.out w1 D1.out
 go_wp2_with fail
 clear kb
 have hp1 : PlO w1 B (markL stPl mkPl kk qs qs.length) s2 := by rw [Hkk.out]; exact (P0.out.keep D1.out).p
 refine (heldPl_sl qs s2 B kk w1 hp1 l2 HL.out (by omega) (by omega)).mono ?_
 rintro e w2 ⟨he, c2⟩
 have he2 : e = .returned (.int .i64 k3) := by rw [he, Hk3.out]; rfl
 have D2 : Hid (Below w.heap.size w w2) := bl_trans Hb0.out (bl_trans D1.out c2)
 clear he c2 hp1
 subst he2
 go_wp2
 go_ret
 exact ⟨by rw [← Hk3.out]; rfl, D2.out⟩
end Go.Proofs.YtefkdohkjdopeaaGreatDoor
