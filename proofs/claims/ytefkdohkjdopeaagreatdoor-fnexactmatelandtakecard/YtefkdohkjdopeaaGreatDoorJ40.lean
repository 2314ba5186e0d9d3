import Derived.Test.YtefkdohkjdopeaaGreatDoorJ38
import Derived.Test.YtefkdohkjdopeaaGreatDoorJ19
import Derived.Test.YtefkdohkjdopeaaGreatDoorJ39
namespace Go.Proofs.YtefkdohkjdopeaaGreatDoor
open Go.RowKit
set_option linter.unusedVariables false
theorem Pc.Like.len {ds es : List Pc.PcD} (h : Pc.Like ds es) : ds.length = es.length := by simpa using congrArg List.length h
theorem Pc.Like.symm {ds es : List Pc.PcD} (h : Pc.Like ds es) : Pc.Like es ds := Eq.symm h
theorem Pc.Like.get2 {ps qs : List Pc.PcD} (h : Pc.Like ps qs) {k : Nat} {q : Pc.PcD} (hq : ps[k]? = some q) : ∃ r, qs[k]? = some r ∧ (r.k = q.k ∧ r.b = q.b ∧ r.s = q.s ∧ r.ws = q.ws ∧ r.h = q.h ∧ r.p = q.p ∧ r.t = q.t) := by
 have hk : k < qs.length := by rw [← h.len]; exact (List.getElem?_eq_some_iff.1 hq).1
 refine ⟨qs[k], List.getElem?_eq_getElem hk, ?_⟩
 have h1 : (ps.map Pc.PcD.says)[k]? = (qs.map Pc.PcD.says)[k]? := by rw [h]
 rw [List.getElem?_map, List.getElem?_map, hq, List.getElem?_eq_getElem hk] at h1
 have h2 : Pc.PcD.says q = Pc.PcD.says qs[k] := by simpa using h1
 simp only [Pc.PcD.says, Prod.mk.injEq] at h2
 obtain ⟨e0, e1, e2, e3, e4, e5, e6⟩ := h2
 exact ⟨e0.symm, e1.symm, e2.symm, e3.symm, e4.symm, e5.symm, e6.symm⟩
theorem eqPc_zero (a1 a2 : Option Addr) (c1 c2 : Nat) (w : World) :
  Calls Tryz.prog 11 #[.slice a1 0 c1, .slice a2 0 c2] w fun e w' => e = .returned (.bool true) ∧ w' = w := by
 go_enter Tryz.func11, Tryz.ntmps11
 go_wp2
 refine wp_loop_rounds 1 ?_
 rw [rounds_succ]
 go_wp2
 go_ret
 exact ⟨rfl, rfl⟩
set_option maxHeartbeats 1000000 in
theorem eqPc_one (q : Pc.PcD) (v1 v2 : Value) (B1 B2 : Nat) (w : World) (h1 : W.Sl w v1 q.ws B1) (h2 : W.Sl w v2 q.ws B2) (hl : q.ws.length ≤ 1048576) :
  Calls Tryz.prog 12 #[.agg #[.int .i64 q.k, .string q.b, .int .i64 q.s, v1, .string q.h, .string q.p, .int .i64 q.t], .agg #[.int .i64 q.k, .string q.b, .int .i64 q.s, v2, .string q.h, .string q.p, .int .i64 q.t]] w fun e w' => e = .returned (.bool true) ∧ Below w.heap.size w w' := by
 have hb : Below w.heap.size w ((w.alloc (.cells #[.int .i64 q.k, .string q.b, .int .i64 q.s, v1, .string q.h, .string q.p, .int .i64 q.t] 41)).alloc (.cells #[.int .i64 q.k, .string q.b, .int .i64 q.s, v2, .string q.h, .string q.p, .int .i64 q.t] 41)) := bl_alloc (bl_alloc (Below.refl _ _) _) _
 have HB : Hid (Below w.heap.size w ((w.alloc (.cells #[.int .i64 q.k, .string q.b, .int .i64 q.s, v1, .string q.h, .string q.p, .int .i64 q.t] 41)).alloc (.cells #[.int .i64 q.k, .string q.b, .int .i64 q.s, v2, .string q.h, .string q.p, .int .i64 q.t] 41))) := hb
 have H1 : Hid (W.Sl _ v1 q.ws B1) := h1.keep hb
 have H2 : Hid (W.Sl _ v2 q.ws B2) := h2.keep hb
 have BX : Hid (∀ y, Below ((w.alloc (.cells #[.int .i64 q.k, .string q.b, .int .i64 q.s, v1, .string q.h, .string q.p, .int .i64 q.t] 41)).alloc (.cells #[.int .i64 q.k, .string q.b, .int .i64 q.s, v2, .string q.h, .string q.p, .int .i64 q.t] 41)).heap.size ((w.alloc (.cells #[.int .i64 q.k, .string q.b, .int .i64 q.s, v1, .string q.h, .string q.p, .int .i64 q.t] 41)).alloc (.cells #[.int .i64 q.k, .string q.b, .int .i64 q.s, v2, .string q.h, .string q.p, .int .i64 q.t] 41)) y → (∀ k, y.cell? ⟨w.heap.size, k, none⟩ = (#[.int .i64 q.k, .string q.b, .int .i64 q.s, v1, .string q.h, .string q.p, .int .i64 q.t] : Array Value)[k]?) ∧ (∀ k, y.cell? ⟨w.heap.size + 1, k, none⟩ = (#[.int .i64 q.k, .string q.b, .int .i64 q.s, v2, .string q.h, .string q.p, .int .i64 q.t] : Array Value)[k]?)) := by
  intro y hy
  constructor
  ·
   intro k
   rw [hy.cell (p := ⟨w.heap.size, k, none⟩) (by simp; omega)]
   simp [go_sem]
  ·
   intro k
   rw [hy.cell (p := ⟨w.heap.size + 1, k, none⟩) (by simp)]
   simp [go_sem]
 clear hb h1 h2
 obtain ⟨xk, xb, xs, xa, xc, xws, xh, xp, xt⟩ := q
 simp only at *
 go_enter Tryz.func12, Tryz.ntmps12
 go_wp2_with fail
 refine (W.eq_sl H1.out H2.out hl).mono ?_
 rintro e w1 ⟨rfl, c⟩
 have C : Hid (Below w.heap.size w w1) := bl_trans HB.out c
 obtain ⟨x1, x2⟩ := BX.out w1 c
 clear c
 go_wp2
 go_ret
 exact ⟨rfl, C.out⟩
theorem bothPc {x w' : World} {g1 n1 c1 g2 n2 c2 B1 B2 k : Nat} {ps qs : List Pc.PcD} {q : Pc.PcD} {a' : Option Addr} {c' : Nat} (h1 : PcO x B1 ps (.slice (some ⟨g1, 0, none⟩) n1 c1)) (h2 : PcO x B2 qs (.slice (some ⟨g2, 0, none⟩) n2 c2)) (hq : ps[k]? = some q) (hr : ∃ r, qs[k]? = some r ∧ (r.k = q.k ∧ r.b = q.b ∧ r.s = q.s ∧ r.ws = q.ws ∧ r.h = q.h ∧ r.p = q.p ∧ r.t = q.t) ∧ r.a = a' ∧ r.c = c') (hb : Below x.heap.size x w') :
  Below x.heap.size x w' ∧ (w'.cell? ⟨g1, k * 7, none⟩ = some (.int .i64 q.k) ∧ w'.cell? ⟨g1, k * 7 + 1, none⟩ = some (.string q.b) ∧ w'.cell? ⟨g1, k * 7 + 2, none⟩ = some (.int .i64 q.s) ∧ w'.cell? ⟨g1, k * 7 + 3, none⟩ = some (.slice q.a q.ws.length q.c) ∧ w'.cell? ⟨g1, k * 7 + 4, none⟩ = some (.string q.h) ∧ w'.cell? ⟨g1, k * 7 + 5, none⟩ = some (.string q.p) ∧ w'.cell? ⟨g1, k * 7 + 6, none⟩ = some (.int .i64 q.t)) ∧ (w'.cell? ⟨g2, k * 7, none⟩ = some (.int .i64 q.k) ∧ w'.cell? ⟨g2, k * 7 + 1, none⟩ = some (.string q.b) ∧ w'.cell? ⟨g2, k * 7 + 2, none⟩ = some (.int .i64 q.s) ∧ w'.cell? ⟨g2, k * 7 + 3, none⟩ = some (.slice a' q.ws.length c') ∧ w'.cell? ⟨g2, k * 7 + 4, none⟩ = some (.string q.h) ∧ w'.cell? ⟨g2, k * 7 + 5, none⟩ = some (.string q.p) ∧ w'.cell? ⟨g2, k * 7 + 6, none⟩ = some (.int .i64 q.t)) := by
 obtain ⟨r, hr, ⟨e0, e1, e2, e3, e4, e5, e6⟩, ea, ec⟩ := hr
 obtain ⟨-, hc, -⟩ := rowPc (h1.keep hb) hq
 obtain ⟨-, hd, -⟩ := rowPc (h2.keep hb) hr
 rw [e0, e1, e2, e3, e4, e5, e6, ea, ec] at hd
 exact ⟨hb, hc, hd⟩
set_option maxRecDepth 4000 in
set_option maxHeartbeats 2000000 in
theorem eqPc_at (g1 c1 g2 c2 B1 B2 : Nat) (ps qs : List Pc.PcD) (w : World) (h1 : PcO w B1 ps (.slice (some ⟨g1, 0, none⟩) ps.length c1)) (h2 : PcO w B2 qs (.slice (some ⟨g2, 0, none⟩) qs.length c2)) (hs : Pc.Like ps qs) (hl : ps.length ≤ 1048576) (hL : ∀ q ∈ ps, q.ws.length ≤ 1048576) :
  Calls Tryz.prog 11 #[.slice (some ⟨g1, 0, none⟩) ps.length c1, .slice (some ⟨g2, 0, none⟩) qs.length c2] w fun e w' => e = .returned (.bool true) ∧ Below w.heap.size w w' := by
 have H1 : Hid (PcO w B1 ps (.slice (some ⟨g1, 0, none⟩) ps.length c1)) := h1
 have H2 : Hid (PcO w B2 qs (.slice (some ⟨g2, 0, none⟩) ps.length c2)) := by rw [hs.len]; exact h2
 have HS : Hid (Pc.Like ps qs) := hs
 have HL : Hid _ := hL
 rw [← Pc.Like.len hs]
 clear h1 h2 hs hL
 go_enter Tryz.func11, Tryz.ntmps11
 go_wp2
 go_loopw [5] (fun i wx => ∃ (k : Nat), k ≤ ps.length ∧ i = .int .i64 k ∧ Below w.heap.size w wx) (fun i _ => ps.length - (intOf i).toNat)
 case atStart => exact ⟨0, Nat.zero_le _, rfl, Below.refl _ _⟩
 case round =>
  obtain ⟨k, hk, rfl, hB⟩ := hrel
  by_cases hlt : k < ps.length
  ·
   obtain ⟨q, hq⟩ : ∃ q, ps[k]? = some q := ⟨ps[k], List.getElem?_eq_getElem hlt⟩
   obtain ⟨r, hr, he⟩ := HS.out.get2 hq
   have HQ : Hid (ps[k]? = some q) := hq
   obtain ⟨a', c', hac⟩ : ∃ a' c', r.a = a' ∧ r.c = c' := ⟨_, _, rfl, rfl⟩
   have hew : r.ws = q.ws := he.2.2.2.1
   have HR : Hid (∃ r, qs[k]? = some r ∧ (r.k = q.k ∧ r.b = q.b ∧ r.s = q.s ∧ r.ws = q.ws ∧ r.h = q.h ∧ r.p = q.p ∧ r.t = q.t) ∧ r.a = a' ∧ r.c = c') := ⟨r, hr, he, hac⟩
   have Q1 : Hid (PcO wr B1 ps (.slice (some ⟨g1, 0, none⟩) ps.length c1)) := H1.out.keep hB
   have Q2 : Hid (PcO wr B2 qs (.slice (some ⟨g2, 0, none⟩) ps.length c2)) := H2.out.keep hB
   have S1 : Hid (W.Sl wr (.slice q.a q.ws.length q.c) q.ws B1) := Q1.out.k k q hq
   have S2 : Hid (W.Sl wr (.slice a' q.ws.length c') q.ws B2) := by
    have := Q2.out.k k r hr
    rw [hac.1, hac.2, hew] at this
    exact this
   have hlp : q.ws.length ≤ 1048576 := HL.out q (List.mem_of_getElem? hq)
   have BB : Hid (∀ w', Below wr.heap.size wr w' → Below wr.heap.size wr w' ∧ (w'.cell? ⟨g1, k * 7, none⟩ = some (.int .i64 q.k) ∧ w'.cell? ⟨g1, k * 7 + 1, none⟩ = some (.string q.b) ∧ w'.cell? ⟨g1, k * 7 + 2, none⟩ = some (.int .i64 q.s) ∧ w'.cell? ⟨g1, k * 7 + 3, none⟩ = some (.slice q.a q.ws.length q.c) ∧ w'.cell? ⟨g1, k * 7 + 4, none⟩ = some (.string q.h) ∧ w'.cell? ⟨g1, k * 7 + 5, none⟩ = some (.string q.p) ∧ w'.cell? ⟨g1, k * 7 + 6, none⟩ = some (.int .i64 q.t)) ∧ (w'.cell? ⟨g2, k * 7, none⟩ = some (.int .i64 q.k) ∧ w'.cell? ⟨g2, k * 7 + 1, none⟩ = some (.string q.b) ∧ w'.cell? ⟨g2, k * 7 + 2, none⟩ = some (.int .i64 q.s) ∧ w'.cell? ⟨g2, k * 7 + 3, none⟩ = some (.slice a' q.ws.length c') ∧ w'.cell? ⟨g2, k * 7 + 4, none⟩ = some (.string q.h) ∧ w'.cell? ⟨g2, k * 7 + 5, none⟩ = some (.string q.p) ∧ w'.cell? ⟨g2, k * 7 + 6, none⟩ = some (.int .i64 q.t))) := fun w' hb => bothPc Q1.out Q2.out HQ.out HR.out hb
   clear hq hr he hac hew
   have i0 : (0 : Int) ≤ (k : Int) := by omega
   have i1 : (k : Int) < (ps.length : Int) := by omega
   obtain ⟨xk, xb, xs, xa, xc, xws, xh, xp, xt⟩ := q
   simp only at S1 S2 hlp BB
   go_wp2_with fail
   go_region_held3 (fun w' => Below wr.heap.size wr w' ∧ (w'.cell? ⟨g1, k * 7, none⟩ = some (.int .i64 xk) ∧ w'.cell? ⟨g1, k * 7 + 1, none⟩ = some (.string xb) ∧ w'.cell? ⟨g1, k * 7 + 2, none⟩ = some (.int .i64 xs) ∧ w'.cell? ⟨g1, k * 7 + 3, none⟩ = some (.slice xa xws.length xc) ∧ w'.cell? ⟨g1, k * 7 + 4, none⟩ = some (.string xh) ∧ w'.cell? ⟨g1, k * 7 + 5, none⟩ = some (.string xp) ∧ w'.cell? ⟨g1, k * 7 + 6, none⟩ = some (.int .i64 xt)) ∧ (w'.cell? ⟨g2, k * 7, none⟩ = some (.int .i64 xk) ∧ w'.cell? ⟨g2, k * 7 + 1, none⟩ = some (.string xb) ∧ w'.cell? ⟨g2, k * 7 + 2, none⟩ = some (.int .i64 xs) ∧ w'.cell? ⟨g2, k * 7 + 3, none⟩ = some (.slice a' xws.length c') ∧ w'.cell? ⟨g2, k * 7 + 4, none⟩ = some (.string xh) ∧ w'.cell? ⟨g2, k * 7 + 5, none⟩ = some (.string xp) ∧ w'.cell? ⟨g2, k * 7 + 6, none⟩ = some (.int .i64 xt)))
    (first | exact BB.out _ (bl_drew (Below.refl _ _)) | exact BB.out _ (bl_trans (bl_drew (Below.refl _ _)) hb))
    (first | (go_at_call 12; refine (eqPc_one ⟨xk, xb, xs, xa, xc, xws, xh, xp, xt⟩ _ _ B1 B2 _ (S1.out.keep (bl_drew (Below.refl _ _))) (S2.out.keep (bl_drew (Below.refl _ _))) hlp).mono ?_; rintro e w' ⟨rfl, hb⟩))
   go_wp2
   exact ⟨⟨k + 1, by omega, by go_num, bl_trans hB (bl_trans (bl_drew (Below.refl _ _)) hb)⟩, by simp [intOf]; omega⟩
  ·
   go_wp2
   go_ret
   exact ⟨rfl, hB⟩
theorem eqPc_sl {w : World} {v1 v2 : Value} {ps qs : List Pc.PcD} {B1 B2 : Nat} (h1 : PcO w B1 ps v1) (h2 : PcO w B2 qs v2) (hs : Pc.Like ps qs) (hl : ps.length ≤ 1048576) (hL : ∀ q ∈ ps, q.ws.length ≤ 1048576) :
  Calls Tryz.prog 11 #[v1, v2] w fun e w' => e = .returned (.bool true) ∧ Below w.heap.size w w' := by
 have z : ∀ (a1 a2 : Option Addr) (c1 c2 : Nat), Calls Tryz.prog 11 #[.slice a1 0 c1, .slice a2 0 c2] w fun e w' => e = .returned (.bool true) ∧ Below w.heap.size w w' := fun a1 a2 c1 c2 => (eqPc_zero a1 a2 c1 c2 w).mono (by rintro e w' ⟨rfl, rfl⟩; exact ⟨rfl, Below.refl _ _⟩)
 have hlen := hs.len
 have o1 := h1.o
 have o2 := h2.o
 rcases o1 with ⟨rfl, hn⟩ | ⟨g1, cap1, hv1, -⟩
 ·
  have e1 : ps = [] := List.map_eq_nil_iff.1 hn
  subst e1
  have e2 : qs = [] := List.length_eq_zero_iff.1 hlen.symm
  subst e2
  rcases o2 with ⟨rfl, -⟩ | ⟨g2, cap2, hv2, -⟩
  ·
   exact z _ _ _ _
  ·
   subst hv2
   exact z _ _ _ _
 ·
  rcases o2 with ⟨rfl, hn⟩ | ⟨g2, cap2, hv2, -⟩
  ·
   have e2 : qs = [] := List.map_eq_nil_iff.1 hn
   subst e2
   have e1 : ps = [] := List.length_eq_zero_iff.1 hlen
   subst e1
   subst hv1
   exact z _ _ _ _
  ·
   rw [List.length_map] at hv1 hv2
   subst hv1 hv2
   exact eqPc_at g1 cap1 g2 cap2 B1 B2 ps qs w h1 h2 hs hl hL
end Go.Proofs.YtefkdohkjdopeaaGreatDoor
