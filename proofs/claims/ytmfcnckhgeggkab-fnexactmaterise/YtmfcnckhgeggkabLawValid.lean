/- FnExactMateValid: the law's walk. -/
import Derived.Test.YtmfcnckhgeggkabValidI2
import Derived.Test.YtmfcnckhgeggkabMateT
namespace Go.Proofs.Ytmfcnckhgeggkab
open Go.RowKit
set_option linter.unusedVariables false

theorem lawK {w w5 y : World} {m : MateD} {v1 v2 v3 v4 : Value} {bx e1 e2 e3 e4 : Nat} (hA : ∀ k, w5.cell? ⟨w.heap.size, k, none⟩ = (#[.string m.nm, .bool m.up, .int .i64 m.ck, .bool m.kn, .int .i64 m.se, v1, v2, v3, v4] : Array Value)[k]?) (hX : ∀ k, w5.cell? ⟨bx, k, none⟩ = (#[.string m.nm, .bool m.up, .int .i64 m.ck, .bool m.kn, .int .i64 m.se, .slice (some ⟨e1, 0, none⟩) m.ws.length m.ws.length, .slice (some ⟨e2, 0, none⟩) m.rs.length m.rs.length, .slice (some ⟨e3, 0, none⟩) m.qs.length m.qs.length, .slice (some ⟨e4, 0, none⟩) m.gs.length m.gs.length] : Array Value)[k]?) (zA : w.heap.size < w5.heap.size) (zX : bx < w5.heap.size) (hb : Below w5.heap.size w5 y) :
    Below w5.heap.size w5 y ∧ (y.cell? ⟨w.heap.size, 0, none⟩ = some (.string m.nm) ∧ y.cell? ⟨w.heap.size, 1, none⟩ = some (.bool m.up) ∧ y.cell? ⟨w.heap.size, 2, none⟩ = some (.int .i64 m.ck) ∧ y.cell? ⟨w.heap.size, 3, none⟩ = some (.bool m.kn) ∧ y.cell? ⟨w.heap.size, 4, none⟩ = some (.int .i64 m.se) ∧ y.cell? ⟨w.heap.size, 5, none⟩ = some (v1) ∧ y.cell? ⟨w.heap.size, 6, none⟩ = some (v2) ∧ y.cell? ⟨w.heap.size, 7, none⟩ = some (v3) ∧ y.cell? ⟨w.heap.size, 8, none⟩ = some (v4) ∧ y.cell? ⟨bx, 0, none⟩ = some (.string m.nm) ∧ y.cell? ⟨bx, 1, none⟩ = some (.bool m.up) ∧ y.cell? ⟨bx, 2, none⟩ = some (.int .i64 m.ck) ∧ y.cell? ⟨bx, 3, none⟩ = some (.bool m.kn) ∧ y.cell? ⟨bx, 4, none⟩ = some (.int .i64 m.se) ∧ y.cell? ⟨bx, 5, none⟩ = some (.slice (some ⟨e1, 0, none⟩) m.ws.length m.ws.length) ∧ y.cell? ⟨bx, 6, none⟩ = some (.slice (some ⟨e2, 0, none⟩) m.rs.length m.rs.length) ∧ y.cell? ⟨bx, 7, none⟩ = some (.slice (some ⟨e3, 0, none⟩) m.qs.length m.qs.length) ∧ y.cell? ⟨bx, 8, none⟩ = some (.slice (some ⟨e4, 0, none⟩) m.gs.length m.gs.length)) := by
  have a : ∀ k, y.cell? ⟨w.heap.size, k, none⟩ = (#[.string m.nm, .bool m.up, .int .i64 m.ck, .bool m.kn, .int .i64 m.se, v1, v2, v3, v4] : Array Value)[k]? := fun k => (hb.cell (p := ⟨w.heap.size, k, none⟩) zA).trans (hA k)
  have b : ∀ k, y.cell? ⟨bx, k, none⟩ = (#[.string m.nm, .bool m.up, .int .i64 m.ck, .bool m.kn, .int .i64 m.se, .slice (some ⟨e1, 0, none⟩) m.ws.length m.ws.length, .slice (some ⟨e2, 0, none⟩) m.rs.length m.rs.length, .slice (some ⟨e3, 0, none⟩) m.qs.length m.qs.length, .slice (some ⟨e4, 0, none⟩) m.gs.length m.gs.length] : Array Value)[k]? := fun k => (hb.cell (p := ⟨bx, k, none⟩) zX).trans (hX k)
  exact ⟨hb, a 0, a 1, a 2, a 3, a 4, a 5, a 6, a 7, a 8, b 0, b 1, b 2, b 3, b 4, b 5, b 6, b 7, b 8⟩

set_option maxRecDepth 4000 in
set_option maxHeartbeats 4000000 in
theorem lawValid (m : MateD) (v1 v2 v3 v4 : Value) (w : World) (i1 : W.In w v1 m.ws) (i2 : In w v2 m.rs) (i3 : A.In w v3 m.qs) (i4 : A.In w v4 m.gs) (hn : m.nm.size ≤ maxLen) :
    Calls Try.prog 6 #[.agg #[.string m.nm, .bool m.up, .int .i64 m.ck, .bool m.kn, .int .i64 m.se, v1, v2, v3, v4]] w fun e w' => e = .returned (.bool true) ∧ Below w.heap.size w w' := by
  have Hb0 : Hid (Below w.heap.size w (w.alloc (.cells #[.string m.nm, .bool m.up, .int .i64 m.ck, .bool m.kn, .int .i64 m.se, v1, v2, v3, v4] 49))) := bl_alloc (Below.refl _ _) _
  go_enter Try.func6, Try.ntmps6
  go_wp2_with fail
  refine (szMate_any m v1 v2 v3 v4 _ (i1.keep Hb0.out) (i2.keep Hb0.out) (i3.keep Hb0.out) (i4.keep Hb0.out) hn).mono ?_
  rintro e w1 ⟨hx, c1⟩
  have D1 : Hid (Below (w.alloc (.cells #[.string m.nm, .bool m.up, .int .i64 m.ck, .bool m.kn, .int .i64 m.se, v1, v2, v3, v4] 49)).heap.size (w.alloc (.cells #[.string m.nm, .bool m.up, .int .i64 m.ck, .bool m.kn, .int .i64 m.se, v1, v2, v3, v4] 49)) w1) := c1
  have C1 : Hid (Below w.heap.size w w1) := bl_trans Hb0.out c1
  clear c1
  have ka := box_keep D1.out
  rcases hx with rfl | ⟨x, rfl, x0, l1, l2, l3, l4⟩
  · go_wp2
    go_ret
    exact ⟨rfl, C1.out⟩
  have hf : m.fits := ⟨hn, i1.fits, i2.fits, i3.fits, i4.fits, l1, l2, l3, l4⟩
  go_wp2_with fail
  refine (toMate_any m v1 v2 v3 v4 _ (i1.keep C1.out) (i2.keep C1.out) (i3.keep C1.out) (i4.keep C1.out) l1 l2 l3 l4).mono ?_
  rintro e w2 ⟨b1, b2, b3, b4, rfl, hL2, c2⟩
  have D2 : Hid (Below (w.alloc (.cells #[.string m.nm, .bool m.up, .int .i64 m.ck, .bool m.kn, .int .i64 m.se, v1, v2, v3, v4] 49)).heap.size (w.alloc (.cells #[.string m.nm, .bool m.up, .int .i64 m.ck, .bool m.kn, .int .i64 m.se, v1, v2, v3, v4] 49)) w2) := bl_trans D1.out c2
  have C2 : Hid (Below w.heap.size w w2) := bl_trans C1.out c2
  clear c2 ka
  go_wp2_with fail
  refine (specValid m b1 b2 b3 b4 _ hL2 hf).mono ?_
  rintro e w3 ⟨⟨q1, rfl, h1⟩, c3⟩
  have H1 : Hid _ := h1
  have D3 : Hid (Below (w.alloc (.cells #[.string m.nm, .bool m.up, .int .i64 m.ck, .bool m.kn, .int .i64 m.se, v1, v2, v3, v4] 49)).heap.size (w.alloc (.cells #[.string m.nm, .bool m.up, .int .i64 m.ck, .bool m.kn, .int .i64 m.se, v1, v2, v3, v4] 49)) w3) := bl_trans D2.out c3
  have C3 : Hid (Below w.heap.size w w3) := bl_trans C2.out c3
  clear c3 h1 hL2
  have ka := box_keep D3.out
  go_wp2_with fail
  refine (toMate_any m v1 v2 v3 v4 _ (i1.keep C3.out) (i2.keep C3.out) (i3.keep C3.out) (i4.keep C3.out) l1 l2 l3 l4).mono ?_
  rintro e w4 ⟨e1, e2, e3, e4, rfl, hL4, c4⟩
  have D4 : Hid (Below (w.alloc (.cells #[.string m.nm, .bool m.up, .int .i64 m.ck, .bool m.kn, .int .i64 m.se, v1, v2, v3, v4] 49)).heap.size (w.alloc (.cells #[.string m.nm, .bool m.up, .int .i64 m.ck, .bool m.kn, .int .i64 m.se, v1, v2, v3, v4] 49)) w4) := bl_trans D3.out c4
  have C4 : Hid (Below w.heap.size w w4) := bl_trans C3.out c4
  clear c4 ka
  have hb4 : Below w4.heap.size w4 (w4.alloc (.cells #[.string m.nm, .bool m.up, .int .i64 m.ck, .bool m.kn, .int .i64 m.se, .slice (some ⟨e1, 0, none⟩) m.ws.length m.ws.length, .slice (some ⟨e2, 0, none⟩) m.rs.length m.rs.length, .slice (some ⟨e3, 0, none⟩) m.qs.length m.qs.length, .slice (some ⟨e4, 0, none⟩) m.gs.length m.gs.length] 55)) := bl_alloc (Below.refl _ _) _
  have L5 : Hid (Lists (w4.alloc (.cells #[.string m.nm, .bool m.up, .int .i64 m.ck, .bool m.kn, .int .i64 m.se, .slice (some ⟨e1, 0, none⟩) m.ws.length m.ws.length, .slice (some ⟨e2, 0, none⟩) m.rs.length m.rs.length, .slice (some ⟨e3, 0, none⟩) m.qs.length m.qs.length, .slice (some ⟨e4, 0, none⟩) m.gs.length m.gs.length] 55)) m e1 e2 e3 e4) := hL4.keep hb4
  have D5 : Hid (Below (w.alloc (.cells #[.string m.nm, .bool m.up, .int .i64 m.ck, .bool m.kn, .int .i64 m.se, v1, v2, v3, v4] 49)).heap.size (w.alloc (.cells #[.string m.nm, .bool m.up, .int .i64 m.ck, .bool m.kn, .int .i64 m.se, v1, v2, v3, v4] 49)) (w4.alloc (.cells #[.string m.nm, .bool m.up, .int .i64 m.ck, .bool m.kn, .int .i64 m.se, .slice (some ⟨e1, 0, none⟩) m.ws.length m.ws.length, .slice (some ⟨e2, 0, none⟩) m.rs.length m.rs.length, .slice (some ⟨e3, 0, none⟩) m.qs.length m.qs.length, .slice (some ⟨e4, 0, none⟩) m.gs.length m.gs.length] 55))) := bl_trans D4.out hb4
  have C5 : Hid (Below w.heap.size w (w4.alloc (.cells #[.string m.nm, .bool m.up, .int .i64 m.ck, .bool m.kn, .int .i64 m.se, .slice (some ⟨e1, 0, none⟩) m.ws.length m.ws.length, .slice (some ⟨e2, 0, none⟩) m.rs.length m.rs.length, .slice (some ⟨e3, 0, none⟩) m.qs.length m.qs.length, .slice (some ⟨e4, 0, none⟩) m.gs.length m.gs.length] 55))) := bl_trans C4.out hb4
  clear hb4 hL4
  go_wp2_with fail
  refine (implValid m e1 e2 e3 e4 _ L5.out hf).mono ?_
  rintro e w5 ⟨⟨q2, rfl, h2⟩, c5⟩
  obtain rfl : q2 = q1 := by
    have := H1.out.trans h2.symm
    cases q1 <;> cases q2 <;> simp_all
  clear H1 h2
  have D6 : Hid (Below (w.alloc (.cells #[.string m.nm, .bool m.up, .int .i64 m.ck, .bool m.kn, .int .i64 m.se, v1, v2, v3, v4] 49)).heap.size (w.alloc (.cells #[.string m.nm, .bool m.up, .int .i64 m.ck, .bool m.kn, .int .i64 m.se, v1, v2, v3, v4] 49)) w5) := bl_trans D5.out c5
  have C6 : Hid (Below w.heap.size w w5) := bl_trans C5.out c5
  have L6 : Hid (Lists w5 m e1 e2 e3 e4) := L5.out.keep c5
  have hA : Hid (∀ k, w5.cell? ⟨w.heap.size, k, none⟩ = (#[.string m.nm, .bool m.up, .int .i64 m.ck, .bool m.kn, .int .i64 m.se, v1, v2, v3, v4] : Array Value)[k]?) := fun k => by rw [box_keep D6.out k]; simp [go_sem]
  have hX : Hid (∀ k, w5.cell? ⟨w4.heap.size, k, none⟩ = (#[.string m.nm, .bool m.up, .int .i64 m.ck, .bool m.kn, .int .i64 m.se, .slice (some ⟨e1, 0, none⟩) m.ws.length m.ws.length, .slice (some ⟨e2, 0, none⟩) m.rs.length m.rs.length, .slice (some ⟨e3, 0, none⟩) m.qs.length m.qs.length, .slice (some ⟨e4, 0, none⟩) m.gs.length m.gs.length] : Array Value)[k]?) := fun k => by rw [box_keep c5 k]; simp [go_sem]
  have zA : Hid (w.heap.size < w5.heap.size) := by have := D6.out.size; simp at this; show _ < _; omega
  have zX : Hid (w4.heap.size < w5.heap.size) := by have := c5.size; simp at this; show _ < _; omega
  clear c5
  cases q2
  · go_wp2_with fail
    go_region_held3 (fun y => Below w5.heap.size w5 y ∧ (y.cell? ⟨w.heap.size, 0, none⟩ = some (.string m.nm) ∧ y.cell? ⟨w.heap.size, 1, none⟩ = some (.bool m.up) ∧ y.cell? ⟨w.heap.size, 2, none⟩ = some (.int .i64 m.ck) ∧ y.cell? ⟨w.heap.size, 3, none⟩ = some (.bool m.kn) ∧ y.cell? ⟨w.heap.size, 4, none⟩ = some (.int .i64 m.se) ∧ y.cell? ⟨w.heap.size, 5, none⟩ = some (v1) ∧ y.cell? ⟨w.heap.size, 6, none⟩ = some (v2) ∧ y.cell? ⟨w.heap.size, 7, none⟩ = some (v3) ∧ y.cell? ⟨w.heap.size, 8, none⟩ = some (v4) ∧ y.cell? ⟨w4.heap.size, 0, none⟩ = some (.string m.nm) ∧ y.cell? ⟨w4.heap.size, 1, none⟩ = some (.bool m.up) ∧ y.cell? ⟨w4.heap.size, 2, none⟩ = some (.int .i64 m.ck) ∧ y.cell? ⟨w4.heap.size, 3, none⟩ = some (.bool m.kn) ∧ y.cell? ⟨w4.heap.size, 4, none⟩ = some (.int .i64 m.se) ∧ y.cell? ⟨w4.heap.size, 5, none⟩ = some (.slice (some ⟨e1, 0, none⟩) m.ws.length m.ws.length) ∧ y.cell? ⟨w4.heap.size, 6, none⟩ = some (.slice (some ⟨e2, 0, none⟩) m.rs.length m.rs.length) ∧ y.cell? ⟨w4.heap.size, 7, none⟩ = some (.slice (some ⟨e3, 0, none⟩) m.qs.length m.qs.length) ∧ y.cell? ⟨w4.heap.size, 8, none⟩ = some (.slice (some ⟨e4, 0, none⟩) m.gs.length m.gs.length)))
      (first | exact lawK hA.out hX.out zA.out zX.out (bl_drew (Below.refl _ _)) | exact lawK hA.out hX.out zA.out zX.out (bl_trans (bl_drew (Below.refl _ _)) hy) | exact lawK hA.out hX.out zA.out zX.out (bl_trans (bl_trans (bl_drew (Below.refl _ _)) hy) hz))
      (first | (go_at_call 27; refine (toMate_any m v1 v2 v3 v4 _ (i1.keep (bl_trans C6.out (bl_drew (Below.refl _ _)))) (i2.keep (bl_trans C6.out (bl_drew (Below.refl _ _)))) (i3.keep (bl_trans C6.out (bl_drew (Below.refl _ _)))) (i4.keep (bl_trans C6.out (bl_drew (Below.refl _ _)))) l1 l2 l3 l4).mono ?_; rintro e y' ⟨f1, f2, f3, f4, rfl, hL7, hy⟩) | (go_at_call 29; refine (eqMate_same m e1 e2 e3 e4 f1 f2 f3 f4 _ (L6.out.keep (bl_trans (bl_drew (Below.refl _ _)) hy)) hL7 hf).mono ?_; rintro e y'' ⟨rfl, hz⟩))
    have C7 : Hid _ := bl_trans C6.out (bl_trans (bl_trans (bl_drew (Below.refl _ w5)) hy) hz)
    clear hy hz hL7
    go_wp2
    go_ret
    exact ⟨rfl, C7.out⟩
  · go_wp2_with fail
    go_region_held3 (fun y => Below w5.heap.size w5 y ∧ (y.cell? ⟨w.heap.size, 0, none⟩ = some (.string m.nm) ∧ y.cell? ⟨w.heap.size, 1, none⟩ = some (.bool m.up) ∧ y.cell? ⟨w.heap.size, 2, none⟩ = some (.int .i64 m.ck) ∧ y.cell? ⟨w.heap.size, 3, none⟩ = some (.bool m.kn) ∧ y.cell? ⟨w.heap.size, 4, none⟩ = some (.int .i64 m.se) ∧ y.cell? ⟨w.heap.size, 5, none⟩ = some (v1) ∧ y.cell? ⟨w.heap.size, 6, none⟩ = some (v2) ∧ y.cell? ⟨w.heap.size, 7, none⟩ = some (v3) ∧ y.cell? ⟨w.heap.size, 8, none⟩ = some (v4) ∧ y.cell? ⟨w4.heap.size, 0, none⟩ = some (.string m.nm) ∧ y.cell? ⟨w4.heap.size, 1, none⟩ = some (.bool m.up) ∧ y.cell? ⟨w4.heap.size, 2, none⟩ = some (.int .i64 m.ck) ∧ y.cell? ⟨w4.heap.size, 3, none⟩ = some (.bool m.kn) ∧ y.cell? ⟨w4.heap.size, 4, none⟩ = some (.int .i64 m.se) ∧ y.cell? ⟨w4.heap.size, 5, none⟩ = some (.slice (some ⟨e1, 0, none⟩) m.ws.length m.ws.length) ∧ y.cell? ⟨w4.heap.size, 6, none⟩ = some (.slice (some ⟨e2, 0, none⟩) m.rs.length m.rs.length) ∧ y.cell? ⟨w4.heap.size, 7, none⟩ = some (.slice (some ⟨e3, 0, none⟩) m.qs.length m.qs.length) ∧ y.cell? ⟨w4.heap.size, 8, none⟩ = some (.slice (some ⟨e4, 0, none⟩) m.gs.length m.gs.length)))
      (first | exact lawK hA.out hX.out zA.out zX.out (bl_drew (Below.refl _ _)) | exact lawK hA.out hX.out zA.out zX.out (bl_trans (bl_drew (Below.refl _ _)) hy) | exact lawK hA.out hX.out zA.out zX.out (bl_trans (bl_trans (bl_drew (Below.refl _ _)) hy) hz))
      (first | (go_at_call 27; refine (toMate_any m v1 v2 v3 v4 _ (i1.keep (bl_trans C6.out (bl_drew (Below.refl _ _)))) (i2.keep (bl_trans C6.out (bl_drew (Below.refl _ _)))) (i3.keep (bl_trans C6.out (bl_drew (Below.refl _ _)))) (i4.keep (bl_trans C6.out (bl_drew (Below.refl _ _)))) l1 l2 l3 l4).mono ?_; rintro e y' ⟨f1, f2, f3, f4, rfl, hL7, hy⟩) | (go_at_call 29; refine (eqMate_same m e1 e2 e3 e4 f1 f2 f3 f4 _ (L6.out.keep (bl_trans (bl_drew (Below.refl _ _)) hy)) hL7 hf).mono ?_; rintro e y'' ⟨rfl, hz⟩))
    have C7 : Hid _ := bl_trans C6.out (bl_trans (bl_trans (bl_drew (Below.refl _ w5)) hy) hz)
    clear hy hz hL7
    go_wp2
    go_ret
    exact ⟨rfl, C7.out⟩
end Go.Proofs.Ytmfcnckhgeggkab
