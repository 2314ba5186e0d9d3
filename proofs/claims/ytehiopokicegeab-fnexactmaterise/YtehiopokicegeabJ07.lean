import Derived.Test.YtehiopokicegeabJ02
import Derived.Test.YtehiopokicegeabJ06
import Derived.Test.YtehiopokicegeabJ01
import Derived.Deep.MidRow
import Derived.Laws.AppendOwn
import Derived.Laws.BytesString
/- A mate is measured, copied and held against another. -/
namespace Go.Proofs.Ytehiopokicegeab
open Go.RowKit
set_option linter.unusedVariables false

theorem boxes2 {w w' : World} {m : MateD} {b1 b2 b3 b4 e1 e2 e3 e4 : Nat} (hb : Below (((w.alloc (.cells #[.string m.nm, .bool m.up, .int .i64 m.ck, .bool m.kn, .int .i64 m.se, .slice (some ⟨b1, 0, none⟩) m.ws.length m.ws.length, .slice (some ⟨b2, 0, none⟩) m.rs.length m.rs.length, .slice (some ⟨b3, 0, none⟩) m.qs.length m.qs.length, .slice (some ⟨b4, 0, none⟩) m.gs.length m.gs.length] 55))).alloc (.cells #[.string m.nm, .bool m.up, .int .i64 m.ck, .bool m.kn, .int .i64 m.se, .slice (some ⟨e1, 0, none⟩) m.ws.length m.ws.length, .slice (some ⟨e2, 0, none⟩) m.rs.length m.rs.length, .slice (some ⟨e3, 0, none⟩) m.qs.length m.qs.length, .slice (some ⟨e4, 0, none⟩) m.gs.length m.gs.length] 55)).heap.size (((w.alloc (.cells #[.string m.nm, .bool m.up, .int .i64 m.ck, .bool m.kn, .int .i64 m.se, .slice (some ⟨b1, 0, none⟩) m.ws.length m.ws.length, .slice (some ⟨b2, 0, none⟩) m.rs.length m.rs.length, .slice (some ⟨b3, 0, none⟩) m.qs.length m.qs.length, .slice (some ⟨b4, 0, none⟩) m.gs.length m.gs.length] 55))).alloc (.cells #[.string m.nm, .bool m.up, .int .i64 m.ck, .bool m.kn, .int .i64 m.se, .slice (some ⟨e1, 0, none⟩) m.ws.length m.ws.length, .slice (some ⟨e2, 0, none⟩) m.rs.length m.rs.length, .slice (some ⟨e3, 0, none⟩) m.qs.length m.qs.length, .slice (some ⟨e4, 0, none⟩) m.gs.length m.gs.length] 55)) w') :
    (∀ k, w'.cell? ⟨w.heap.size, k, none⟩ = (#[.string m.nm, .bool m.up, .int .i64 m.ck, .bool m.kn, .int .i64 m.se, .slice (some ⟨b1, 0, none⟩) m.ws.length m.ws.length, .slice (some ⟨b2, 0, none⟩) m.rs.length m.rs.length, .slice (some ⟨b3, 0, none⟩) m.qs.length m.qs.length, .slice (some ⟨b4, 0, none⟩) m.gs.length m.gs.length] : Array Value)[k]?) ∧ (∀ k, w'.cell? ⟨w.heap.size + 1, k, none⟩ = (#[.string m.nm, .bool m.up, .int .i64 m.ck, .bool m.kn, .int .i64 m.se, .slice (some ⟨e1, 0, none⟩) m.ws.length m.ws.length, .slice (some ⟨e2, 0, none⟩) m.rs.length m.rs.length, .slice (some ⟨e3, 0, none⟩) m.qs.length m.qs.length, .slice (some ⟨e4, 0, none⟩) m.gs.length m.gs.length] : Array Value)[k]?) := by
  constructor
  · intro k
    rw [hb.cell (p := ⟨w.heap.size, k, none⟩) (by simp; omega)]
    simp [go_sem]
  · intro k
    rw [hb.cell (p := ⟨w.heap.size + 1, k, none⟩) (by simp)]
    simp [go_sem]

set_option maxRecDepth 4000 in
set_option maxHeartbeats 2000000 in
theorem szMate_any (m : MateD) (v1 v2 v3 v4 : Value) (w : World) (i1 : W.In w v1 m.ws) (i2 : In w v2 m.rs) (i3 : A.In w v3 m.qs) (i4 : A.In w v4 m.gs) (hn : m.nm.size ≤ maxLen) :
    Calls Try.prog 26 #[.agg #[.string m.nm, .bool m.up, .int .i64 m.ck, .bool m.kn, .int .i64 m.se, v1, v2, v3, v4], .int .i64 1048576] w fun e w' => (e = .returned (.int .i64 (-1)) ∨ ∃ x : Int, e = .returned (.int .i64 x) ∧ 0 ≤ x ∧ m.ws.length ≤ 1048576 ∧ m.rs.length ≤ 1048576 ∧ m.qs.length ≤ 1048576 ∧ m.gs.length ≤ 1048576) ∧ Below w.heap.size w w' := by
  have Hb0 : Hid (Below w.heap.size w (w.alloc (.cells #[.string m.nm, .bool m.up, .int .i64 m.ck, .bool m.kn, .int .i64 m.se, v1, v2, v3, v4] 49))) := bl_alloc (Below.refl _ _) _
  by_cases hnm : (m.nm.size : Int) ≤ 1048576
  · go_enter Try.func26, Try.ntmps26
    go_wp2_with fail
    refine (W.sz_in (i1.keep Hb0.out) (1048576 - (m.nm.size : Int)) (by omega) (by omega)).mono ?_
    rintro e w1 ⟨hx1, c1⟩
    have C1 : Hid (Below w.heap.size w w1) := bl_trans Hb0.out c1
    have D1 : Hid (Below (w.alloc (.cells #[.string m.nm, .bool m.up, .int .i64 m.ck, .bool m.kn, .int .i64 m.se, v1, v2, v3, v4] 49)).heap.size (w.alloc (.cells #[.string m.nm, .bool m.up, .int .i64 m.ck, .bool m.kn, .int .i64 m.se, v1, v2, v3, v4] 49)) w1) := c1
    clear c1
    have kb1 := box_keep D1.out
    rcases hx1 with rfl | ⟨x1, rfl, p1, r1, l1⟩
    · go_wp2
      go_ret
      exact ⟨Or.inl rfl, C1.out⟩
    go_wp2_with fail
    refine (sz_in (i2.keep C1.out) x1 (by omega) (by omega)).mono ?_
    rintro e w2 ⟨hx2, c2⟩
    have C2 : Hid (Below w.heap.size w w2) := bl_trans C1.out c2
    have D2 : Hid (Below (w.alloc (.cells #[.string m.nm, .bool m.up, .int .i64 m.ck, .bool m.kn, .int .i64 m.se, v1, v2, v3, v4] 49)).heap.size (w.alloc (.cells #[.string m.nm, .bool m.up, .int .i64 m.ck, .bool m.kn, .int .i64 m.se, v1, v2, v3, v4] 49)) w2) := bl_trans D1.out c2
    clear c2 kb1
    have kb2 := box_keep D2.out
    rcases hx2 with rfl | ⟨x2, rfl, p2, r2, l2⟩
    · go_wp2
      go_ret
      exact ⟨Or.inl rfl, C2.out⟩
    go_wp2_with fail
    refine (A.sz_in (i3.keep C2.out) x2 (by omega) (by omega)).mono ?_
    rintro e w3 ⟨hx3, c3⟩
    have C3 : Hid (Below w.heap.size w w3) := bl_trans C2.out c3
    have D3 : Hid (Below (w.alloc (.cells #[.string m.nm, .bool m.up, .int .i64 m.ck, .bool m.kn, .int .i64 m.se, v1, v2, v3, v4] 49)).heap.size (w.alloc (.cells #[.string m.nm, .bool m.up, .int .i64 m.ck, .bool m.kn, .int .i64 m.se, v1, v2, v3, v4] 49)) w3) := bl_trans D2.out c3
    clear c3 kb2
    have kb3 := box_keep D3.out
    rcases hx3 with rfl | ⟨x3, rfl, p3, r3, l3⟩
    · go_wp2
      go_ret
      exact ⟨Or.inl rfl, C3.out⟩
    go_wp2_with fail
    refine (A.sz_in (i4.keep C3.out) x3 (by omega) (by omega)).mono ?_
    rintro e w4 ⟨hx4, c4⟩
    have C4 : Hid (Below w.heap.size w w4) := bl_trans C3.out c4
    have D4 : Hid (Below (w.alloc (.cells #[.string m.nm, .bool m.up, .int .i64 m.ck, .bool m.kn, .int .i64 m.se, v1, v2, v3, v4] 49)).heap.size (w.alloc (.cells #[.string m.nm, .bool m.up, .int .i64 m.ck, .bool m.kn, .int .i64 m.se, v1, v2, v3, v4] 49)) w4) := bl_trans D3.out c4
    clear c4 kb3
    have kb4 := box_keep D4.out
    rcases hx4 with rfl | ⟨x4, rfl, p4, r4, l4⟩
    · go_wp2
      go_ret
      exact ⟨Or.inl rfl, C4.out⟩
    go_wp2
    go_ret
    exact ⟨Or.inr ⟨x4, rfl, p4, l1, l2, l3, l4⟩, C4.out⟩
  · unfold maxLen at hn
    have hnm' : (1048576 : Int) < (m.nm.size : Int) := by omega
    go_enter Try.func26, Try.ntmps26
    go_wp2
    go_ret
    exact ⟨Or.inl rfl, Hb0.out⟩

set_option maxRecDepth 4000 in
set_option maxHeartbeats 2000000 in
theorem eqMate_same (m : MateD) (b1 b2 b3 b4 e1 e2 e3 e4 : Nat) (w : World) (hL : Lists w m b1 b2 b3 b4) (hL2 : Lists w m e1 e2 e3 e4) (hf : m.fits) :
    Calls Try.prog 30 #[.agg #[.string m.nm, .bool m.up, .int .i64 m.ck, .bool m.kn, .int .i64 m.se, .slice (some ⟨b1, 0, none⟩) m.ws.length m.ws.length, .slice (some ⟨b2, 0, none⟩) m.rs.length m.rs.length, .slice (some ⟨b3, 0, none⟩) m.qs.length m.qs.length, .slice (some ⟨b4, 0, none⟩) m.gs.length m.gs.length], .agg #[.string m.nm, .bool m.up, .int .i64 m.ck, .bool m.kn, .int .i64 m.se, .slice (some ⟨e1, 0, none⟩) m.ws.length m.ws.length, .slice (some ⟨e2, 0, none⟩) m.rs.length m.rs.length, .slice (some ⟨e3, 0, none⟩) m.qs.length m.qs.length, .slice (some ⟨e4, 0, none⟩) m.gs.length m.gs.length]] w fun e w' => e = .returned (.bool true) ∧ Below w.heap.size w w' := by
  have Hb0 : Hid (Below w.heap.size w (((w.alloc (.cells #[.string m.nm, .bool m.up, .int .i64 m.ck, .bool m.kn, .int .i64 m.se, .slice (some ⟨b1, 0, none⟩) m.ws.length m.ws.length, .slice (some ⟨b2, 0, none⟩) m.rs.length m.rs.length, .slice (some ⟨b3, 0, none⟩) m.qs.length m.qs.length, .slice (some ⟨b4, 0, none⟩) m.gs.length m.gs.length] 55))).alloc (.cells #[.string m.nm, .bool m.up, .int .i64 m.ck, .bool m.kn, .int .i64 m.se, .slice (some ⟨e1, 0, none⟩) m.ws.length m.ws.length, .slice (some ⟨e2, 0, none⟩) m.rs.length m.rs.length, .slice (some ⟨e3, 0, none⟩) m.qs.length m.qs.length, .slice (some ⟨e4, 0, none⟩) m.gs.length m.gs.length] 55))) := bl_alloc (bl_alloc (Below.refl _ _) _) _
  have P0 : Hid _ := hL.keep Hb0.out
  have Q0 : Hid _ := hL2.keep Hb0.out
  go_enter Try.func30, Try.ntmps30
  go_wp2_with fail
  refine (W.eqWantS b1 0 _ e1 0 _ m.ws _ P0.out.r1 Q0.out.r1 P0.out.l1 Q0.out.l1 hf.k1).mono ?_
  rintro e w1 ⟨rfl, c1⟩
  have D1 : Hid (Below (((w.alloc (.cells #[.string m.nm, .bool m.up, .int .i64 m.ck, .bool m.kn, .int .i64 m.se, .slice (some ⟨b1, 0, none⟩) m.ws.length m.ws.length, .slice (some ⟨b2, 0, none⟩) m.rs.length m.rs.length, .slice (some ⟨b3, 0, none⟩) m.qs.length m.qs.length, .slice (some ⟨b4, 0, none⟩) m.gs.length m.gs.length] 55))).alloc (.cells #[.string m.nm, .bool m.up, .int .i64 m.ck, .bool m.kn, .int .i64 m.se, .slice (some ⟨e1, 0, none⟩) m.ws.length m.ws.length, .slice (some ⟨e2, 0, none⟩) m.rs.length m.rs.length, .slice (some ⟨e3, 0, none⟩) m.qs.length m.qs.length, .slice (some ⟨e4, 0, none⟩) m.gs.length m.gs.length] 55)).heap.size (((w.alloc (.cells #[.string m.nm, .bool m.up, .int .i64 m.ck, .bool m.kn, .int .i64 m.se, .slice (some ⟨b1, 0, none⟩) m.ws.length m.ws.length, .slice (some ⟨b2, 0, none⟩) m.rs.length m.rs.length, .slice (some ⟨b3, 0, none⟩) m.qs.length m.qs.length, .slice (some ⟨b4, 0, none⟩) m.gs.length m.gs.length] 55))).alloc (.cells #[.string m.nm, .bool m.up, .int .i64 m.ck, .bool m.kn, .int .i64 m.se, .slice (some ⟨e1, 0, none⟩) m.ws.length m.ws.length, .slice (some ⟨e2, 0, none⟩) m.rs.length m.rs.length, .slice (some ⟨e3, 0, none⟩) m.qs.length m.qs.length, .slice (some ⟨e4, 0, none⟩) m.gs.length m.gs.length] 55)) w1) := c1
  have P1 : Hid _ := P0.out.keep D1.out
  have Q1 : Hid _ := Q0.out.keep D1.out
  clear c1
  obtain ⟨ka1, kb1⟩ := boxes2 D1.out
  go_wp2_with fail
  refine (eqRunS b2 0 _ e2 0 _ m.rs _ P1.out.r2 Q1.out.r2 P1.out.l2 Q1.out.l2 hf.k2).mono ?_
  rintro e w2 ⟨rfl, c2⟩
  have D2 : Hid (Below (((w.alloc (.cells #[.string m.nm, .bool m.up, .int .i64 m.ck, .bool m.kn, .int .i64 m.se, .slice (some ⟨b1, 0, none⟩) m.ws.length m.ws.length, .slice (some ⟨b2, 0, none⟩) m.rs.length m.rs.length, .slice (some ⟨b3, 0, none⟩) m.qs.length m.qs.length, .slice (some ⟨b4, 0, none⟩) m.gs.length m.gs.length] 55))).alloc (.cells #[.string m.nm, .bool m.up, .int .i64 m.ck, .bool m.kn, .int .i64 m.se, .slice (some ⟨e1, 0, none⟩) m.ws.length m.ws.length, .slice (some ⟨e2, 0, none⟩) m.rs.length m.rs.length, .slice (some ⟨e3, 0, none⟩) m.qs.length m.qs.length, .slice (some ⟨e4, 0, none⟩) m.gs.length m.gs.length] 55)).heap.size (((w.alloc (.cells #[.string m.nm, .bool m.up, .int .i64 m.ck, .bool m.kn, .int .i64 m.se, .slice (some ⟨b1, 0, none⟩) m.ws.length m.ws.length, .slice (some ⟨b2, 0, none⟩) m.rs.length m.rs.length, .slice (some ⟨b3, 0, none⟩) m.qs.length m.qs.length, .slice (some ⟨b4, 0, none⟩) m.gs.length m.gs.length] 55))).alloc (.cells #[.string m.nm, .bool m.up, .int .i64 m.ck, .bool m.kn, .int .i64 m.se, .slice (some ⟨e1, 0, none⟩) m.ws.length m.ws.length, .slice (some ⟨e2, 0, none⟩) m.rs.length m.rs.length, .slice (some ⟨e3, 0, none⟩) m.qs.length m.qs.length, .slice (some ⟨e4, 0, none⟩) m.gs.length m.gs.length] 55)) w2) := bl_trans D1.out c2
  have P2 : Hid _ := P0.out.keep D2.out
  have Q2 : Hid _ := Q0.out.keep D2.out
  clear c2 ka1 kb1
  obtain ⟨ka2, kb2⟩ := boxes2 D2.out
  go_wp2_with fail
  refine (A.eqAskS b3 0 _ e3 0 _ m.qs _ P2.out.r3 Q2.out.r3 P2.out.l3 Q2.out.l3 hf.k3).mono ?_
  rintro e w3 ⟨rfl, c3⟩
  have D3 : Hid (Below (((w.alloc (.cells #[.string m.nm, .bool m.up, .int .i64 m.ck, .bool m.kn, .int .i64 m.se, .slice (some ⟨b1, 0, none⟩) m.ws.length m.ws.length, .slice (some ⟨b2, 0, none⟩) m.rs.length m.rs.length, .slice (some ⟨b3, 0, none⟩) m.qs.length m.qs.length, .slice (some ⟨b4, 0, none⟩) m.gs.length m.gs.length] 55))).alloc (.cells #[.string m.nm, .bool m.up, .int .i64 m.ck, .bool m.kn, .int .i64 m.se, .slice (some ⟨e1, 0, none⟩) m.ws.length m.ws.length, .slice (some ⟨e2, 0, none⟩) m.rs.length m.rs.length, .slice (some ⟨e3, 0, none⟩) m.qs.length m.qs.length, .slice (some ⟨e4, 0, none⟩) m.gs.length m.gs.length] 55)).heap.size (((w.alloc (.cells #[.string m.nm, .bool m.up, .int .i64 m.ck, .bool m.kn, .int .i64 m.se, .slice (some ⟨b1, 0, none⟩) m.ws.length m.ws.length, .slice (some ⟨b2, 0, none⟩) m.rs.length m.rs.length, .slice (some ⟨b3, 0, none⟩) m.qs.length m.qs.length, .slice (some ⟨b4, 0, none⟩) m.gs.length m.gs.length] 55))).alloc (.cells #[.string m.nm, .bool m.up, .int .i64 m.ck, .bool m.kn, .int .i64 m.se, .slice (some ⟨e1, 0, none⟩) m.ws.length m.ws.length, .slice (some ⟨e2, 0, none⟩) m.rs.length m.rs.length, .slice (some ⟨e3, 0, none⟩) m.qs.length m.qs.length, .slice (some ⟨e4, 0, none⟩) m.gs.length m.gs.length] 55)) w3) := bl_trans D2.out c3
  have P3 : Hid _ := P0.out.keep D3.out
  have Q3 : Hid _ := Q0.out.keep D3.out
  clear c3 ka2 kb2
  obtain ⟨ka3, kb3⟩ := boxes2 D3.out
  go_wp2_with fail
  refine (A.eqAskS b4 0 _ e4 0 _ m.gs _ P3.out.r4 Q3.out.r4 P3.out.l4 Q3.out.l4 hf.k4).mono ?_
  rintro e w4 ⟨rfl, c4⟩
  have D4 : Hid (Below (((w.alloc (.cells #[.string m.nm, .bool m.up, .int .i64 m.ck, .bool m.kn, .int .i64 m.se, .slice (some ⟨b1, 0, none⟩) m.ws.length m.ws.length, .slice (some ⟨b2, 0, none⟩) m.rs.length m.rs.length, .slice (some ⟨b3, 0, none⟩) m.qs.length m.qs.length, .slice (some ⟨b4, 0, none⟩) m.gs.length m.gs.length] 55))).alloc (.cells #[.string m.nm, .bool m.up, .int .i64 m.ck, .bool m.kn, .int .i64 m.se, .slice (some ⟨e1, 0, none⟩) m.ws.length m.ws.length, .slice (some ⟨e2, 0, none⟩) m.rs.length m.rs.length, .slice (some ⟨e3, 0, none⟩) m.qs.length m.qs.length, .slice (some ⟨e4, 0, none⟩) m.gs.length m.gs.length] 55)).heap.size (((w.alloc (.cells #[.string m.nm, .bool m.up, .int .i64 m.ck, .bool m.kn, .int .i64 m.se, .slice (some ⟨b1, 0, none⟩) m.ws.length m.ws.length, .slice (some ⟨b2, 0, none⟩) m.rs.length m.rs.length, .slice (some ⟨b3, 0, none⟩) m.qs.length m.qs.length, .slice (some ⟨b4, 0, none⟩) m.gs.length m.gs.length] 55))).alloc (.cells #[.string m.nm, .bool m.up, .int .i64 m.ck, .bool m.kn, .int .i64 m.se, .slice (some ⟨e1, 0, none⟩) m.ws.length m.ws.length, .slice (some ⟨e2, 0, none⟩) m.rs.length m.rs.length, .slice (some ⟨e3, 0, none⟩) m.qs.length m.qs.length, .slice (some ⟨e4, 0, none⟩) m.gs.length m.gs.length] 55)) w4) := bl_trans D3.out c4
  have P4 : Hid _ := P0.out.keep D4.out
  have Q4 : Hid _ := Q0.out.keep D4.out
  clear c4 ka3 kb3
  obtain ⟨ka4, kb4⟩ := boxes2 D4.out
  go_wp2
  go_ret
  exact ⟨rfl, bl_trans Hb0.out D4.out⟩
end Go.Proofs.Ytehiopokicegeab
/- What the law's region keeps. -/
namespace Go.Proofs.Ytehiopokicegeab
open Go.RowKit
set_option linter.unusedVariables false

theorem lawK {w w5 y : World} {m : MateD} {v1 v2 v3 v4 : Value} {bx e1 e2 e3 e4 : Nat} (hA : ∀ k, w5.cell? ⟨w.heap.size, k, none⟩ = (#[.string m.nm, .bool m.up, .int .i64 m.ck, .bool m.kn, .int .i64 m.se, v1, v2, v3, v4] : Array Value)[k]?) (hX : ∀ k, w5.cell? ⟨bx, k, none⟩ = (#[.string m.nm, .bool m.up, .int .i64 m.ck, .bool m.kn, .int .i64 m.se, .slice (some ⟨e1, 0, none⟩) m.ws.length m.ws.length, .slice (some ⟨e2, 0, none⟩) m.rs.length m.rs.length, .slice (some ⟨e3, 0, none⟩) m.qs.length m.qs.length, .slice (some ⟨e4, 0, none⟩) m.gs.length m.gs.length] : Array Value)[k]?) (zA : w.heap.size < w5.heap.size) (zX : bx < w5.heap.size) (hb : Below w5.heap.size w5 y) :
    Below w5.heap.size w5 y ∧ (y.cell? ⟨w.heap.size, 0, none⟩ = some (.string m.nm) ∧ y.cell? ⟨w.heap.size, 1, none⟩ = some (.bool m.up) ∧ y.cell? ⟨w.heap.size, 2, none⟩ = some (.int .i64 m.ck) ∧ y.cell? ⟨w.heap.size, 3, none⟩ = some (.bool m.kn) ∧ y.cell? ⟨w.heap.size, 4, none⟩ = some (.int .i64 m.se) ∧ y.cell? ⟨w.heap.size, 5, none⟩ = some (v1) ∧ y.cell? ⟨w.heap.size, 6, none⟩ = some (v2) ∧ y.cell? ⟨w.heap.size, 7, none⟩ = some (v3) ∧ y.cell? ⟨w.heap.size, 8, none⟩ = some (v4) ∧ y.cell? ⟨bx, 0, none⟩ = some (.string m.nm) ∧ y.cell? ⟨bx, 1, none⟩ = some (.bool m.up) ∧ y.cell? ⟨bx, 2, none⟩ = some (.int .i64 m.ck) ∧ y.cell? ⟨bx, 3, none⟩ = some (.bool m.kn) ∧ y.cell? ⟨bx, 4, none⟩ = some (.int .i64 m.se) ∧ y.cell? ⟨bx, 5, none⟩ = some (.slice (some ⟨e1, 0, none⟩) m.ws.length m.ws.length) ∧ y.cell? ⟨bx, 6, none⟩ = some (.slice (some ⟨e2, 0, none⟩) m.rs.length m.rs.length) ∧ y.cell? ⟨bx, 7, none⟩ = some (.slice (some ⟨e3, 0, none⟩) m.qs.length m.qs.length) ∧ y.cell? ⟨bx, 8, none⟩ = some (.slice (some ⟨e4, 0, none⟩) m.gs.length m.gs.length)) := by
  have a : ∀ k, y.cell? ⟨w.heap.size, k, none⟩ = (#[.string m.nm, .bool m.up, .int .i64 m.ck, .bool m.kn, .int .i64 m.se, v1, v2, v3, v4] : Array Value)[k]? := fun k => (hb.cell (p := ⟨w.heap.size, k, none⟩) zA).trans (hA k)
  have b : ∀ k, y.cell? ⟨bx, k, none⟩ = (#[.string m.nm, .bool m.up, .int .i64 m.ck, .bool m.kn, .int .i64 m.se, .slice (some ⟨e1, 0, none⟩) m.ws.length m.ws.length, .slice (some ⟨e2, 0, none⟩) m.rs.length m.rs.length, .slice (some ⟨e3, 0, none⟩) m.qs.length m.qs.length, .slice (some ⟨e4, 0, none⟩) m.gs.length m.gs.length] : Array Value)[k]? := fun k => (hb.cell (p := ⟨bx, k, none⟩) zX).trans (hX k)
  exact ⟨hb, a 0, a 1, a 2, a 3, a 4, a 5, a 6, a 7, a 8, b 0, b 1, b 2, b 3, b 4, b 5, b 6, b 7, b 8⟩

end Go.Proofs.Ytehiopokicegeab
/- What the reading of a mate says of memory. -/
namespace Go.Proofs.Ytehiopokicegeab
open Go.ChangeShapes Go.WideShapes Go.ChangeAt Go.RowKit

theorem cells_mate : Try.prog.cellsOf 49 = 9 := by kernel_rfl
theorem cells_bool : Try.prog.cellsOf 4 = 1 := by kernel_rfl
theorem cells_ws : Try.prog.cellsOf 46 = 1 := by kernel_rfl
theorem cells_rs : Try.prog.cellsOf 22 = 1 := by kernel_rfl
theorem cells_qs : Try.prog.cellsOf 47 = 1 := by kernel_rfl
theorem list9 {α : Type} {l : List α} (h : l.length = 9) : ∃ a b c d e f g i j, l = [a, b, c, d, e, f, g, i, j] := by
  match l, h with
  | [a, b, c, d, e, f, g, i, j], _ => exact ⟨a, b, c, d, e, f, g, i, j, rfl⟩

section
variable {H : Type} {enc : TypeId × Value → H} {Z : World} {base : Nat} {spare : Nat → Bool} {held : Bool} {fuel : Nat} {cs : List Value} {x : DataW H × List MemPlace}
theorem in_wants {v : Value} (hx : DataW.trod enc Try.prog Z base spare held fuel 46 [v] = some x) : ∃ l, W.In Z v l := by
  rcases W.read_wants hx with ⟨a, cap, h⟩ | ⟨b, off, cap, rs, h, -, hl, hb, hR, hf⟩
  · simp only [List.cons.injEq, and_true] at h; exact ⟨[], Or.inl ⟨rfl, a, cap, h⟩⟩
  · simp only [List.cons.injEq, and_true] at h; exact ⟨rs, Or.inr ⟨b, off, cap, h, hl, hb, hR, hf⟩⟩
theorem in_runs {v : Value} (hx : DataW.trod enc Try.prog Z base spare held fuel 22 [v] = some x) : ∃ l, In Z v l := by
  rcases read_runs hx with ⟨a, cap, h⟩ | ⟨b, off, cap, rs, h, -, hl, hb, hR, hf⟩
  · simp only [List.cons.injEq, and_true] at h; exact ⟨[], Or.inl ⟨rfl, a, cap, h⟩⟩
  · simp only [List.cons.injEq, and_true] at h; exact ⟨rs, Or.inr ⟨b, off, cap, h, hl, hb, hR, hf⟩⟩
theorem in_asks {v : Value} (hx : DataW.trod enc Try.prog Z base spare held fuel 47 [v] = some x) : ∃ l, A.In Z v l := by
  rcases A.read_asks hx with ⟨a, cap, h⟩ | ⟨b, off, cap, rs, h, -, hl, hb, hR, hf⟩
  · simp only [List.cons.injEq, and_true] at h; exact ⟨[], Or.inl ⟨rfl, a, cap, h⟩⟩
  · simp only [List.cons.injEq, and_true] at h; exact ⟨rs, Or.inr ⟨b, off, cap, h, hl, hb, hR, hf⟩⟩
theorem read_mate (hx : DataW.trod enc Try.prog Z base spare held fuel 49 cs = some x) :
    ∃ (m : MateD) (v1 v2 v3 v4 : Value), cs = [.string m.nm, .bool m.up, .int .i64 m.ck, .bool m.kn, .int .i64 m.se, v1, v2, v3, v4] ∧ m.nm.size ≤ maxLen ∧ W.In Z v1 m.ws ∧ In Z v2 m.rs ∧ A.In Z v3 m.qs ∧ A.In Z v4 m.gs := by
  obtain ⟨xs, n, rfl, -, hl, hn, hf⟩ := DataW.trod_struct Try.underlying49 hx
  rw [cells_mate] at hl
  obtain ⟨c0, c1, c2, c3, c4, c5, c6, c7, c8, rfl⟩ := list9 hl
  have hn' : xs.length = 9 := hn
  have f0 : DataW.trod enc Try.prog Z base spare held n 9 (List.take (Try.prog.cellsOf 9) [c0, c1, c2, c3, c4, c5, c6, c7, c8]) = xs[0]? := hf 0 _ rfl
  have f1 : DataW.trod enc Try.prog Z base spare held n 4 (List.take (Try.prog.cellsOf 4) [c1, c2, c3, c4, c5, c6, c7, c8]) = xs[1]? := hf 1 _ rfl
  have f2 : DataW.trod enc Try.prog Z base spare held n 3 (List.take (Try.prog.cellsOf 3) [c2, c3, c4, c5, c6, c7, c8]) = xs[2]? := hf 2 _ rfl
  have f3 : DataW.trod enc Try.prog Z base spare held n 4 (List.take (Try.prog.cellsOf 4) [c3, c4, c5, c6, c7, c8]) = xs[3]? := hf 3 _ rfl
  have f4 : DataW.trod enc Try.prog Z base spare held n 3 (List.take (Try.prog.cellsOf 3) [c4, c5, c6, c7, c8]) = xs[4]? := hf 4 _ rfl
  have f5 : DataW.trod enc Try.prog Z base spare held n 46 (List.take (Try.prog.cellsOf 46) [c5, c6, c7, c8]) = xs[5]? := hf 5 _ rfl
  have f6 : DataW.trod enc Try.prog Z base spare held n 22 (List.take (Try.prog.cellsOf 22) [c6, c7, c8]) = xs[6]? := hf 6 _ rfl
  have f7 : DataW.trod enc Try.prog Z base spare held n 47 (List.take (Try.prog.cellsOf 47) [c7, c8]) = xs[7]? := hf 7 _ rfl
  have f8 : DataW.trod enc Try.prog Z base spare held n 47 (List.take (Try.prog.cellsOf 47) [c8]) = xs[8]? := hf 8 _ rfl
  simp only [cells_int, cells_string, cells_bool, cells_ws, cells_rs, cells_qs, List.take_succ_cons, List.take_zero] at f0 f1 f2 f3 f4 f5 f6 f7 f8
  obtain ⟨y0, g0⟩ := some_of hn' (by decide) f0
  obtain ⟨y1, g1⟩ := some_of hn' (by decide) f1
  obtain ⟨y2, g2⟩ := some_of hn' (by decide) f2
  obtain ⟨y3, g3⟩ := some_of hn' (by decide) f3
  obtain ⟨y4, g4⟩ := some_of hn' (by decide) f4
  obtain ⟨y5, g5⟩ := some_of hn' (by decide) f5
  obtain ⟨y6, g6⟩ := some_of hn' (by decide) f6
  obtain ⟨y7, g7⟩ := some_of hn' (by decide) f7
  obtain ⟨y8, g8⟩ := some_of hn' (by decide) f8
  obtain ⟨nm, e0, -, w0⟩ := DataW.trod_string Try.underlying9 g0
  obtain ⟨up, e1, -⟩ := DataW.trod_bool Try.underlying4 g1
  obtain ⟨ck, e2, -, w2⟩ := DataW.trod_int Try.underlying3 g2
  obtain ⟨kn, e3, -⟩ := DataW.trod_bool Try.underlying4 g3
  obtain ⟨se, e4, -, w4⟩ := DataW.trod_int Try.underlying3 g4
  obtain ⟨ws, h5⟩ := in_wants g5
  obtain ⟨rs, h6⟩ := in_runs g6
  obtain ⟨qs, h7⟩ := in_asks g7
  obtain ⟨gs, h8⟩ := in_asks g8
  simp only [List.cons.injEq, and_true] at e0 e1 e2 e3 e4
  subst e0 e1 e2 e3 e4
  exact ⟨⟨nm, up, ck, kn, se, ws, rs, qs, gs⟩, c5, c6, c7, c8, rfl, w0, h5, h6, h7, h8⟩
end
end Go.Proofs.Ytehiopokicegeab
/- Nothing has turned but for one block. -/
namespace Go.Proofs.Ytehiopokicegeab
open Go.RowKit
set_option linter.unusedVariables false

/-- Nothing that was there has turned but for one block. -/
structure Ex (kr : Nat) (w w' : World) : Prop where
  os : w'.os = w.os
  tape : w'.tape = w.tape
  output : w'.output = w.output
  size : w.heap.size ≤ w'.heap.size
  block : ∀ k, k < w.heap.size → k ≠ kr → w'.heap[k]? = w.heap[k]?
theorem Ex.refl (kr : Nat) (w : World) : Ex kr w w := ⟨rfl, rfl, rfl, Nat.le_refl _, fun _ _ _ => rfl⟩
theorem Ex.trans {kr : Nat} {a b c : World} (h : Ex kr a b) (k : Ex kr b c) : Ex kr a c :=
  ⟨k.os.trans h.os, k.tape.trans h.tape, k.output.trans h.output, Nat.le_trans h.size k.size, fun i hi hne => (k.block i (Nat.lt_of_lt_of_le hi h.size) hne).trans (h.block i hi hne)⟩
theorem Ex.of_below {kr : Nat} {a b : World} (h : Below a.heap.size a b) : Ex kr a b := ⟨h.os, h.tape, h.output, h.size, fun i hi _ => h.block i hi⟩
theorem Ex.below {kr B : Nat} {a b : World} (h : Ex kr a b) (hB : B ≤ kr) (hz : B ≤ a.heap.size) : Below B a b := ⟨h.os, h.tape, h.output, h.size, fun i hi => h.block i (by omega) (by omega)⟩
theorem Ex.set {kr : Nat} {a b : World} (h : Ex kr a b) (o : Nat) (u : Value) : Ex kr a (b.setCell ⟨kr, o, none⟩ u) :=
  h.trans ⟨rfl, rfl, rfl, by simp [World.setCell], fun i hi hne => Below.heap_setCell _ _ _ _ hne⟩
theorem Ex.drewN {kr : Nat} {a b : World} (h : Ex kr a b) (n : Nat) : Ex kr a (b.drewN n) := ⟨h.os, h.tape, h.output, h.size, h.block⟩
theorem Ex.cell {kr : Nat} {a b : World} (h : Ex kr a b) {p : Addr} (hp : p.block < a.heap.size) (hne : p.block ≠ kr) : b.cell? p = a.cell? p := World.cell?_of_block (w := a) (h.block p.block hp hne)
theorem Ex.frozen {kr : Nat} {a b : World} (h : Ex kr a b) {p : Addr} (hp : p.block < a.heap.size) (hne : p.block ≠ kr) : b.frozen? p = a.frozen? p := World.frozen?_of_block (w := a) (h.block p.block hp hne)

theorem Ex.cells {kr : Nat} : ∀ (vs : List Value) (o : Nat) {a b : World}, Ex kr a b → Ex kr a (b.setCells kr o vs)
  | [], _, _, _, h => h
  | v :: r, o, _, _, h => Ex.cells r (o + 1) (h.set o v)
theorem Ex.mono {kr : Nat} {a b c : World} (h : Below a.heap.size a b) (k : Ex kr b c) (hk : a.heap.size ≤ kr) : Below a.heap.size a c := h.trans (k.below hk h.size)
theorem there_ex {kr : Nat} {x y : World} {k o n : Nat} (h : x.there k o n) (hk : k < x.heap.size) (hE : Ex kr x y) (hne : k ≠ kr) : y.there k o n :=
  fun j hj => ⟨by rw [hE.cell (p := ⟨k, o + j, none⟩) hk hne]; exact (h j hj).1, by rw [hE.frozen (p := ⟨k, o + j, none⟩) hk hne]; exact (h j hj).2⟩
theorem there_keep2 {x y : World} {k o n : Nat} (h : x.there k o n) (hk : k < x.heap.size) (hb : Below x.heap.size x y) : y.there k o n :=
  fun j hj => ⟨by rw [hb.cell (p := ⟨k, o + j, none⟩) hk]; exact (h j hj).1, by rw [hb.frozen (p := ⟨k, o + j, none⟩) hk]; exact (h j hj).2⟩
theorem range_keep {w w' : World} {b o : Nat} {vs : List Value} (h : w.rangeAt b o vs) (hb : b < w.heap.size) (hB : Below w.heap.size w w') : w'.rangeAt b o vs :=
  fun j v hj => (hB.cell (p := ⟨b, o + j, none⟩) hb).trans (h j v hj)
theorem range_append {w : World} {b o : Nat} {xs ys : List Value} (h1 : w.rangeAt b o xs) (h2 : w.rangeAt b (o + xs.length) ys) : w.rangeAt b o (xs ++ ys) := by
  intro j v hj
  rcases Nat.lt_or_ge j xs.length with hl | hl
  · rw [List.getElem?_append_left hl] at hj; exact h1 j v hj
  · rw [List.getElem?_append_right hl] at hj
    have := h2 (j - xs.length) v hj
    rwa [show o + xs.length + (j - xs.length) = o + j from by omega] at this
end Go.Proofs.Ytehiopokicegeab
/- Rows of runs, behind a step that turns one block. -/
namespace Go.Proofs.Ytehiopokicegeab
open Go.RowKit
set_option linter.unusedVariables false

theorem RowsAt.ex {kr : Nat} {w w' : World} {b off : Nat} {rs : List RunD} (h : RowsAt w b off rs) (hb : b < w.heap.size) (hE : Ex kr w w') (hne : b ≠ kr) : RowsAt w' b off rs :=
  fun k r hk j v hj => (hE.cell (p := ⟨b, off + k * 11 + j, none⟩) hb hne).trans (h k r hk j v hj)
end Go.Proofs.Ytehiopokicegeab
/- A list of runs in a row that the call itself made. -/
namespace Go.Proofs.Ytehiopokicegeab
open Go.RowKit
set_option linter.unusedVariables false

def flatR (rs : List RunD) : List Value := rs.flatMap RunD.cells
theorem flatR_len : ∀ rs : List RunD, (flatR rs).length = rs.length * 11
  | [] => rfl
  | r :: rs => by
    have := flatR_len rs
    simp only [flatR, List.flatMap_cons, List.length_append] at this ⊢
    simp only [this, List.length_cons]
    show 11 + rs.length * 11 = _
    omega
theorem flatR_snoc (rs : List RunD) (r : RunD) : flatR (rs ++ [r]) = flatR rs ++ r.cells := by simp [flatR]
theorem flatR_at : ∀ (rs : List RunD) (k : Nat) (r : RunD), rs[k]? = some r → ∀ j, j < 11 → (flatR rs)[k * 11 + j]? = r.cells[j]?
  | [], k, r, h, j, hj => by simp at h
  | q :: rs, 0, r, h, j, hj => by
    simp at h; subst h
    rw [flatR, List.flatMap_cons, List.getElem?_append_left (by show _ < 11; omega)]
    simp
  | q :: rs, k + 1, r, h, j, hj => by
    have ih := flatR_at rs k r (by simpa using h) j hj
    rw [flatR, List.flatMap_cons, List.getElem?_append_right (by show 11 ≤ _; omega)]
    rw [← ih]
    show (flatR rs)[(k + 1) * 11 + j - 11]? = _
    rw [show (k + 1) * 11 + j - 11 = k * 11 + j from by omega]
theorem flatR_one (rs : List RunD) : ∀ u ∈ flatR rs, u.oneCell' = true := by
  intro u hu
  obtain ⟨r, -, h⟩ := List.mem_flatMap.1 hu
  simp [RunD.cells] at h
  rcases h with rfl | rfl | rfl | rfl | rfl | rfl | rfl | rfl | rfl | rfl | rfl <;> rfl

theorem rows_of_owns {w : World} {base : Nat} {v : Value} {rs : List RunD} (h : w.ownsRow base 39 11 v rs.length (flatR rs)) :
    (v = .slice none 0 0 ∧ rs = []) ∨ ∃ g cap, v = .slice (some ⟨g, 0, none⟩) rs.length cap ∧ base ≤ g ∧ g < w.heap.size ∧ RowsAt w g 0 rs ∧ w.there g 0 (rs.length * 11) := by
  obtain ⟨hl, ⟨rfl, hn⟩ | ⟨g, cap, cur, rfl, hb, hg, hnc, hcm, hcs, htk⟩⟩ := h
  · exact Or.inl ⟨rfl, List.length_eq_zero_iff.1 hn⟩
  · refine Or.inr ⟨g, cap, rfl, hb, (Array.getElem?_eq_some_iff.1 hg).1, ?_, ?_⟩
    · intro k r hk j u hj
      have hj11 : j < 11 := by
        rcases Nat.lt_or_ge j 11 with h' | h'
        · exact h'
        · rw [List.getElem?_eq_none (by simpa [RunD.cells] using h')] at hj; cases hj
      have hf := flatR_at rs k r hk j hj11
      rw [hj, ← htk, List.getElem?_take] at hf
      split at hf
      · rw [cell_of_row w g _ cur _ (0, 0) hg, Nat.zero_add]
        simpa using hf
      · cases hf
    · intro j hj
      have hlt : j < cur.size := by
        have : rs.length * 11 ≤ cap * 11 := Nat.mul_le_mul_right 11 hnc
        omega
      refine ⟨?_, ?_⟩
      · rw [cell_of_row w g _ cur _ (0, 0) hg, Nat.zero_add]
        simp [Array.getElem?_eq_getElem hlt]
      · simp [World.frozen?, hg]

theorem owns_below {x y : World} {base : Nat} {e : TypeId} {size : Nat} {v : Value} {n : Nat} {xs : List Value} (h : x.ownsRow base e size v n xs) (hb : Below x.heap.size x y) : y.ownsRow base e size v n xs :=
  h.kept (row := none) ⟨hb.os, hb.tape, hb.output, hb.size, fun k hk _ => hb.block k hk⟩ (by cases hv : v.ownBlock <;> simp)
theorem owns_ge {x : World} {base : Nat} {e : TypeId} {size : Nat} {v : Value} {n : Nat} {xs : List Value} (h : x.ownsRow base e size v n xs) : ∀ k, v.ownBlock = some k → base ≤ k := fun k hk => (h.lt k hk).1
theorem new_cells (x : World) (N : Nat) (hN : N = x.heap.size) (arr : Array Value) (t : TypeId) (vs : List Value) (hv : arr.toList = vs) : ∀ j u, vs[j]? = some u → (x.alloc (.cells arr t)).cell? ((⟨N, 0, none⟩ : Addr).add j) = some u := by
  intro j u hj
  subst hN hv
  rw [Addr.add_mid, Nat.zero_add, World.cell?_alloc_new]
  simpa using hj
theorem cellsR_one (r : RunD) : ∀ u ∈ r.cells, u.oneCell' = true := fun u hu => flatR_one [r] u (by simpa [flatR] using hu)
theorem infoR : (Try.prog.info? 39).map (fun i => (i.zero, i.size, i.bytes)) = some (some (.agg #[.string ⟨#[]⟩, .int .i64 0, .string ⟨#[]⟩, .int .i64 0, .int .i64 0, .int .i64 0, .int .i64 0, .int .i64 0, .int .i64 0, .int .i64 0, .int .i64 0]), 11, 104) := by kernel_rfl
end Go.Proofs.Ytehiopokicegeab
/- Marks: the text of a number. -/
namespace Go.Proofs.Ytehiopokicegeab
open Go.RowKit
set_option linter.unusedVariables false

def mkGo : Nat → Int → ByteArray → ByteArray
  | 0, _, s => s
  | f + 1, k, s => if 0 < k then mkGo f (k / 10) ({ data := #[UInt8.ofNat (48 + k % 10).toNat] } ++ s) else s
/-- The text of a mark. -/
def markB (k : Int) : ByteArray := if k ≤ 0 then { data := #[109, 48] } else { data := #[109] } ++ mkGo 13 k { data := #[] }
theorem mkGo_end (f : Nat) (k : Int) (s : ByteArray) (h : k ≤ 0) : mkGo f k s = s := by
  cases f with
  | zero => rfl
  | succ f => exact if_neg (by omega)
theorem mkGo_step (f : Nat) (k : Int) (s : ByteArray) (h : 0 < k) : mkGo (f + 1) k s = mkGo f (k / 10) ({ data := #[UInt8.ofNat (48 + k % 10).toNat] } ++ s) := if_pos h

theorem size_front (c : UInt8) (t : ByteArray) : (({ data := #[c] } : ByteArray) ++ t).size = 1 + t.size := by rw [ByteArray.size_append']; rfl

theorem build_byte (n : Int) (w : World) : Sem.run Try.prog (Instr.buildSlice 129 1 #[(0, .int .u8 n)]) w = .ok (.slice (some ⟨w.heap.size, 0, none⟩) 1 1) (w.alloc (.cells #[.int .u8 n] 5)) := by kernel_rfl
theorem conv_byte (n : Int) (w : World) : Sem.run Try.prog (convert 129 9 (.slice (some ⟨w.heap.size, 0, none⟩) 1 1)) (w.alloc (.cells #[.int .u8 n] 5)) = .ok (.string ⟨#[UInt8.ofNat n.toNat]⟩) (w.alloc (.cells #[.int .u8 n] 5)) := by
  rw [run_convert_bytes_string _ _ _ 5 _ _ _ Try.underlying129 Try.underlying5 Try.underlying9]
  rw [run_bytesToString _ _ _ _ [n] (by simp [loadCells, go_sem])]
  rfl

theorem markText_any (k : Int) (hk : k ≤ 1000000000000) (w : World) : Calls Try.prog 53 #[.int .i64 k] w fun e w' => e = .returned (.string (markB k)) ∧ Below w.heap.size w w' := by
  by_cases h0 : k ≤ 0
  · have Hm : Hid (markB k = { data := #[109, 48] }) := if_pos h0
    go_enter Try.func53, Try.ntmps53
    go_wp2
    go_ret
    exact ⟨by rw [Hm.out]; rfl, Below.refl _ _⟩
  · have Hm : Hid (markB k = { data := #[109] } ++ mkGo 13 k { data := #[] }) := if_neg h0
    have hb := build_byte
    have hc := conv_byte
    go_enter Try.func53, Try.ntmps53
    go_wp2
    go_loopw [0, 3] (fun i s wx => ∃ (n : Int) (t : ByteArray), 0 ≤ n ∧ n ≤ 1000000000000 ∧ t.size ≤ 20 ∧ i = .int .i64 n ∧ s = .string t ∧ Hid (∃ f : Nat, n < (10 : Int) ^ f ∧ t.size + f ≤ 20 ∧ mkGo f n t = mkGo 13 k { data := #[] }) ∧ Below w.heap.size w wx) (fun i _ _ => (intOf i).toNat)
    case atStart => exact ⟨k, _, by omega, hk, by decide, rfl, rfl, ⟨13, by omega, by decide, rfl⟩, Below.refl _ _⟩
    case round =>
      obtain ⟨n, t, n0, n1, t1, rfl, rfl, Hf, hB⟩ := hrel
      by_cases hlt : 0 < n
      · go_wp2
        have hs : ∃ f : Nat, n / 10 < (10 : Int) ^ f ∧ 1 + t.size + f ≤ 20 ∧ mkGo f (n / 10) ({ data := #[UInt8.ofNat (48 + n % 10).toNat] } ++ t) = mkGo 13 k { data := #[] } := by
          obtain ⟨f, f1, f2, f3⟩ := Hf.out
          cases f with
          | zero => simp at f1; omega
          | succ f => exact ⟨f, by rw [Int.pow_succ] at f1; omega, by omega, by rw [← mkGo_step f n t hlt]; exact f3⟩
        obtain ⟨f, f1, f2, f3⟩ := hs
        exact ⟨⟨n / 10, _, by omega, by omega, by rw [size_front]; omega, rfl, rfl, ⟨f, f1, by rw [size_front]; omega, f3⟩, bl_alloc hB _⟩, by simp [intOf]; omega⟩
      · go_wp2
        go_ret
        obtain ⟨f, f1, f2, f3⟩ := Hf.out
        rw [mkGo_end f n t (by omega)] at f3
        exact ⟨by rw [Hm.out, ← f3]; rfl, hB⟩
end Go.Proofs.Ytehiopokicegeab
