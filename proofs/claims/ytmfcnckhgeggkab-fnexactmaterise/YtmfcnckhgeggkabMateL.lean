/- A mate is measured, copied and held against another. -/
import Derived.Test.YtmfcnckhgeggkabSz
import Derived.Test.YtmfcnckhgeggkabMateV
import Derived.Test.YtmfcnckhgeggkabRows3
import Derived.Test.YtmfcnckhgeggkabWRows3
import Derived.Test.YtmfcnckhgeggkabARows3
namespace Go.Proofs.Ytmfcnckhgeggkab
open Go.RowKit
set_option linter.unusedVariables false

theorem boxes2 {w w' : World} {m : MateD} {b1 b2 b3 b4 e1 e2 e3 e4 : Nat} (hb : Below (((w.alloc (.cells #[.string m.nm, .bool m.up, .int .i64 m.ck, .bool m.kn, .int .i64 m.se, .slice (some ⟨b1, 0, none⟩) m.ws.length m.ws.length, .slice (some ⟨b2, 0, none⟩) m.rs.length m.rs.length, .slice (some ⟨b3, 0, none⟩) m.qs.length m.qs.length, .slice (some ⟨b4, 0, none⟩) m.gs.length m.gs.length] 55))).alloc (.cells #[.string m.nm, .bool m.up, .int .i64 m.ck, .bool m.kn, .int .i64 m.se, .slice (some ⟨e1, 0, none⟩) m.ws.length m.ws.length, .slice (some ⟨e2, 0, none⟩) m.rs.length m.rs.length, .slice (some ⟨e3, 0, none⟩) m.qs.length m.qs.length, .slice (some ⟨e4, 0, none⟩) m.gs.length m.gs.length] 55)).heap.size (((w.alloc (.cells #[.string m.nm, .bool m.up, .int .i64 m.ck, .bool m.kn, .int .i64 m.se, .slice (some ⟨b1, 0, none⟩) m.ws.length m.ws.length, .slice (some ⟨b2, 0, none⟩) m.rs.length m.rs.length, .slice (some ⟨b3, 0, none⟩) m.qs.length m.qs.length, .slice (some ⟨b4, 0, none⟩) m.gs.length m.gs.length] 55))).alloc (.cells #[.string m.nm, .bool m.up, .int .i64 m.ck, .bool m.kn, .int .i64 m.se, .slice (some ⟨e1, 0, none⟩) m.ws.length m.ws.length, .slice (some ⟨e2, 0, none⟩) m.rs.length m.rs.length, .slice (some ⟨e3, 0, none⟩) m.qs.length m.qs.length, .slice (some ⟨e4, 0, none⟩) m.gs.length m.gs.length] 55)) w') :
    (∀ k, w'.cell? ⟨w.heap.size, k, none⟩ = (#[.string m.nm, .bool m.up, .int .i64 m.ck, .bool m.kn, .int .i64 m.se, .slice (some ⟨b1, 0, none⟩) m.ws.length m.ws.length, .slice (some ⟨b2, 0, none⟩) m.rs.length m.rs.length, .slice (some ⟨b3, 0, none⟩) m.qs.length m.qs.length, .slice (some ⟨b4, 0, none⟩) m.gs.length m.gs.length] : Array Value)[k]?) ∧ (∀ k, w'.cell? ⟨w.heap.size + 1, k, none⟩ = (#[.string m.nm, .bool m.up, .int .i64 m.ck, .bool m.kn, .int .i64 m.se, .slice (some ⟨e1, 0, none⟩) m.ws.length m.ws.length, .slice (some ⟨e2, 0, none⟩) m.rs.length m.rs.length, .slice (some ⟨e3, 0, none⟩) m.qs.length m.qs.length, .slice (some ⟨e4, 0, none⟩) m.gs.length m.gs.length] : Array Value)[k]?) := by
  constructor
  · intro k
    rw [hb.cell (p := ⟨w.heap.size, k, none⟩) (by simp; omega)]
    simp [go_sem]
  · intro k
    rw [hb.cell (p := ⟨w.heap.size + 1, k, none⟩) (by simp)]
    simp [go_sem]

set_option maxRecDepth 4000 in
set_option maxHeartbeats 2000000 in
theorem szMate_any (m : MateD) (v1 v2 v3 v4 : Value) (w : World) (i1 : W.In w v1 m.ws) (i2 : In w v2 m.rs) (i3 : A.In w v3 m.qs) (i4 : A.In w v4 m.gs) (hn : m.nm.size ≤ maxLen) :
    Calls Try.prog 25 #[.agg #[.string m.nm, .bool m.up, .int .i64 m.ck, .bool m.kn, .int .i64 m.se, v1, v2, v3, v4], .int .i64 1048576] w fun e w' => (e = .returned (.int .i64 (-1)) ∨ ∃ x : Int, e = .returned (.int .i64 x) ∧ 0 ≤ x ∧ m.ws.length ≤ 1048576 ∧ m.rs.length ≤ 1048576 ∧ m.qs.length ≤ 1048576 ∧ m.gs.length ≤ 1048576) ∧ Below w.heap.size w w' := by
  have Hb0 : Hid (Below w.heap.size w (w.alloc (.cells #[.string m.nm, .bool m.up, .int .i64 m.ck, .bool m.kn, .int .i64 m.se, v1, v2, v3, v4] 49))) := bl_alloc (Below.refl _ _) _
  by_cases hnm : (m.nm.size : Int) ≤ 1048576
  · go_enter Try.func25, Try.ntmps25
    go_wp2_with fail
    refine (W.sz_in (i1.keep Hb0.out) (1048576 - (m.nm.size : Int)) (by omega) (by omega)).mono ?_
    rintro e w1 ⟨hx1, c1⟩
    have C1 : Hid (Below w.heap.size w w1) := bl_trans Hb0.out c1
    have D1 : Hid (Below (w.alloc (.cells #[.string m.nm, .bool m.up, .int .i64 m.ck, .bool m.kn, .int .i64 m.se, v1, v2, v3, v4] 49)).heap.size (w.alloc (.cells #[.string m.nm, .bool m.up, .int .i64 m.ck, .bool m.kn, .int .i64 m.se, v1, v2, v3, v4] 49)) w1) := c1
    clear c1
    have kb1 := box_keep D1.out
    rcases hx1 with rfl | ⟨x1, rfl, p1, r1, l1⟩
    · go_wp2
      go_ret
      exact ⟨Or.inl rfl, C1.out⟩
    go_wp2_with fail
    refine (sz_in (i2.keep C1.out) x1 (by omega) (by omega)).mono ?_
    rintro e w2 ⟨hx2, c2⟩
    have C2 : Hid (Below w.heap.size w w2) := bl_trans C1.out c2
    have D2 : Hid (Below (w.alloc (.cells #[.string m.nm, .bool m.up, .int .i64 m.ck, .bool m.kn, .int .i64 m.se, v1, v2, v3, v4] 49)).heap.size (w.alloc (.cells #[.string m.nm, .bool m.up, .int .i64 m.ck, .bool m.kn, .int .i64 m.se, v1, v2, v3, v4] 49)) w2) := bl_trans D1.out c2
    clear c2 kb1
    have kb2 := box_keep D2.out
    rcases hx2 with rfl | ⟨x2, rfl, p2, r2, l2⟩
    · go_wp2
      go_ret
      exact ⟨Or.inl rfl, C2.out⟩
    go_wp2_with fail
    refine (A.sz_in (i3.keep C2.out) x2 (by omega) (by omega)).mono ?_
    rintro e w3 ⟨hx3, c3⟩
    have C3 : Hid (Below w.heap.size w w3) := bl_trans C2.out c3
    have D3 : Hid (Below (w.alloc (.cells #[.string m.nm, .bool m.up, .int .i64 m.ck, .bool m.kn, .int .i64 m.se, v1, v2, v3, v4] 49)).heap.size (w.alloc (.cells #[.string m.nm, .bool m.up, .int .i64 m.ck, .bool m.kn, .int .i64 m.se, v1, v2, v3, v4] 49)) w3) := bl_trans D2.out c3
    clear c3 kb2
    have kb3 := box_keep D3.out
    rcases hx3 with rfl | ⟨x3, rfl, p3, r3, l3⟩
    · go_wp2
      go_ret
      exact ⟨Or.inl rfl, C3.out⟩
    go_wp2_with fail
    refine (A.sz_in (i4.keep C3.out) x3 (by omega) (by omega)).mono ?_
    rintro e w4 ⟨hx4, c4⟩
    have C4 : Hid (Below w.heap.size w w4) := bl_trans C3.out c4
    have D4 : Hid (Below (w.alloc (.cells #[.string m.nm, .bool m.up, .int .i64 m.ck, .bool m.kn, .int .i64 m.se, v1, v2, v3, v4] 49)).heap.size (w.alloc (.cells #[.string m.nm, .bool m.up, .int .i64 m.ck, .bool m.kn, .int .i64 m.se, v1, v2, v3, v4] 49)) w4) := bl_trans D3.out c4
    clear c4 kb3
    have kb4 := box_keep D4.out
    rcases hx4 with rfl | ⟨x4, rfl, p4, r4, l4⟩
    · go_wp2
      go_ret
      exact ⟨Or.inl rfl, C4.out⟩
    go_wp2
    go_ret
    exact ⟨Or.inr ⟨x4, rfl, p4, l1, l2, l3, l4⟩, C4.out⟩
  · unfold maxLen at hn
    have hnm' : (1048576 : Int) < (m.nm.size : Int) := by omega
    go_enter Try.func25, Try.ntmps25
    go_wp2
    go_ret
    exact ⟨Or.inl rfl, Hb0.out⟩

set_option maxRecDepth 4000 in
set_option maxHeartbeats 2000000 in
theorem eqMate_same (m : MateD) (b1 b2 b3 b4 e1 e2 e3 e4 : Nat) (w : World) (hL : Lists w m b1 b2 b3 b4) (hL2 : Lists w m e1 e2 e3 e4) (hf : m.fits) :
    Calls Try.prog 29 #[.agg #[.string m.nm, .bool m.up, .int .i64 m.ck, .bool m.kn, .int .i64 m.se, .slice (some ⟨b1, 0, none⟩) m.ws.length m.ws.length, .slice (some ⟨b2, 0, none⟩) m.rs.length m.rs.length, .slice (some ⟨b3, 0, none⟩) m.qs.length m.qs.length, .slice (some ⟨b4, 0, none⟩) m.gs.length m.gs.length], .agg #[.string m.nm, .bool m.up, .int .i64 m.ck, .bool m.kn, .int .i64 m.se, .slice (some ⟨e1, 0, none⟩) m.ws.length m.ws.length, .slice (some ⟨e2, 0, none⟩) m.rs.length m.rs.length, .slice (some ⟨e3, 0, none⟩) m.qs.length m.qs.length, .slice (some ⟨e4, 0, none⟩) m.gs.length m.gs.length]] w fun e w' => e = .returned (.bool true) ∧ Below w.heap.size w w' := by
  have Hb0 : Hid (Below w.heap.size w (((w.alloc (.cells #[.string m.nm, .bool m.up, .int .i64 m.ck, .bool m.kn, .int .i64 m.se, .slice (some ⟨b1, 0, none⟩) m.ws.length m.ws.length, .slice (some ⟨b2, 0, none⟩) m.rs.length m.rs.length, .slice (some ⟨b3, 0, none⟩) m.qs.length m.qs.length, .slice (some ⟨b4, 0, none⟩) m.gs.length m.gs.length] 55))).alloc (.cells #[.string m.nm, .bool m.up, .int .i64 m.ck, .bool m.kn, .int .i64 m.se, .slice (some ⟨e1, 0, none⟩) m.ws.length m.ws.length, .slice (some ⟨e2, 0, none⟩) m.rs.length m.rs.length, .slice (some ⟨e3, 0, none⟩) m.qs.length m.qs.length, .slice (some ⟨e4, 0, none⟩) m.gs.length m.gs.length] 55))) := bl_alloc (bl_alloc (Below.refl _ _) _) _
  have P0 : Hid _ := hL.keep Hb0.out
  have Q0 : Hid _ := hL2.keep Hb0.out
  go_enter Try.func29, Try.ntmps29
  go_wp2_with fail
  refine (W.eqWantS b1 0 _ e1 0 _ m.ws _ P0.out.r1 Q0.out.r1 P0.out.l1 Q0.out.l1 hf.k1).mono ?_
  rintro e w1 ⟨rfl, c1⟩
  have D1 : Hid (Below (((w.alloc (.cells #[.string m.nm, .bool m.up, .int .i64 m.ck, .bool m.kn, .int .i64 m.se, .slice (some ⟨b1, 0, none⟩) m.ws.length m.ws.length, .slice (some ⟨b2, 0, none⟩) m.rs.length m.rs.length, .slice (some ⟨b3, 0, none⟩) m.qs.length m.qs.length, .slice (some ⟨b4, 0, none⟩) m.gs.length m.gs.length] 55))).alloc (.cells #[.string m.nm, .bool m.up, .int .i64 m.ck, .bool m.kn, .int .i64 m.se, .slice (some ⟨e1, 0, none⟩) m.ws.length m.ws.length, .slice (some ⟨e2, 0, none⟩) m.rs.length m.rs.length, .slice (some ⟨e3, 0, none⟩) m.qs.length m.qs.length, .slice (some ⟨e4, 0, none⟩) m.gs.length m.gs.length] 55)).heap.size (((w.alloc (.cells #[.string m.nm, .bool m.up, .int .i64 m.ck, .bool m.kn, .int .i64 m.se, .slice (some ⟨b1, 0, none⟩) m.ws.length m.ws.length, .slice (some ⟨b2, 0, none⟩) m.rs.length m.rs.length, .slice (some ⟨b3, 0, none⟩) m.qs.length m.qs.length, .slice (some ⟨b4, 0, none⟩) m.gs.length m.gs.length] 55))).alloc (.cells #[.string m.nm, .bool m.up, .int .i64 m.ck, .bool m.kn, .int .i64 m.se, .slice (some ⟨e1, 0, none⟩) m.ws.length m.ws.length, .slice (some ⟨e2, 0, none⟩) m.rs.length m.rs.length, .slice (some ⟨e3, 0, none⟩) m.qs.length m.qs.length, .slice (some ⟨e4, 0, none⟩) m.gs.length m.gs.length] 55)) w1) := c1
  have P1 : Hid _ := P0.out.keep D1.out
  have Q1 : Hid _ := Q0.out.keep D1.out
  clear c1
  obtain ⟨ka1, kb1⟩ := boxes2 D1.out
  go_wp2_with fail
  refine (eqRunS b2 0 _ e2 0 _ m.rs _ P1.out.r2 Q1.out.r2 P1.out.l2 Q1.out.l2 hf.k2).mono ?_
  rintro e w2 ⟨rfl, c2⟩
  have D2 : Hid (Below (((w.alloc (.cells #[.string m.nm, .bool m.up, .int .i64 m.ck, .bool m.kn, .int .i64 m.se, .slice (some ⟨b1, 0, none⟩) m.ws.length m.ws.length, .slice (some ⟨b2, 0, none⟩) m.rs.length m.rs.length, .slice (some ⟨b3, 0, none⟩) m.qs.length m.qs.length, .slice (some ⟨b4, 0, none⟩) m.gs.length m.gs.length] 55))).alloc (.cells #[.string m.nm, .bool m.up, .int .i64 m.ck, .bool m.kn, .int .i64 m.se, .slice (some ⟨e1, 0, none⟩) m.ws.length m.ws.length, .slice (some ⟨e2, 0, none⟩) m.rs.length m.rs.length, .slice (some ⟨e3, 0, none⟩) m.qs.length m.qs.length, .slice (some ⟨e4, 0, none⟩) m.gs.length m.gs.length] 55)).heap.size (((w.alloc (.cells #[.string m.nm, .bool m.up, .int .i64 m.ck, .bool m.kn, .int .i64 m.se, .slice (some ⟨b1, 0, none⟩) m.ws.length m.ws.length, .slice (some ⟨b2, 0, none⟩) m.rs.length m.rs.length, .slice (some ⟨b3, 0, none⟩) m.qs.length m.qs.length, .slice (some ⟨b4, 0, none⟩) m.gs.length m.gs.length] 55))).alloc (.cells #[.string m.nm, .bool m.up, .int .i64 m.ck, .bool m.kn, .int .i64 m.se, .slice (some ⟨e1, 0, none⟩) m.ws.length m.ws.length, .slice (some ⟨e2, 0, none⟩) m.rs.length m.rs.length, .slice (some ⟨e3, 0, none⟩) m.qs.length m.qs.length, .slice (some ⟨e4, 0, none⟩) m.gs.length m.gs.length] 55)) w2) := bl_trans D1.out c2
  have P2 : Hid _ := P0.out.keep D2.out
  have Q2 : Hid _ := Q0.out.keep D2.out
  clear c2 ka1 kb1
  obtain ⟨ka2, kb2⟩ := boxes2 D2.out
  go_wp2_with fail
  refine (A.eqAskS b3 0 _ e3 0 _ m.qs _ P2.out.r3 Q2.out.r3 P2.out.l3 Q2.out.l3 hf.k3).mono ?_
  rintro e w3 ⟨rfl, c3⟩
  have D3 : Hid (Below (((w.alloc (.cells #[.string m.nm, .bool m.up, .int .i64 m.ck, .bool m.kn, .int .i64 m.se, .slice (some ⟨b1, 0, none⟩) m.ws.length m.ws.length, .slice (some ⟨b2, 0, none⟩) m.rs.length m.rs.length, .slice (some ⟨b3, 0, none⟩) m.qs.length m.qs.length, .slice (some ⟨b4, 0, none⟩) m.gs.length m.gs.length] 55))).alloc (.cells #[.string m.nm, .bool m.up, .int .i64 m.ck, .bool m.kn, .int .i64 m.se, .slice (some ⟨e1, 0, none⟩) m.ws.length m.ws.length, .slice (some ⟨e2, 0, none⟩) m.rs.length m.rs.length, .slice (some ⟨e3, 0, none⟩) m.qs.length m.qs.length, .slice (some ⟨e4, 0, none⟩) m.gs.length m.gs.length] 55)).heap.size (((w.alloc (.cells #[.string m.nm, .bool m.up, .int .i64 m.ck, .bool m.kn, .int .i64 m.se, .slice (some ⟨b1, 0, none⟩) m.ws.length m.ws.length, .slice (some ⟨b2, 0, none⟩) m.rs.length m.rs.length, .slice (some ⟨b3, 0, none⟩) m.qs.length m.qs.length, .slice (some ⟨b4, 0, none⟩) m.gs.length m.gs.length] 55))).alloc (.cells #[.string m.nm, .bool m.up, .int .i64 m.ck, .bool m.kn, .int .i64 m.se, .slice (some ⟨e1, 0, none⟩) m.ws.length m.ws.length, .slice (some ⟨e2, 0, none⟩) m.rs.length m.rs.length, .slice (some ⟨e3, 0, none⟩) m.qs.length m.qs.length, .slice (some ⟨e4, 0, none⟩) m.gs.length m.gs.length] 55)) w3) := bl_trans D2.out c3
  have P3 : Hid _ := P0.out.keep D3.out
  have Q3 : Hid _ := Q0.out.keep D3.out
  clear c3 ka2 kb2
  obtain ⟨ka3, kb3⟩ := boxes2 D3.out
  go_wp2_with fail
  refine (A.eqAskS b4 0 _ e4 0 _ m.gs _ P3.out.r4 Q3.out.r4 P3.out.l4 Q3.out.l4 hf.k4).mono ?_
  rintro e w4 ⟨rfl, c4⟩
  have D4 : Hid (Below (((w.alloc (.cells #[.string m.nm, .bool m.up, .int .i64 m.ck, .bool m.kn, .int .i64 m.se, .slice (some ⟨b1, 0, none⟩) m.ws.length m.ws.length, .slice (some ⟨b2, 0, none⟩) m.rs.length m.rs.length, .slice (some ⟨b3, 0, none⟩) m.qs.length m.qs.length, .slice (some ⟨b4, 0, none⟩) m.gs.length m.gs.length] 55))).alloc (.cells #[.string m.nm, .bool m.up, .int .i64 m.ck, .bool m.kn, .int .i64 m.se, .slice (some ⟨e1, 0, none⟩) m.ws.length m.ws.length, .slice (some ⟨e2, 0, none⟩) m.rs.length m.rs.length, .slice (some ⟨e3, 0, none⟩) m.qs.length m.qs.length, .slice (some ⟨e4, 0, none⟩) m.gs.length m.gs.length] 55)).heap.size (((w.alloc (.cells #[.string m.nm, .bool m.up, .int .i64 m.ck, .bool m.kn, .int .i64 m.se, .slice (some ⟨b1, 0, none⟩) m.ws.length m.ws.length, .slice (some ⟨b2, 0, none⟩) m.rs.length m.rs.length, .slice (some ⟨b3, 0, none⟩) m.qs.length m.qs.length, .slice (some ⟨b4, 0, none⟩) m.gs.length m.gs.length] 55))).alloc (.cells #[.string m.nm, .bool m.up, .int .i64 m.ck, .bool m.kn, .int .i64 m.se, .slice (some ⟨e1, 0, none⟩) m.ws.length m.ws.length, .slice (some ⟨e2, 0, none⟩) m.rs.length m.rs.length, .slice (some ⟨e3, 0, none⟩) m.qs.length m.qs.length, .slice (some ⟨e4, 0, none⟩) m.gs.length m.gs.length] 55)) w4) := bl_trans D3.out c4
  have P4 : Hid _ := P0.out.keep D4.out
  have Q4 : Hid _ := Q0.out.keep D4.out
  clear c4 ka3 kb3
  obtain ⟨ka4, kb4⟩ := boxes2 D4.out
  go_wp2
  go_ret
  exact ⟨rfl, bl_trans Hb0.out D4.out⟩
end Go.Proofs.Ytmfcnckhgeggkab
