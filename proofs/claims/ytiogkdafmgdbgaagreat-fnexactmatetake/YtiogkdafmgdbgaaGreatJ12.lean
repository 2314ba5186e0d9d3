import Derived.Test.YtiogkdafmgdbgaaGreatJ11
import Derived.Test.YtiogkdafmgdbgaaGreatJ07
import Derived.Test.YtiogkdafmgdbgaaGreatJ09
import Derived.Test.YtiogkdafmgdbgaaGreatJ10
/- A mate is copied, its lists the call's own. -/
namespace Go.Proofs.YtiogkdafmgdbgaaGreat.W
open Go.RowKit
theorem to_in2 {w : World} {v : Value} {l : List WantD} (h : In w v l) (hl : l.length ≤ 1048576) :
    Calls Tryz.prog 24 #[v] w fun e w' => e = .returned (.slice (some ⟨w.heap.size, 0, none⟩) l.length l.length) ∧ RowsAt w' w.heap.size 0 l ∧ w'.there w.heap.size 0 (l.length * 7) ∧ w.heap.size < w'.heap.size ∧ Below w.heap.size w w' := by
  rcases h with ⟨rfl, a, cap, rfl⟩ | ⟨b, off, cap, rfl, k2, k3, k4, k5⟩
  · refine (to_nil a cap w).mono ?_
    rintro e w' ⟨rfl, h1, h2⟩
    exact ⟨rfl, fun k r h => by simp at h, fun j hj => by simp at hj, h1, h2⟩
  · exact toWantS b off cap l w k4 k3 hl
end Go.Proofs.YtiogkdafmgdbgaaGreat.W
namespace Go.Proofs.YtiogkdafmgdbgaaGreat
open Go.RowKit
theorem to_in2 {w : World} {v : Value} {l : List RunD} (h : In w v l) (hl : l.length ≤ 1048576) :
    Calls Tryz.prog 25 #[v] w fun e w' => e = .returned (.slice (some ⟨w.heap.size, 0, none⟩) l.length l.length) ∧ RowsAt w' w.heap.size 0 l ∧ w'.there w.heap.size 0 (l.length * 11) ∧ w.heap.size < w'.heap.size ∧ Below w.heap.size w w' := by
  rcases h with ⟨rfl, a, cap, rfl⟩ | ⟨b, off, cap, rfl, k2, k3, k4, k5⟩
  · refine (to_nil a cap w).mono ?_
    rintro e w' ⟨rfl, h1, h2⟩
    exact ⟨rfl, fun k r h => by simp at h, fun j hj => by simp at hj, h1, h2⟩
  · exact toRunS b off cap l w k4 k3 hl
end Go.Proofs.YtiogkdafmgdbgaaGreat
namespace Go.Proofs.YtiogkdafmgdbgaaGreat.A
open Go.RowKit
theorem to_in2 {w : World} {v : Value} {l : List AskD} (h : In w v l) (hl : l.length ≤ 1048576) :
    Calls Tryz.prog 26 #[v] w fun e w' => e = .returned (.slice (some ⟨w.heap.size, 0, none⟩) l.length l.length) ∧ RowsAt w' w.heap.size 0 l ∧ w'.there w.heap.size 0 (l.length * 4) ∧ w.heap.size < w'.heap.size ∧ Below w.heap.size w w' := by
  rcases h with ⟨rfl, a, cap, rfl⟩ | ⟨b, off, cap, rfl, k2, k3, k4, k5⟩
  · refine (to_nil a cap w).mono ?_
    rintro e w' ⟨rfl, h1, h2⟩
    exact ⟨rfl, fun k r h => by simp at h, fun j hj => by simp at hj, h1, h2⟩
  · exact toAskS b off cap l w k4 k3 hl
end Go.Proofs.YtiogkdafmgdbgaaGreat.A
namespace Go.Proofs.YtiogkdafmgdbgaaGreat
open Go.RowKit
set_option linter.unusedVariables false

theorem dif_ne {a b n c n' c' : Nat} (h : a ≠ b) : Dif (.slice (some ⟨a, 0, none⟩) n c) (.slice (some ⟨b, 0, none⟩) n' c') := Or.inr (by simpa [Value.ownBlock] using h)
theorem own_ne {a b n c : Nat} (h : a ≠ b) : (Value.slice (some ⟨a, 0, none⟩) n c).ownBlock ≠ some b := by simpa [Value.ownBlock] using h

set_option maxRecDepth 4000 in
set_option maxHeartbeats 4000000 in
theorem toMate_sl (m : MateD) (v1 v2 v3 v4 : Value) (w : World) (i1 : W.In w v1 m.ws) (i2 : In w v2 m.rs) (i3 : A.In w v3 m.qs) (i4 : A.In w v4 m.gs) (l1 : m.ws.length ≤ 1048576) (l2 : m.rs.length ≤ 1048576) (l3 : m.qs.length ≤ 1048576) (l4 : m.gs.length ≤ 1048576) :
    Calls Tryz.prog 7 #[.agg #[.string m.nm, .bool m.up, .int .i64 m.ck, .bool m.kn, .int .i64 m.se, v1, v2, v3, v4]] w fun e w' => ∃ b1 b2 b3 b4, e = .returned (.agg #[.string m.nm, .bool m.up, .int .i64 m.ck, .bool m.kn, .int .i64 m.se, .slice (some ⟨b1, 0, none⟩) m.ws.length m.ws.length, .slice (some ⟨b2, 0, none⟩) m.rs.length m.rs.length, .slice (some ⟨b3, 0, none⟩) m.qs.length m.qs.length, .slice (some ⟨b4, 0, none⟩) m.gs.length m.gs.length]) ∧ SlM w' m (.slice (some ⟨b1, 0, none⟩) m.ws.length m.ws.length) (.slice (some ⟨b2, 0, none⟩) m.rs.length m.rs.length) (.slice (some ⟨b3, 0, none⟩) m.qs.length m.qs.length) (.slice (some ⟨b4, 0, none⟩) m.gs.length m.gs.length) w.heap.size ∧ Below w.heap.size w w' := by
  have S0 : Hid (St w #[.string m.nm, .bool m.up, .int .i64 m.ck, .bool m.kn, .int .i64 m.se, v1, v2, v3, v4] #[.string m.nm, .bool m.up, .int .i64 m.ck, .bool m.kn, .int .i64 m.se, .slice none 0 0, .slice none 0 0, .slice none 0 0, .slice none 0 0] ((((w.alloc (.cells #[.string m.nm, .bool m.up, .int .i64 m.ck, .bool m.kn, .int .i64 m.se, v1, v2, v3, v4] 26))).alloc (.cells #[.string { data := #[] }, .bool false, .int .i64 0, .bool false, .int .i64 0, .slice none 0 0, .slice none 0 0, .slice none 0 0, .slice none 0 0] 35)).alloc (.cells #[.string m.nm, .bool m.up, .int .i64 m.ck, .bool m.kn, .int .i64 m.se, .slice none 0 0, .slice none 0 0, .slice none 0 0, .slice none 0 0] 35))) := st_new m v1 v2 v3 v4 w
  have hinfo : (Tryz.prog.info? 35).map (·.size) = some 9 := by kernel_rfl
  go_enter Tryz.func7, Tryz.ntmps7
  go_wp2_with fail
  have hto1 := W.to_in2 (i1.keep S0.out.e) l1
  refine hto1.mono ?_
  clear hto1
  rintro e w1 ⟨rfl, r1, th1, z1, c1⟩
  have T1 : Hid (St w #[.string m.nm, .bool m.up, .int .i64 m.ck, .bool m.kn, .int .i64 m.se, v1, v2, v3, v4] #[.string m.nm, .bool m.up, .int .i64 m.ck, .bool m.kn, .int .i64 m.se, .slice none 0 0, .slice none 0 0, .slice none 0 0, .slice none 0 0] w1) := S0.out.below c1
  have ka1 := T1.out.a
  have ko1 := T1.out.b
  have kf1 := T1.out.c
  have kz1 := T1.out.f
  obtain ⟨B1, hB1⟩ : ∃ B, B = ((((w.alloc (.cells #[.string m.nm, .bool m.up, .int .i64 m.ck, .bool m.kn, .int .i64 m.se, v1, v2, v3, v4] 26))).alloc (.cells #[.string { data := #[] }, .bool false, .int .i64 0, .bool false, .int .i64 0, .slice none 0 0, .slice none 0 0, .slice none 0 0, .slice none 0 0] 35)).alloc (.cells #[.string m.nm, .bool m.up, .int .i64 m.ck, .bool m.kn, .int .i64 m.se, .slice none 0 0, .slice none 0 0, .slice none 0 0, .slice none 0 0] 35)).heap.size := ⟨_, rfl⟩
  have HB1 : Hid (w.heap.size + 1 + 1 < B1) := by rw [hB1]; exact S0.out.f
  have LT1 : Hid (B1 < w1.heap.size) := by rw [hB1]; exact z1
  have LE1 : Hid (((((w.alloc (.cells #[.string m.nm, .bool m.up, .int .i64 m.ck, .bool m.kn, .int .i64 m.se, v1, v2, v3, v4] 26))).alloc (.cells #[.string { data := #[] }, .bool false, .int .i64 0, .bool false, .int .i64 0, .slice none 0 0, .slice none 0 0, .slice none 0 0, .slice none 0 0] 35)).alloc (.cells #[.string m.nm, .bool m.up, .int .i64 m.ck, .bool m.kn, .int .i64 m.se, .slice none 0 0, .slice none 0 0, .slice none 0 0, .slice none 0 0] 35)).heap.size ≤ B1) := by rw [hB1]; exact Nat.le_refl _
  have Q1 : Hid (W.Sl w1 (.slice (some ⟨B1, 0, none⟩) m.ws.length m.ws.length) m.ws w.heap.size) := Or.inr ⟨B1, _, rfl, by have := HB1.out; omega, LT1.out, by rw [hB1]; exact r1, by rw [hB1]; exact th1⟩
  have Y1 : Hid (Below ((((w.alloc (.cells #[.string m.nm, .bool m.up, .int .i64 m.ck, .bool m.kn, .int .i64 m.se, v1, v2, v3, v4] 26))).alloc (.cells #[.string { data := #[] }, .bool false, .int .i64 0, .bool false, .int .i64 0, .slice none 0 0, .slice none 0 0, .slice none 0 0, .slice none 0 0] 35)).alloc (.cells #[.string m.nm, .bool m.up, .int .i64 m.ck, .bool m.kn, .int .i64 m.se, .slice none 0 0, .slice none 0 0, .slice none 0 0, .slice none 0 0] 35)).heap.size ((((w.alloc (.cells #[.string m.nm, .bool m.up, .int .i64 m.ck, .bool m.kn, .int .i64 m.se, v1, v2, v3, v4] 26))).alloc (.cells #[.string { data := #[] }, .bool false, .int .i64 0, .bool false, .int .i64 0, .slice none 0 0, .slice none 0 0, .slice none 0 0, .slice none 0 0] 35)).alloc (.cells #[.string m.nm, .bool m.up, .int .i64 m.ck, .bool m.kn, .int .i64 m.se, .slice none 0 0, .slice none 0 0, .slice none 0 0, .slice none 0 0] 35)) w1) := c1
  rw [← hB1]
  clear hB1 r1 th1 z1 c1
  have S1 : Hid (St w #[.string m.nm, .bool m.up, .int .i64 m.ck, .bool m.kn, .int .i64 m.se, v1, v2, v3, v4] #[.string m.nm, .bool m.up, .int .i64 m.ck, .bool m.kn, .int .i64 m.se, .slice (some ⟨B1, 0, none⟩) m.ws.length m.ws.length, .slice none 0 0, .slice none 0 0, .slice none 0 0] (w1.setCell ⟨w.heap.size + 1 + 1, 5, none⟩ (.slice (some ⟨B1, 0, none⟩) m.ws.length m.ws.length))) := T1.out.set 5 (by simp) _
  have X1 : Hid (Ex (w.heap.size + 1 + 1) w1 (w1.setCell ⟨w.heap.size + 1 + 1, 5, none⟩ (.slice (some ⟨B1, 0, none⟩) m.ws.length m.ws.length))) := Ex.set (Ex.refl _ _) 5 _
  go_wp2_with fail
  clear ka1 ko1 kf1
  have hto2 := to_in2 (i2.keep S1.out.e) l2
  refine hto2.mono ?_
  clear hto2
  rintro e w2 ⟨rfl, r2, th2, z2, c2⟩
  have T2 : Hid (St w #[.string m.nm, .bool m.up, .int .i64 m.ck, .bool m.kn, .int .i64 m.se, v1, v2, v3, v4] #[.string m.nm, .bool m.up, .int .i64 m.ck, .bool m.kn, .int .i64 m.se, .slice (some ⟨B1, 0, none⟩) m.ws.length m.ws.length, .slice none 0 0, .slice none 0 0, .slice none 0 0] w2) := S1.out.below c2
  have ka2 := T2.out.a
  have ko2 := T2.out.b
  have kf2 := T2.out.c
  have kz2 := T2.out.f
  obtain ⟨B2, hB2⟩ : ∃ B, B = (w1.setCell ⟨w.heap.size + 1 + 1, 5, none⟩ (.slice (some ⟨B1, 0, none⟩) m.ws.length m.ws.length)).heap.size := ⟨_, rfl⟩
  have HB2 : Hid (w.heap.size + 1 + 1 < B2) := by rw [hB2]; exact S1.out.f
  have LT2 : Hid (B2 < w2.heap.size) := by rw [hB2]; exact z2
  have LE2 : Hid ((w1.setCell ⟨w.heap.size + 1 + 1, 5, none⟩ (.slice (some ⟨B1, 0, none⟩) m.ws.length m.ws.length)).heap.size ≤ B2) := by rw [hB2]; exact Nat.le_refl _
  have Q2 : Hid (Sl w2 (.slice (some ⟨B2, 0, none⟩) m.rs.length m.rs.length) m.rs w.heap.size) := Or.inr ⟨B2, _, rfl, by have := HB2.out; omega, LT2.out, by rw [hB2]; exact r2, by rw [hB2]; exact th2⟩
  have Y2 : Hid (Below (w1.setCell ⟨w.heap.size + 1 + 1, 5, none⟩ (.slice (some ⟨B1, 0, none⟩) m.ws.length m.ws.length)).heap.size (w1.setCell ⟨w.heap.size + 1 + 1, 5, none⟩ (.slice (some ⟨B1, 0, none⟩) m.ws.length m.ws.length)) w2) := c2
  rw [← hB2]
  clear hB2 r2 th2 z2 c2
  have S2 : Hid (St w #[.string m.nm, .bool m.up, .int .i64 m.ck, .bool m.kn, .int .i64 m.se, v1, v2, v3, v4] #[.string m.nm, .bool m.up, .int .i64 m.ck, .bool m.kn, .int .i64 m.se, .slice (some ⟨B1, 0, none⟩) m.ws.length m.ws.length, .slice (some ⟨B2, 0, none⟩) m.rs.length m.rs.length, .slice none 0 0, .slice none 0 0] (w2.setCell ⟨w.heap.size + 1 + 1, 6, none⟩ (.slice (some ⟨B2, 0, none⟩) m.rs.length m.rs.length))) := T2.out.set 6 (by simp) _
  have X2 : Hid (Ex (w.heap.size + 1 + 1) w2 (w2.setCell ⟨w.heap.size + 1 + 1, 6, none⟩ (.slice (some ⟨B2, 0, none⟩) m.rs.length m.rs.length))) := Ex.set (Ex.refl _ _) 6 _
  go_wp2_with fail
  clear ka2 ko2 kf2
  have hto3 := A.to_in2 (i3.keep S2.out.e) l3
  refine hto3.mono ?_
  clear hto3
  rintro e w3 ⟨rfl, r3, th3, z3, c3⟩
  have T3 : Hid (St w #[.string m.nm, .bool m.up, .int .i64 m.ck, .bool m.kn, .int .i64 m.se, v1, v2, v3, v4] #[.string m.nm, .bool m.up, .int .i64 m.ck, .bool m.kn, .int .i64 m.se, .slice (some ⟨B1, 0, none⟩) m.ws.length m.ws.length, .slice (some ⟨B2, 0, none⟩) m.rs.length m.rs.length, .slice none 0 0, .slice none 0 0] w3) := S2.out.below c3
  have ka3 := T3.out.a
  have ko3 := T3.out.b
  have kf3 := T3.out.c
  have kz3 := T3.out.f
  obtain ⟨B3, hB3⟩ : ∃ B, B = (w2.setCell ⟨w.heap.size + 1 + 1, 6, none⟩ (.slice (some ⟨B2, 0, none⟩) m.rs.length m.rs.length)).heap.size := ⟨_, rfl⟩
  have HB3 : Hid (w.heap.size + 1 + 1 < B3) := by rw [hB3]; exact S2.out.f
  have LT3 : Hid (B3 < w3.heap.size) := by rw [hB3]; exact z3
  have LE3 : Hid ((w2.setCell ⟨w.heap.size + 1 + 1, 6, none⟩ (.slice (some ⟨B2, 0, none⟩) m.rs.length m.rs.length)).heap.size ≤ B3) := by rw [hB3]; exact Nat.le_refl _
  have Q3 : Hid (A.Sl w3 (.slice (some ⟨B3, 0, none⟩) m.qs.length m.qs.length) m.qs w.heap.size) := Or.inr ⟨B3, _, rfl, by have := HB3.out; omega, LT3.out, by rw [hB3]; exact r3, by rw [hB3]; exact th3⟩
  have Y3 : Hid (Below (w2.setCell ⟨w.heap.size + 1 + 1, 6, none⟩ (.slice (some ⟨B2, 0, none⟩) m.rs.length m.rs.length)).heap.size (w2.setCell ⟨w.heap.size + 1 + 1, 6, none⟩ (.slice (some ⟨B2, 0, none⟩) m.rs.length m.rs.length)) w3) := c3
  rw [← hB3]
  clear hB3 r3 th3 z3 c3
  have S3 : Hid (St w #[.string m.nm, .bool m.up, .int .i64 m.ck, .bool m.kn, .int .i64 m.se, v1, v2, v3, v4] #[.string m.nm, .bool m.up, .int .i64 m.ck, .bool m.kn, .int .i64 m.se, .slice (some ⟨B1, 0, none⟩) m.ws.length m.ws.length, .slice (some ⟨B2, 0, none⟩) m.rs.length m.rs.length, .slice (some ⟨B3, 0, none⟩) m.qs.length m.qs.length, .slice none 0 0] (w3.setCell ⟨w.heap.size + 1 + 1, 7, none⟩ (.slice (some ⟨B3, 0, none⟩) m.qs.length m.qs.length))) := T3.out.set 7 (by simp) _
  have X3 : Hid (Ex (w.heap.size + 1 + 1) w3 (w3.setCell ⟨w.heap.size + 1 + 1, 7, none⟩ (.slice (some ⟨B3, 0, none⟩) m.qs.length m.qs.length))) := Ex.set (Ex.refl _ _) 7 _
  go_wp2_with fail
  clear ka3 ko3 kf3
  have hto4 := A.to_in2 (i4.keep S3.out.e) l4
  refine hto4.mono ?_
  clear hto4
  rintro e w4 ⟨rfl, r4, th4, z4, c4⟩
  have T4 : Hid (St w #[.string m.nm, .bool m.up, .int .i64 m.ck, .bool m.kn, .int .i64 m.se, v1, v2, v3, v4] #[.string m.nm, .bool m.up, .int .i64 m.ck, .bool m.kn, .int .i64 m.se, .slice (some ⟨B1, 0, none⟩) m.ws.length m.ws.length, .slice (some ⟨B2, 0, none⟩) m.rs.length m.rs.length, .slice (some ⟨B3, 0, none⟩) m.qs.length m.qs.length, .slice none 0 0] w4) := S3.out.below c4
  have ka4 := T4.out.a
  have ko4 := T4.out.b
  have kf4 := T4.out.c
  have kz4 := T4.out.f
  obtain ⟨B4, hB4⟩ : ∃ B, B = (w3.setCell ⟨w.heap.size + 1 + 1, 7, none⟩ (.slice (some ⟨B3, 0, none⟩) m.qs.length m.qs.length)).heap.size := ⟨_, rfl⟩
  have HB4 : Hid (w.heap.size + 1 + 1 < B4) := by rw [hB4]; exact S3.out.f
  have LT4 : Hid (B4 < w4.heap.size) := by rw [hB4]; exact z4
  have LE4 : Hid ((w3.setCell ⟨w.heap.size + 1 + 1, 7, none⟩ (.slice (some ⟨B3, 0, none⟩) m.qs.length m.qs.length)).heap.size ≤ B4) := by rw [hB4]; exact Nat.le_refl _
  have Q4 : Hid (A.Sl w4 (.slice (some ⟨B4, 0, none⟩) m.gs.length m.gs.length) m.gs w.heap.size) := Or.inr ⟨B4, _, rfl, by have := HB4.out; omega, LT4.out, by rw [hB4]; exact r4, by rw [hB4]; exact th4⟩
  have Y4 : Hid (Below (w3.setCell ⟨w.heap.size + 1 + 1, 7, none⟩ (.slice (some ⟨B3, 0, none⟩) m.qs.length m.qs.length)).heap.size (w3.setCell ⟨w.heap.size + 1 + 1, 7, none⟩ (.slice (some ⟨B3, 0, none⟩) m.qs.length m.qs.length)) w4) := c4
  rw [← hB4]
  clear hB4 r4 th4 z4 c4
  have S4 : Hid (St w #[.string m.nm, .bool m.up, .int .i64 m.ck, .bool m.kn, .int .i64 m.se, v1, v2, v3, v4] #[.string m.nm, .bool m.up, .int .i64 m.ck, .bool m.kn, .int .i64 m.se, .slice (some ⟨B1, 0, none⟩) m.ws.length m.ws.length, .slice (some ⟨B2, 0, none⟩) m.rs.length m.rs.length, .slice (some ⟨B3, 0, none⟩) m.qs.length m.qs.length, .slice (some ⟨B4, 0, none⟩) m.gs.length m.gs.length] (w4.setCell ⟨w.heap.size + 1 + 1, 8, none⟩ (.slice (some ⟨B4, 0, none⟩) m.gs.length m.gs.length))) := T4.out.set 8 (by simp) _
  have X4 : Hid (Ex (w.heap.size + 1 + 1) w4 (w4.setCell ⟨w.heap.size + 1 + 1, 8, none⟩ (.slice (some ⟨B4, 0, none⟩) m.gs.length m.gs.length))) := Ex.set (Ex.refl _ _) 8 _
  have hx1 : Ex (w.heap.size + 1) (w4.setCell ⟨w.heap.size + 1 + 1, 8, none⟩ (.slice (some ⟨B4, 0, none⟩) m.gs.length m.gs.length)) (World.setCells (w4.setCell ⟨w.heap.size + 1 + 1, 8, none⟩ (.slice (some ⟨B4, 0, none⟩) m.gs.length m.gs.length)) (w.heap.size + 1) 0 [.string m.nm, .bool m.up, .int .i64 m.ck, .bool m.kn, .int .i64 m.se, .slice (some ⟨B1, 0, none⟩) m.ws.length m.ws.length, .slice (some ⟨B2, 0, none⟩) m.rs.length m.rs.length, .slice (some ⟨B3, 0, none⟩) m.qs.length m.qs.length, .slice (some ⟨B4, 0, none⟩) m.gs.length m.gs.length]) := (Ex.refl _ _).cells _ _
  have P1 : Hid (W.Sl (World.setCells (w4.setCell ⟨w.heap.size + 1 + 1, 8, none⟩ (.slice (some ⟨B4, 0, none⟩) m.gs.length m.gs.length)) (w.heap.size + 1) 0 [.string m.nm, .bool m.up, .int .i64 m.ck, .bool m.kn, .int .i64 m.se, .slice (some ⟨B1, 0, none⟩) m.ws.length m.ws.length, .slice (some ⟨B2, 0, none⟩) m.rs.length m.rs.length, .slice (some ⟨B3, 0, none⟩) m.qs.length m.qs.length, .slice (some ⟨B4, 0, none⟩) m.gs.length m.gs.length]) (.slice (some ⟨B1, 0, none⟩) m.ws.length m.ws.length) m.ws w.heap.size) := ((((((((Q1.out).grown (W.ex_grown X1.out) (Or.inr (own_ne (by have := HB1.out; omega)))).keep Y2.out).grown (W.ex_grown X2.out) (Or.inr (own_ne (by have := HB1.out; omega)))).keep Y3.out).grown (W.ex_grown X3.out) (Or.inr (own_ne (by have := HB1.out; omega)))).keep Y4.out).grown (W.ex_grown X4.out) (Or.inr (own_ne (by have := HB1.out; omega)))).grown (W.ex_grown hx1) (Or.inr (own_ne (by have := HB1.out; omega)))
  have P2 : Hid (Sl (World.setCells (w4.setCell ⟨w.heap.size + 1 + 1, 8, none⟩ (.slice (some ⟨B4, 0, none⟩) m.gs.length m.gs.length)) (w.heap.size + 1) 0 [.string m.nm, .bool m.up, .int .i64 m.ck, .bool m.kn, .int .i64 m.se, .slice (some ⟨B1, 0, none⟩) m.ws.length m.ws.length, .slice (some ⟨B2, 0, none⟩) m.rs.length m.rs.length, .slice (some ⟨B3, 0, none⟩) m.qs.length m.qs.length, .slice (some ⟨B4, 0, none⟩) m.gs.length m.gs.length]) (.slice (some ⟨B2, 0, none⟩) m.rs.length m.rs.length) m.rs w.heap.size) := ((((((Q2.out).grown (ex_grown X2.out) (Or.inr (own_ne (by have := HB2.out; omega)))).keep Y3.out).grown (ex_grown X3.out) (Or.inr (own_ne (by have := HB2.out; omega)))).keep Y4.out).grown (ex_grown X4.out) (Or.inr (own_ne (by have := HB2.out; omega)))).grown (ex_grown hx1) (Or.inr (own_ne (by have := HB2.out; omega)))
  have P3 : Hid (A.Sl (World.setCells (w4.setCell ⟨w.heap.size + 1 + 1, 8, none⟩ (.slice (some ⟨B4, 0, none⟩) m.gs.length m.gs.length)) (w.heap.size + 1) 0 [.string m.nm, .bool m.up, .int .i64 m.ck, .bool m.kn, .int .i64 m.se, .slice (some ⟨B1, 0, none⟩) m.ws.length m.ws.length, .slice (some ⟨B2, 0, none⟩) m.rs.length m.rs.length, .slice (some ⟨B3, 0, none⟩) m.qs.length m.qs.length, .slice (some ⟨B4, 0, none⟩) m.gs.length m.gs.length]) (.slice (some ⟨B3, 0, none⟩) m.qs.length m.qs.length) m.qs w.heap.size) := ((((Q3.out).grown (A.ex_grown X3.out) (Or.inr (own_ne (by have := HB3.out; omega)))).keep Y4.out).grown (A.ex_grown X4.out) (Or.inr (own_ne (by have := HB3.out; omega)))).grown (A.ex_grown hx1) (Or.inr (own_ne (by have := HB3.out; omega)))
  have P4 : Hid (A.Sl (World.setCells (w4.setCell ⟨w.heap.size + 1 + 1, 8, none⟩ (.slice (some ⟨B4, 0, none⟩) m.gs.length m.gs.length)) (w.heap.size + 1) 0 [.string m.nm, .bool m.up, .int .i64 m.ck, .bool m.kn, .int .i64 m.se, .slice (some ⟨B1, 0, none⟩) m.ws.length m.ws.length, .slice (some ⟨B2, 0, none⟩) m.rs.length m.rs.length, .slice (some ⟨B3, 0, none⟩) m.qs.length m.qs.length, .slice (some ⟨B4, 0, none⟩) m.gs.length m.gs.length]) (.slice (some ⟨B4, 0, none⟩) m.gs.length m.gs.length) m.gs w.heap.size) := ((Q4.out).grown (A.ex_grown X4.out) (Or.inr (own_ne (by have := HB4.out; omega)))).grown (A.ex_grown hx1) (Or.inr (own_ne (by have := HB4.out; omega)))
  have o12 : B1 < B2 := by have h1 := LT1.out; have h2 := LE2.out; have h3 := X1.out.size; omega
  have o23 : B2 < B3 := by have h1 := LT2.out; have h2 := LE3.out; have h3 := X2.out.size; omega
  have o34 : B3 < B4 := by have h1 := LT3.out; have h2 := LE4.out; have h3 := X3.out.size; omega
  have LS : Hid (SlM (World.setCells (w4.setCell ⟨w.heap.size + 1 + 1, 8, none⟩ (.slice (some ⟨B4, 0, none⟩) m.gs.length m.gs.length)) (w.heap.size + 1) 0 [.string m.nm, .bool m.up, .int .i64 m.ck, .bool m.kn, .int .i64 m.se, .slice (some ⟨B1, 0, none⟩) m.ws.length m.ws.length, .slice (some ⟨B2, 0, none⟩) m.rs.length m.rs.length, .slice (some ⟨B3, 0, none⟩) m.qs.length m.qs.length, .slice (some ⟨B4, 0, none⟩) m.gs.length m.gs.length]) m (.slice (some ⟨B1, 0, none⟩) m.ws.length m.ws.length) (.slice (some ⟨B2, 0, none⟩) m.rs.length m.rs.length) (.slice (some ⟨B3, 0, none⟩) m.qs.length m.qs.length) (.slice (some ⟨B4, 0, none⟩) m.gs.length m.gs.length) w.heap.size) := ⟨P1.out, P2.out, P3.out, P4.out, dif_ne (by omega), dif_ne (by omega), dif_ne (by omega), dif_ne (by omega), dif_ne (by omega), dif_ne (by omega)⟩
  have BE : Hid (Below w.heap.size w (World.setCells (w4.setCell ⟨w.heap.size + 1 + 1, 8, none⟩ (.slice (some ⟨B4, 0, none⟩) m.gs.length m.gs.length)) (w.heap.size + 1) 0 [.string m.nm, .bool m.up, .int .i64 m.ck, .bool m.kn, .int .i64 m.se, .slice (some ⟨B1, 0, none⟩) m.ws.length m.ws.length, .slice (some ⟨B2, 0, none⟩) m.rs.length m.rs.length, .slice (some ⟨B3, 0, none⟩) m.qs.length m.qs.length, .slice (some ⟨B4, 0, none⟩) m.gs.length m.gs.length])) := ⟨hx1.os.trans S4.out.e.os, hx1.tape.trans S4.out.e.tape, hx1.output.trans S4.out.e.output, Nat.le_trans S4.out.e.size hx1.size, fun k hk => (hx1.block k (Nat.lt_of_lt_of_le hk S4.out.e.size) (by omega)).trans (S4.out.e.block k hk)⟩
  have RG : Hid _ := World.rangeAt_setCells_same (w4.setCell ⟨w.heap.size + 1 + 1, 8, none⟩ (.slice (some ⟨B4, 0, none⟩) m.gs.length m.gs.length)) (w.heap.size + 1) 0 [.string m.nm, .bool m.up, .int .i64 m.ck, .bool m.kn, .int .i64 m.se, .slice (some ⟨B1, 0, none⟩) m.ws.length m.ws.length, .slice (some ⟨B2, 0, none⟩) m.rs.length m.rs.length, .slice (some ⟨B3, 0, none⟩) m.qs.length m.qs.length, .slice (some ⟨B4, 0, none⟩) m.gs.length m.gs.length] S4.out.d
  clear hx1 P1 P2 P3 P4 o12 o23 o34
  have kd := S4.out.d
  go_wp2_with (refine wpList_store_mid (by rfl) 35 _ _ (by rfl) (w.heap.size + 1) 0 #[.string m.nm, .bool m.up, .int .i64 m.ck, .bool m.kn, .int .i64 m.se, .slice (some ⟨B1, 0, none⟩) m.ws.length m.ws.length, .slice (some ⟨B2, 0, none⟩) m.rs.length m.rs.length, .slice (some ⟨B3, 0, none⟩) m.qs.length m.qs.length, .slice (some ⟨B4, 0, none⟩) m.gs.length m.gs.length] (by rfl) (by rfl) (by exact kd) hinfo (by simp [Value.oneCell']) ?_)
  have hrg := RG.out
  have d0 := hrg 0 _ rfl
  have d1 := hrg 1 _ rfl
  have d2 := hrg 2 _ rfl
  have d3 := hrg 3 _ rfl
  have d4 := hrg 4 _ rfl
  have d5 := hrg 5 _ rfl
  have d6 := hrg 6 _ rfl
  have d7 := hrg 7 _ rfl
  have d8 := hrg 8 _ rfl
  simp only [Nat.zero_add] at d0 d1 d2 d3 d4 d5 d6 d7 d8
  exact bodyPost_ret (v := .agg #[.string m.nm, .bool m.up, .int .i64 m.ck, .bool m.kn, .int .i64 m.se, .slice (some ⟨B1, 0, none⟩) m.ws.length m.ws.length, .slice (some ⟨B2, 0, none⟩) m.rs.length m.rs.length, .slice (some ⟨B3, 0, none⟩) m.qs.length m.qs.length, .slice (some ⟨B4, 0, none⟩) m.gs.length m.gs.length]) (by simp [results, Tryz.results7, go_sem, d0, d1, d2, d3, d4, d5, d6, d7, d8]) rfl ⟨B1, B2, B3, B4, rfl, LS.out, BE.out⟩
end Go.Proofs.YtiogkdafmgdbgaaGreat
/- What a law's walk carries. -/
namespace Go.Proofs.YtiogkdafmgdbgaaGreat
open Go.RowKit
set_option linter.unusedVariables false

theorem W.Sl.off {P : Nat → Prop} {w w' : World} {v : Value} {l : List W.WantD} {B : Nat} (h : W.Sl w v l B) (ho : Off P w w') (hn : ∀ g, v.ownBlock = some g → ¬ P g) : W.Sl w' v l B := by
  rcases h with h | ⟨g, cap, rfl, h1, h2, h3, h4⟩
  · exact Or.inl h
  · have hg : ¬ P g := hn g rfl
    have hc : ∀ o, w'.cell? ⟨g, o, none⟩ = w.cell? ⟨g, o, none⟩ := fun o => World.cell?_of_block (w := w) (a := ⟨g, o, none⟩) (ho.block g h2 hg)
    have hfz : ∀ o, w'.frozen? ⟨g, o, none⟩ = w.frozen? ⟨g, o, none⟩ := fun o => World.frozen?_of_block (w := w) (a := ⟨g, o, none⟩) (ho.block g h2 hg)
    exact Or.inr ⟨g, cap, rfl, h1, Nat.lt_of_lt_of_le h2 ho.size, fun k r hk j v hj => (hc _).trans (h3 k r hk j v hj), fun j hj => ⟨by rw [hc]; exact (h4 j hj).1, by rw [hfz]; exact (h4 j hj).2⟩⟩
theorem W.Sl.at_ {w : World} {b : Nat} {l : List W.WantD} {B : Nat} (h : W.Sl w (.slice (some ⟨b, 0, none⟩) l.length l.length) l B) : W.RowsAt w b 0 l ∧ b < w.heap.size := by
  rcases h with ⟨h, -⟩ | ⟨g, cap, h0, h1, h2, h3, h4⟩
  · cases h
  · cases h0; exact ⟨h3, h2⟩
theorem Sl.off {P : Nat → Prop} {w w' : World} {v : Value} {l : List RunD} {B : Nat} (h : Sl w v l B) (ho : Off P w w') (hn : ∀ g, v.ownBlock = some g → ¬ P g) : Sl w' v l B := by
  rcases h with h | ⟨g, cap, rfl, h1, h2, h3, h4⟩
  · exact Or.inl h
  · have hg : ¬ P g := hn g rfl
    have hc : ∀ o, w'.cell? ⟨g, o, none⟩ = w.cell? ⟨g, o, none⟩ := fun o => World.cell?_of_block (w := w) (a := ⟨g, o, none⟩) (ho.block g h2 hg)
    have hfz : ∀ o, w'.frozen? ⟨g, o, none⟩ = w.frozen? ⟨g, o, none⟩ := fun o => World.frozen?_of_block (w := w) (a := ⟨g, o, none⟩) (ho.block g h2 hg)
    exact Or.inr ⟨g, cap, rfl, h1, Nat.lt_of_lt_of_le h2 ho.size, fun k r hk j v hj => (hc _).trans (h3 k r hk j v hj), fun j hj => ⟨by rw [hc]; exact (h4 j hj).1, by rw [hfz]; exact (h4 j hj).2⟩⟩
theorem Sl.at_ {w : World} {b : Nat} {l : List RunD} {B : Nat} (h : Sl w (.slice (some ⟨b, 0, none⟩) l.length l.length) l B) : RowsAt w b 0 l ∧ b < w.heap.size := by
  rcases h with ⟨h, -⟩ | ⟨g, cap, h0, h1, h2, h3, h4⟩
  · cases h
  · cases h0; exact ⟨h3, h2⟩
theorem A.Sl.off {P : Nat → Prop} {w w' : World} {v : Value} {l : List A.AskD} {B : Nat} (h : A.Sl w v l B) (ho : Off P w w') (hn : ∀ g, v.ownBlock = some g → ¬ P g) : A.Sl w' v l B := by
  rcases h with h | ⟨g, cap, rfl, h1, h2, h3, h4⟩
  · exact Or.inl h
  · have hg : ¬ P g := hn g rfl
    have hc : ∀ o, w'.cell? ⟨g, o, none⟩ = w.cell? ⟨g, o, none⟩ := fun o => World.cell?_of_block (w := w) (a := ⟨g, o, none⟩) (ho.block g h2 hg)
    have hfz : ∀ o, w'.frozen? ⟨g, o, none⟩ = w.frozen? ⟨g, o, none⟩ := fun o => World.frozen?_of_block (w := w) (a := ⟨g, o, none⟩) (ho.block g h2 hg)
    exact Or.inr ⟨g, cap, rfl, h1, Nat.lt_of_lt_of_le h2 ho.size, fun k r hk j v hj => (hc _).trans (h3 k r hk j v hj), fun j hj => ⟨by rw [hc]; exact (h4 j hj).1, by rw [hfz]; exact (h4 j hj).2⟩⟩
theorem A.Sl.at_ {w : World} {b : Nat} {l : List A.AskD} {B : Nat} (h : A.Sl w (.slice (some ⟨b, 0, none⟩) l.length l.length) l B) : A.RowsAt w b 0 l ∧ b < w.heap.size := by
  rcases h with ⟨h, -⟩ | ⟨g, cap, h0, h1, h2, h3, h4⟩
  · cases h
  · cases h0; exact ⟨h3, h2⟩
theorem SlM.off {P : Nat → Prop} {w w' : World} {m : MateD} {s1 s2 s3 s4 : Value} {B : Nat} (h : SlM w m s1 s2 s3 s4 B) (ho : Off P w w') (hn : ∀ j, (s1.ownBlock = some j ∨ s2.ownBlock = some j ∨ s3.ownBlock = some j ∨ s4.ownBlock = some j) → ¬ P j) : SlM w' m s1 s2 s3 s4 B :=
  ⟨h.a1.off ho (fun g hg => hn g (Or.inl hg)), h.a2.off ho (fun g hg => hn g (Or.inr (Or.inl hg))), h.a3.off ho (fun g hg => hn g (Or.inr (Or.inr (Or.inl hg)))), h.a4.off ho (fun g hg => hn g (Or.inr (Or.inr (Or.inr hg)))), h.d12, h.d13, h.d14, h.d23, h.d24, h.d34⟩
theorem lists_of {w : World} {m : MateD} {b1 b2 b3 b4 B : Nat} (h : SlM w m (.slice (some ⟨b1, 0, none⟩) m.ws.length m.ws.length) (.slice (some ⟨b2, 0, none⟩) m.rs.length m.rs.length) (.slice (some ⟨b3, 0, none⟩) m.qs.length m.qs.length) (.slice (some ⟨b4, 0, none⟩) m.gs.length m.gs.length) B) : Lists w m b1 b2 b3 b4 :=
  ⟨h.a1.at_.1, h.a2.at_.1, h.a3.at_.1, h.a4.at_.1, h.a1.at_.2, h.a2.at_.2, h.a3.at_.2, h.a4.at_.2⟩
/-- A box of the call's own. -/
structure Lx (y : World) (b : Nat) (O : Array Value) : Prop where
  c : ∀ k, y.cell? ⟨b, k, none⟩ = O[k]?
  l : b < y.heap.size
theorem Lx.keep {y z : World} {b : Nat} {O : Array Value} (h : Lx y b O) (hb : Below y.heap.size y z) : Lx z b O :=
  ⟨fun k => (hb.cell (p := ⟨b, k, none⟩) h.l).trans (h.c k), Nat.lt_of_lt_of_le h.l hb.size⟩
theorem Lx.off {P : Nat → Prop} {y z : World} {b : Nat} {O : Array Value} (h : Lx y b O) (ho : Off P y z) (hn : ¬ P b) : Lx z b O :=
  ⟨fun k => (ho.cell (p := ⟨b, k, none⟩) h.l hn).trans (h.c k), Nat.lt_of_lt_of_le h.l ho.size⟩
theorem Lx.new (y : World) (O : Array Value) (t : TypeId) : Lx (y.alloc (.cells O t)) y.heap.size O :=
  ⟨fun k => by simp [go_sem], by simp⟩
theorem bl_off {P : Nat → Prop} {w y z : World} (h : Below w.heap.size w y) (ho : Off P y z) (hP : ∀ j, P j → w.heap.size ≤ j) : Below w.heap.size w z := h.trans (ho.below hP h.size)
end Go.Proofs.YtiogkdafmgdbgaaGreat
/- A parcel is measured, copied, held against another and marked. -/
namespace Go.Proofs.YtiogkdafmgdbgaaGreat
open Go.RowKit
set_option linter.unusedVariables false

theorem szMate_le (m : MateD) (v1 v2 v3 v4 : Value) (w : World) (i1 : W.In w v1 m.ws) (i2 : In w v2 m.rs) (i3 : A.In w v3 m.qs) (i4 : A.In w v4 m.gs) (hn : m.nm.size ≤ maxLen) :
    Calls Tryz.prog 4 #[.agg #[.string m.nm, .bool m.up, .int .i64 m.ck, .bool m.kn, .int .i64 m.se, v1, v2, v3, v4], .int .i64 1048576] w fun e w' => (e = .returned (.int .i64 (-1)) ∨ ∃ x : Int, e = .returned (.int .i64 x) ∧ 0 ≤ x ∧ x ≤ 1048576 ∧ m.ws.length ≤ 1048576 ∧ m.rs.length ≤ 1048576 ∧ m.qs.length ≤ 1048576 ∧ m.gs.length ≤ 1048576) ∧ Below w.heap.size w w' := by
  have Hb0 : Hid (Below w.heap.size w (w.alloc (.cells #[.string m.nm, .bool m.up, .int .i64 m.ck, .bool m.kn, .int .i64 m.se, v1, v2, v3, v4] 26))) := bl_alloc (Below.refl _ _) _
  by_cases hnm : (m.nm.size : Int) ≤ 1048576
  · go_enter Tryz.func4, Tryz.ntmps4
    go_wp2_with fail
    refine (W.sz_in (i1.keep Hb0.out) (1048576 - (m.nm.size : Int)) (by omega) (by omega)).mono ?_
    rintro e w1 ⟨hx1, c1⟩
    have C1 : Hid (Below w.heap.size w w1) := bl_trans Hb0.out c1
    have D1 : Hid (Below (w.alloc (.cells #[.string m.nm, .bool m.up, .int .i64 m.ck, .bool m.kn, .int .i64 m.se, v1, v2, v3, v4] 26)).heap.size (w.alloc (.cells #[.string m.nm, .bool m.up, .int .i64 m.ck, .bool m.kn, .int .i64 m.se, v1, v2, v3, v4] 26)) w1) := c1
    clear c1
    have kb1 := box_keep D1.out
    rcases hx1 with rfl | ⟨x1, rfl, p1, r1, l1⟩
    · go_wp2
      go_ret
      exact ⟨Or.inl rfl, C1.out⟩
    go_wp2_with fail
    refine (sz_in (i2.keep C1.out) x1 (by omega) (by omega)).mono ?_
    rintro e w2 ⟨hx2, c2⟩
    have C2 : Hid (Below w.heap.size w w2) := bl_trans C1.out c2
    have D2 : Hid (Below (w.alloc (.cells #[.string m.nm, .bool m.up, .int .i64 m.ck, .bool m.kn, .int .i64 m.se, v1, v2, v3, v4] 26)).heap.size (w.alloc (.cells #[.string m.nm, .bool m.up, .int .i64 m.ck, .bool m.kn, .int .i64 m.se, v1, v2, v3, v4] 26)) w2) := bl_trans D1.out c2
    clear c2 kb1
    have kb2 := box_keep D2.out
    rcases hx2 with rfl | ⟨x2, rfl, p2, r2, l2⟩
    · go_wp2
      go_ret
      exact ⟨Or.inl rfl, C2.out⟩
    go_wp2_with fail
    refine (A.sz_in (i3.keep C2.out) x2 (by omega) (by omega)).mono ?_
    rintro e w3 ⟨hx3, c3⟩
    have C3 : Hid (Below w.heap.size w w3) := bl_trans C2.out c3
    have D3 : Hid (Below (w.alloc (.cells #[.string m.nm, .bool m.up, .int .i64 m.ck, .bool m.kn, .int .i64 m.se, v1, v2, v3, v4] 26)).heap.size (w.alloc (.cells #[.string m.nm, .bool m.up, .int .i64 m.ck, .bool m.kn, .int .i64 m.se, v1, v2, v3, v4] 26)) w3) := bl_trans D2.out c3
    clear c3 kb2
    have kb3 := box_keep D3.out
    rcases hx3 with rfl | ⟨x3, rfl, p3, r3, l3⟩
    · go_wp2
      go_ret
      exact ⟨Or.inl rfl, C3.out⟩
    go_wp2_with fail
    refine (A.sz_in (i4.keep C3.out) x3 (by omega) (by omega)).mono ?_
    rintro e w4 ⟨hx4, c4⟩
    have C4 : Hid (Below w.heap.size w w4) := bl_trans C3.out c4
    have D4 : Hid (Below (w.alloc (.cells #[.string m.nm, .bool m.up, .int .i64 m.ck, .bool m.kn, .int .i64 m.se, v1, v2, v3, v4] 26)).heap.size (w.alloc (.cells #[.string m.nm, .bool m.up, .int .i64 m.ck, .bool m.kn, .int .i64 m.se, v1, v2, v3, v4] 26)) w4) := bl_trans D3.out c4
    clear c4 kb3
    have kb4 := box_keep D4.out
    rcases hx4 with rfl | ⟨x4, rfl, p4, r4, l4⟩
    · go_wp2
      go_ret
      exact ⟨Or.inl rfl, C4.out⟩
    go_wp2
    go_ret
    exact ⟨Or.inr ⟨x4, rfl, p4, r4, l1, l2, l3, l4⟩, C4.out⟩
  · unfold maxLen at hn
    have hnm' : (1048576 : Int) < (m.nm.size : Int) := by omega
    go_enter Tryz.func4, Tryz.ntmps4
    go_wp2
    go_ret
    exact ⟨Or.inl rfl, Hb0.out⟩

set_option maxRecDepth 4000 in
theorem szParcel_any (p : ParcelD) (v5 : Value) (x : Int) (w : World) (i5 : W.In w v5 p.ws) (x0 : 0 ≤ x) (x1 : x ≤ 1048576) (hb : p.b.size ≤ maxLen) (hh : p.h.size ≤ maxLen) (hc : p.c.size ≤ maxLen) :
    Calls Tryz.prog 5 #[.agg #[.int .i64 p.k, .string p.b, .int .i64 p.s, v5, .string p.h, .string p.c, .int .i64 p.t], .int .i64 x] w fun e w' => (e = .returned (.int .i64 (-1)) ∨ ∃ x : Int, e = .returned (.int .i64 x) ∧ 0 ≤ x ∧ p.ws.length ≤ 1048576) ∧ Below w.heap.size w w' := by
  have Hb0 : Hid (Below w.heap.size w (w.alloc (.cells #[.int .i64 p.k, .string p.b, .int .i64 p.s, v5, .string p.h, .string p.c, .int .i64 p.t] 28))) := bl_alloc (Below.refl _ _) _
  by_cases h1 : (p.b.size : Int) ≤ x
  · go_enter Tryz.func5, Tryz.ntmps5
    go_wp2_with fail
    refine (W.sz_in (i5.keep Hb0.out) (x - (p.b.size : Int)) (by omega) (by omega)).mono ?_
    rintro e w1 ⟨hx1, c1⟩
    have C1 : Hid (Below w.heap.size w w1) := bl_trans Hb0.out c1
    have D1 : Hid (Below (w.alloc (.cells #[.int .i64 p.k, .string p.b, .int .i64 p.s, v5, .string p.h, .string p.c, .int .i64 p.t] 28)).heap.size (w.alloc (.cells #[.int .i64 p.k, .string p.b, .int .i64 p.s, v5, .string p.h, .string p.c, .int .i64 p.t] 28)) w1) := c1
    clear c1
    have kb1 := box_keep D1.out
    rcases hx1 with rfl | ⟨x1, rfl, p1, r1, l1⟩
    · go_wp2
      go_ret
      exact ⟨Or.inl rfl, C1.out⟩
    by_cases h2 : (p.h.size : Int) ≤ x1
    · by_cases h3 : (p.c.size : Int) ≤ x1 - (p.h.size : Int)
      · go_wp2
        go_ret
        exact ⟨Or.inr ⟨_, rfl, by omega, l1⟩, C1.out⟩
      · have h3' : x1 - (p.h.size : Int) < (p.c.size : Int) := by omega
        unfold maxLen at hc
        clear h3
        go_wp2
        go_ret
        exact ⟨Or.inl rfl, C1.out⟩
    · have h2' : x1 < (p.h.size : Int) := by omega
      unfold maxLen at hh
      clear h2
      go_wp2
      go_ret
      exact ⟨Or.inl rfl, C1.out⟩
  · have h1' : x < (p.b.size : Int) := by omega
    unfold maxLen at hb
    clear h1
    go_enter Tryz.func5, Tryz.ntmps5
    go_wp2
    go_ret
    exact ⟨Or.inl rfl, Hb0.out⟩

/-- While a parcel is copied: what came in, what is laid out so far. -/
structure Sq (w : World) (L O : Array Value) (x : World) : Prop where
  a : ∀ k, x.cell? ⟨w.heap.size, k, none⟩ = L[k]?
  b : ∀ k, x.cell? ⟨w.heap.size + 1 + 1, k, none⟩ = O[k]?
  c : ∀ k, x.frozen? ⟨w.heap.size + 1 + 1, k, none⟩ = false
  d : x.there (w.heap.size + 1) 0 7
  e : Below w.heap.size w x
  f : w.heap.size + 1 + 1 < x.heap.size
theorem Sq.below {w x y : World} {L O : Array Value} (h : Sq w L O x) (hb : Below x.heap.size x y) : Sq w L O y :=
  have hf := h.f
  ⟨fun k => (hb.cell (p := ⟨w.heap.size, k, none⟩) (by show w.heap.size < _; omega)).trans (h.a k), fun k => (hb.cell (p := ⟨w.heap.size + 1 + 1, k, none⟩) hf).trans (h.b k), fun k => (hb.frozen (p := ⟨w.heap.size + 1 + 1, k, none⟩) hf).trans (h.c k),
    fun j hj => ⟨by rw [hb.cell (p := ⟨w.heap.size + 1, 0 + j, none⟩) (by show w.heap.size + 1 < _; omega)]; exact (h.d j hj).1, by rw [hb.frozen (p := ⟨w.heap.size + 1, 0 + j, none⟩) (by show w.heap.size + 1 < _; omega)]; exact (h.d j hj).2⟩,
    bl_trans h.e hb, Nat.lt_of_lt_of_le hf hb.size⟩
theorem Sq.set {w x : World} {L O : Array Value} (h : Sq w L O x) (j : Nat) (hj : j < O.size) (u : Value) : Sq w L (O.setIfInBounds j u) (x.setCell ⟨w.heap.size + 1 + 1, j, none⟩ u) := by
  have he : Ex (w.heap.size + 1 + 1) x (x.setCell ⟨w.heap.size + 1 + 1, j, none⟩ u) := (Ex.refl _ _).set j u
  have hf := h.f
  refine ⟨fun k => (he.cell (p := ⟨w.heap.size, k, none⟩) (by show w.heap.size < _; omega) (by show w.heap.size ≠ _; omega)).trans (h.a k), fun k => ?_, fun k => ?_, there_ex h.d (by omega) he (by omega), bl_set (p := ⟨w.heap.size + 1 + 1, j, none⟩) h.e (by show w.heap.size ≤ w.heap.size + 1 + 1; omega) u, Nat.lt_of_lt_of_le hf he.size⟩
  · by_cases e : k = j
    · subst e
      have h1 := h.b k
      rw [Array.getElem?_eq_getElem hj] at h1
      rw [Array.getElem?_setIfInBounds_self_of_lt hj]
      exact World.cell?_setCell_same _ _ _ h1
    · rw [Array.getElem?_setIfInBounds_ne (fun h' => e h'.symm), ← h.b k]
      exact World.cell?_setCell_other _ _ _ _ (fun h' => e (by have := congrArg Addr.off h'; exact this.symm))
  · rw [World.frozen?_setCell]; exact h.c k
theorem sq_new (p : ParcelD) (v5 : Value) (w : World) : Sq w #[.int .i64 p.k, .string p.b, .int .i64 p.s, v5, .string p.h, .string p.c, .int .i64 p.t] #[.int .i64 p.k, .string p.b, .int .i64 p.s, .slice none 0 0, .string { data := #[] }, .string { data := #[] }, .int .i64 0] (((w.alloc (.cells #[.int .i64 p.k, .string p.b, .int .i64 p.s, v5, .string p.h, .string p.c, .int .i64 p.t] 28)).alloc (.cells #[.int .i64 0, .string { data := #[] }, .int .i64 0, .slice none 0 0, .string { data := #[] }, .string { data := #[] }, .int .i64 0] 39)).alloc (.cells #[.int .i64 p.k, .string p.b, .int .i64 p.s, .slice none 0 0, .string { data := #[] }, .string { data := #[] }, .int .i64 0] 39)) := by
  refine ⟨fun k => by simp [go_sem, World.cell?_alloc_past], fun k => by simp [go_sem], fun k => by simp [go_sem], fun j hj => ⟨by simp [go_sem, World.cell?_alloc_past] <;> omega, by simp [go_sem]⟩, bl_alloc (bl_alloc (bl_alloc (Below.refl _ _) _) _) _, by simp⟩

set_option maxRecDepth 4000 in
set_option maxHeartbeats 4000000 in
theorem toParcel_sl (p : ParcelD) (v5 : Value) (w : World) (i5 : W.In w v5 p.ws) (l5 : p.ws.length ≤ 1048576) :
    Calls Tryz.prog 8 #[.agg #[.int .i64 p.k, .string p.b, .int .i64 p.s, v5, .string p.h, .string p.c, .int .i64 p.t]] w fun e w' => ∃ b5, e = .returned (.agg #[.int .i64 p.k, .string p.b, .int .i64 p.s, .slice (some ⟨b5, 0, none⟩) p.ws.length p.ws.length, .string p.h, .string p.c, .int .i64 p.t]) ∧ W.Sl w' (.slice (some ⟨b5, 0, none⟩) p.ws.length p.ws.length) p.ws w.heap.size ∧ Below w.heap.size w w' := by
  have S0 : Hid (Sq w #[.int .i64 p.k, .string p.b, .int .i64 p.s, v5, .string p.h, .string p.c, .int .i64 p.t] #[.int .i64 p.k, .string p.b, .int .i64 p.s, .slice none 0 0, .string { data := #[] }, .string { data := #[] }, .int .i64 0] (((w.alloc (.cells #[.int .i64 p.k, .string p.b, .int .i64 p.s, v5, .string p.h, .string p.c, .int .i64 p.t] 28)).alloc (.cells #[.int .i64 0, .string { data := #[] }, .int .i64 0, .slice none 0 0, .string { data := #[] }, .string { data := #[] }, .int .i64 0] 39)).alloc (.cells #[.int .i64 p.k, .string p.b, .int .i64 p.s, .slice none 0 0, .string { data := #[] }, .string { data := #[] }, .int .i64 0] 39))) := sq_new p v5 w
  have hinfo : (Tryz.prog.info? 39).map (·.size) = some 7 := by kernel_rfl
  go_enter Tryz.func8, Tryz.ntmps8
  go_wp2_with fail
  have hto := W.to_in2 (i5.keep S0.out.e) l5
  refine hto.mono ?_
  clear hto
  rintro e w1 ⟨rfl, r1, th1, z1, c1⟩
  have T1 : Hid (Sq w #[.int .i64 p.k, .string p.b, .int .i64 p.s, v5, .string p.h, .string p.c, .int .i64 p.t] #[.int .i64 p.k, .string p.b, .int .i64 p.s, .slice none 0 0, .string { data := #[] }, .string { data := #[] }, .int .i64 0] w1) := S0.out.below c1
  have ka := T1.out.a
  have ko := T1.out.b
  have kf := T1.out.c
  have kz := T1.out.f
  obtain ⟨B1, hB1⟩ : ∃ B, B = (((w.alloc (.cells #[.int .i64 p.k, .string p.b, .int .i64 p.s, v5, .string p.h, .string p.c, .int .i64 p.t] 28)).alloc (.cells #[.int .i64 0, .string { data := #[] }, .int .i64 0, .slice none 0 0, .string { data := #[] }, .string { data := #[] }, .int .i64 0] 39)).alloc (.cells #[.int .i64 p.k, .string p.b, .int .i64 p.s, .slice none 0 0, .string { data := #[] }, .string { data := #[] }, .int .i64 0] 39)).heap.size := ⟨_, rfl⟩
  have HB1 : Hid (w.heap.size + 1 + 1 < B1) := by rw [hB1]; exact S0.out.f
  have LT1 : Hid (B1 < w1.heap.size) := by rw [hB1]; exact z1
  have Q1 : Hid (W.Sl w1 (.slice (some ⟨B1, 0, none⟩) p.ws.length p.ws.length) p.ws w.heap.size) := Or.inr ⟨B1, _, rfl, by have := HB1.out; omega, LT1.out, by rw [hB1]; exact r1, by rw [hB1]; exact th1⟩
  rw [← hB1]
  clear hB1 r1 th1 z1 c1
  have S4 : Hid (Sq w #[.int .i64 p.k, .string p.b, .int .i64 p.s, v5, .string p.h, .string p.c, .int .i64 p.t] #[.int .i64 p.k, .string p.b, .int .i64 p.s, .slice (some ⟨B1, 0, none⟩) p.ws.length p.ws.length, .string p.h, .string p.c, .int .i64 p.t] ((((w1.setCell ⟨w.heap.size + 1 + 1, 3, none⟩ (.slice (some ⟨B1, 0, none⟩) p.ws.length p.ws.length)).setCell ⟨w.heap.size + 1 + 1, 4, none⟩ (.string p.h)).setCell ⟨w.heap.size + 1 + 1, 5, none⟩ (.string p.c)).setCell ⟨w.heap.size + 1 + 1, 6, none⟩ (.int .i64 p.t))) := (((T1.out.set 3 (by simp) _).set 4 (by simp) _).set 5 (by simp) _).set 6 (by simp) _
  have X4 : Hid (Ex (w.heap.size + 1 + 1) w1 ((((w1.setCell ⟨w.heap.size + 1 + 1, 3, none⟩ (.slice (some ⟨B1, 0, none⟩) p.ws.length p.ws.length)).setCell ⟨w.heap.size + 1 + 1, 4, none⟩ (.string p.h)).setCell ⟨w.heap.size + 1 + 1, 5, none⟩ (.string p.c)).setCell ⟨w.heap.size + 1 + 1, 6, none⟩ (.int .i64 p.t))) := ((((Ex.refl _ _).set 3 _).set 4 _).set 5 _).set 6 _
  have hx1 : Ex (w.heap.size + 1) ((((w1.setCell ⟨w.heap.size + 1 + 1, 3, none⟩ (.slice (some ⟨B1, 0, none⟩) p.ws.length p.ws.length)).setCell ⟨w.heap.size + 1 + 1, 4, none⟩ (.string p.h)).setCell ⟨w.heap.size + 1 + 1, 5, none⟩ (.string p.c)).setCell ⟨w.heap.size + 1 + 1, 6, none⟩ (.int .i64 p.t)) (World.setCells ((((w1.setCell ⟨w.heap.size + 1 + 1, 3, none⟩ (.slice (some ⟨B1, 0, none⟩) p.ws.length p.ws.length)).setCell ⟨w.heap.size + 1 + 1, 4, none⟩ (.string p.h)).setCell ⟨w.heap.size + 1 + 1, 5, none⟩ (.string p.c)).setCell ⟨w.heap.size + 1 + 1, 6, none⟩ (.int .i64 p.t)) (w.heap.size + 1) 0 [.int .i64 p.k, .string p.b, .int .i64 p.s, .slice (some ⟨B1, 0, none⟩) p.ws.length p.ws.length, .string p.h, .string p.c, .int .i64 p.t]) := (Ex.refl _ _).cells _ _
  have P1 : Hid (W.Sl (World.setCells ((((w1.setCell ⟨w.heap.size + 1 + 1, 3, none⟩ (.slice (some ⟨B1, 0, none⟩) p.ws.length p.ws.length)).setCell ⟨w.heap.size + 1 + 1, 4, none⟩ (.string p.h)).setCell ⟨w.heap.size + 1 + 1, 5, none⟩ (.string p.c)).setCell ⟨w.heap.size + 1 + 1, 6, none⟩ (.int .i64 p.t)) (w.heap.size + 1) 0 [.int .i64 p.k, .string p.b, .int .i64 p.s, .slice (some ⟨B1, 0, none⟩) p.ws.length p.ws.length, .string p.h, .string p.c, .int .i64 p.t]) (.slice (some ⟨B1, 0, none⟩) p.ws.length p.ws.length) p.ws w.heap.size) := (Q1.out.grown (W.ex_grown X4.out) (Or.inr (own_ne (by have := HB1.out; omega)))).grown (W.ex_grown hx1) (Or.inr (own_ne (by have := HB1.out; omega)))
  have BE : Hid (Below w.heap.size w (World.setCells ((((w1.setCell ⟨w.heap.size + 1 + 1, 3, none⟩ (.slice (some ⟨B1, 0, none⟩) p.ws.length p.ws.length)).setCell ⟨w.heap.size + 1 + 1, 4, none⟩ (.string p.h)).setCell ⟨w.heap.size + 1 + 1, 5, none⟩ (.string p.c)).setCell ⟨w.heap.size + 1 + 1, 6, none⟩ (.int .i64 p.t)) (w.heap.size + 1) 0 [.int .i64 p.k, .string p.b, .int .i64 p.s, .slice (some ⟨B1, 0, none⟩) p.ws.length p.ws.length, .string p.h, .string p.c, .int .i64 p.t])) := ⟨hx1.os.trans S4.out.e.os, hx1.tape.trans S4.out.e.tape, hx1.output.trans S4.out.e.output, Nat.le_trans S4.out.e.size hx1.size, fun k hk => (hx1.block k (Nat.lt_of_lt_of_le hk S4.out.e.size) (by omega)).trans (S4.out.e.block k hk)⟩
  have RG : Hid _ := World.rangeAt_setCells_same ((((w1.setCell ⟨w.heap.size + 1 + 1, 3, none⟩ (.slice (some ⟨B1, 0, none⟩) p.ws.length p.ws.length)).setCell ⟨w.heap.size + 1 + 1, 4, none⟩ (.string p.h)).setCell ⟨w.heap.size + 1 + 1, 5, none⟩ (.string p.c)).setCell ⟨w.heap.size + 1 + 1, 6, none⟩ (.int .i64 p.t)) (w.heap.size + 1) 0 [.int .i64 p.k, .string p.b, .int .i64 p.s, .slice (some ⟨B1, 0, none⟩) p.ws.length p.ws.length, .string p.h, .string p.c, .int .i64 p.t] S4.out.d
  clear hx1
  have kd := S4.out.d
  go_wp2_with (refine wpList_store_mid (by rfl) 39 _ _ (by rfl) (w.heap.size + 1) 0 #[.int .i64 p.k, .string p.b, .int .i64 p.s, .slice (some ⟨B1, 0, none⟩) p.ws.length p.ws.length, .string p.h, .string p.c, .int .i64 p.t] (by rfl) (by rfl) (by exact kd) hinfo (by simp [Value.oneCell']) ?_)
  have hrg := RG.out
  have d0 := hrg 0 _ rfl
  have d1 := hrg 1 _ rfl
  have d2 := hrg 2 _ rfl
  have d3 := hrg 3 _ rfl
  have d4 := hrg 4 _ rfl
  have d5 := hrg 5 _ rfl
  have d6 := hrg 6 _ rfl
  simp only [Nat.zero_add] at d0 d1 d2 d3 d4 d5 d6
  exact bodyPost_ret (v := .agg #[.int .i64 p.k, .string p.b, .int .i64 p.s, .slice (some ⟨B1, 0, none⟩) p.ws.length p.ws.length, .string p.h, .string p.c, .int .i64 p.t]) (by simp [results, Tryz.results8, go_sem, d0, d1, d2, d3, d4, d5, d6]) rfl ⟨B1, rfl, P1.out, BE.out⟩

set_option maxRecDepth 4000 in
set_option maxHeartbeats 2000000 in
theorem eqParcel_sl (p : ParcelD) (s1 t1 : Value) (B1 B2 : Nat) (w : World) (h1 : W.Sl w s1 p.ws B1) (h2 : W.Sl w t1 p.ws B2) (hl : p.ws.length ≤ 1048576) :
    Calls Tryz.prog 11 #[.agg #[.int .i64 p.k, .string p.b, .int .i64 p.s, s1, .string p.h, .string p.c, .int .i64 p.t], .agg #[.int .i64 p.k, .string p.b, .int .i64 p.s, t1, .string p.h, .string p.c, .int .i64 p.t]] w fun e w' => e = .returned (.bool true) ∧ Below w.heap.size w w' := by
  have Hb0 : Hid (Below w.heap.size w ((w.alloc (.cells #[.int .i64 p.k, .string p.b, .int .i64 p.s, s1, .string p.h, .string p.c, .int .i64 p.t] 39)).alloc (.cells #[.int .i64 p.k, .string p.b, .int .i64 p.s, t1, .string p.h, .string p.c, .int .i64 p.t] 39))) := bl_alloc (bl_alloc (Below.refl _ _) _) _
  have P0 : Hid _ := h1.keep Hb0.out
  have Q0 : Hid _ := h2.keep Hb0.out
  go_enter Tryz.func11, Tryz.ntmps11
  go_wp2_with fail
  refine (W.eq_sl P0.out Q0.out hl).mono ?_
  rintro e w1 ⟨rfl, c1⟩
  have D1 : Hid (Below ((w.alloc (.cells #[.int .i64 p.k, .string p.b, .int .i64 p.s, s1, .string p.h, .string p.c, .int .i64 p.t] 39)).alloc (.cells #[.int .i64 p.k, .string p.b, .int .i64 p.s, t1, .string p.h, .string p.c, .int .i64 p.t] 39)).heap.size ((w.alloc (.cells #[.int .i64 p.k, .string p.b, .int .i64 p.s, s1, .string p.h, .string p.c, .int .i64 p.t] 39)).alloc (.cells #[.int .i64 p.k, .string p.b, .int .i64 p.s, t1, .string p.h, .string p.c, .int .i64 p.t] 39)) w1) := c1
  clear c1
  have ka : ∀ k, w1.cell? ⟨w.heap.size, k, none⟩ = (#[.int .i64 p.k, .string p.b, .int .i64 p.s, s1, .string p.h, .string p.c, .int .i64 p.t] : Array Value)[k]? := by
    intro k
    rw [D1.out.cell (p := ⟨w.heap.size, k, none⟩) (by simp; omega)]
    simp [go_sem]
  have kb : ∀ k, w1.cell? ⟨w.heap.size + 1, k, none⟩ = (#[.int .i64 p.k, .string p.b, .int .i64 p.s, t1, .string p.h, .string p.c, .int .i64 p.t] : Array Value)[k]? := by
    intro k
    rw [D1.out.cell (p := ⟨w.heap.size + 1, k, none⟩) (by simp)]
    simp [go_sem]
  go_wp2
  go_ret
  exact ⟨rfl, bl_trans Hb0.out D1.out⟩

set_option maxRecDepth 4000 in
set_option maxHeartbeats 2000000 in
theorem markParcel_sl (p : ParcelD) (s1 : Value) (B : Nat) (k0 : Int) (w : World) (h1 : W.Sl w s1 p.ws B) (hl : p.ws.length ≤ 1048576) (h0 : 0 ≤ k0) (hk : k0 ≤ 1000000000) :
    Calls Tryz.prog 13 #[.agg #[.int .i64 p.k, .string p.b, .int .i64 p.s, s1, .string p.h, .string p.c, .int .i64 p.t], .int .i64 k0] w fun e w' => e = .returned (.int .i64 (k0 + 7 * (p.ws.length : Int))) ∧ Off (fun j => s1.ownBlock = some j) w w' := by
  have Hb0 : Hid (Below w.heap.size w (w.alloc (.cells #[.int .i64 p.k, .string p.b, .int .i64 p.s, s1, .string p.h, .string p.c, .int .i64 p.t] 39))) := bl_alloc (Below.refl _ _) _
  have P0 : Hid (W.Sl (w.alloc (.cells #[.int .i64 p.k, .string p.b, .int .i64 p.s, s1, .string p.h, .string p.c, .int .i64 p.t] 39)) s1 p.ws B) := h1.keep Hb0.out
  go_enter Tryz.func13, Tryz.ntmps13
  go_wp2_with fail
  refine (W.mark_sl P0.out k0 hl h0 hk).mono ?_
  rintro e w1 ⟨rfl, r1, g1⟩
  have F1 : Hid (Off (fun j => s1.ownBlock = some j) w w1) := (Off.of_below Hb0.out).trans (Off.of_grown g1 (fun j hj => hj))
  clear r1 g1
  go_wp2
  go_ret
  exact ⟨rfl, F1.out⟩
end Go.Proofs.YtiogkdafmgdbgaaGreat
/- 'x, ok := m[k]', there or not. -/
namespace Go.Proofs.YtiogkdafmgdbgaaGreat.Ord
theorem same {α : Type} (key : α → List UInt8) {l : List α} (hs : Srt key l) {q r : α} (hq : q ∈ l) (hr : r ∈ l) (e : key q = key r) : q = r := by
  obtain ⟨i, hi⟩ := List.getElem?_of_mem hq
  obtain ⟨j, hj⟩ := List.getElem?_of_mem hr
  obtain ⟨hil, rfl⟩ := List.getElem?_eq_some_iff.1 hi
  obtain ⟨hjl, rfl⟩ := List.getElem?_eq_some_iff.1 hj
  rcases Nat.lt_trichotomy i j with h | h | h
  · exact absurd e (before_ne (List.pairwise_iff_getElem.1 hs i j hil hjl h))
  · subst h; rfl
  · exact absurd e.symm (before_ne (List.pairwise_iff_getElem.1 hs j i hjl hil h))
theorem insL_first {α : Type} (key : α → List UInt8) (r : α) : ∀ l : List α, (∀ y ∈ l, bytesBefore (key r) (key y) = true) → insL key r l = r :: l
  | [], _ => rfl
  | y :: l, h => by rw [insL, if_pos (h y (List.mem_cons_self ..))]
theorem ins_map {α : Type} (key : α → List UInt8) [DecidableEq (List UInt8)] {r r' : α} (hk : key r' = key r) : ∀ {l : List α}, Srt key l → r ∈ l → ins key r' l = l.map (fun q => if key q = key r then r' else q)
  | [], _, h => by cases h
  | y :: l, hs, h => by
    have hy : ∀ z ∈ l, bytesBefore (key y) (key z) = true := fun z hz => List.rel_of_pairwise_cons hs hz
    have hl : Srt key l := (List.pairwise_cons.1 hs).2
    unfold ins
    by_cases e : key y = key r
    · have keep : l.filter (fun z => !(key z == key r')) = l := List.filter_eq_self.2 (fun z hz => by
        have := before_ne (hy z hz)
        simp only [hk, ← e]
        simp [Ne.symm this])
      rw [List.filter_cons_of_neg (by simp [hk, e]), keep, insL_first key r' l (fun z hz => by rw [hk, ← e]; exact hy z hz), List.map_cons, if_pos e]
      congr 1
      refine ((List.map_congr_left (fun z hz => ?_)).trans (List.map_id _)).symm
      rw [if_neg (by rw [← e]; exact Ne.symm (before_ne (hy z hz)))]
      rfl
    · have hrl : r ∈ l := by
        rcases List.mem_cons.1 h with h' | h'
        · exact absurd (by rw [h']) e
        · exact h'
      rw [List.filter_cons_of_pos (by simp [hk, e]), insL, if_neg (by rw [hk, before_asymm (hy r hrl)]; simp), List.map_cons, if_neg e]
      congr 1
      exact ins_map key hk hl hrl
end Go.Proofs.YtiogkdafmgdbgaaGreat.Ord
namespace Go.Proofs.YtiogkdafmgdbgaaGreat
open Go.RowKit Go.Maps Go.WideMaps
theorem lookV_yes {w : World} (b n : Nat) (rs : List RunD) (hown : w.ownsMap Tryz.prog 9 RV b n (dec rs)) (hs : Srt rs) (r : RunD) (hr : r ∈ rs) (hz : r.c.size ≤ maxLen) :
    Sem.run Tryz.prog (Instr.lookup 97 (.map (some b)) (.string r.c) true) w = .ok (.tuple #[.agg #[.string r.c, .int .i64 r.v, .string r.h, .int .i64 r.p, .int .i64 r.s, .int .i64 r.d, .int .i64 r.g, .int .i64 r.a, .int .i64 r.b, .int .i64 r.i, .int .i64 r.u], .bool true]) w := by
  rcases lookV b n rs hown hs r.c hz with ⟨q, hq, e, h⟩ | ⟨hno, -⟩
  · have : q = r := Ord.same keyV hs hq hr (by show q.c.data.toList = r.c.data.toList; rw [e])
    subst this
    exact h
  · exact absurd rfl (hno r hr)
theorem lookV_no {w : World} (b n : Nat) (rs : List RunD) (hown : w.ownsMap Tryz.prog 9 RV b n (dec rs)) (hs : Srt rs) (s : ByteArray) (hz : s.size ≤ maxLen) (hno : ∀ r ∈ rs, r.c ≠ s) :
    Sem.run Tryz.prog (Instr.lookup 97 (.map (some b)) (.string s) true) w = .ok (.tuple #[.agg #[.string ⟨#[]⟩, .int .i64 0, .string ⟨#[]⟩, .int .i64 0, .int .i64 0, .int .i64 0, .int .i64 0, .int .i64 0, .int .i64 0, .int .i64 0, .int .i64 0], .bool false]) w := by
  rcases lookV b n rs hown hs s hz with ⟨q, hq, e, h⟩ | ⟨-, h⟩
  · exact absurd e (hno q hq)
  · exact h
end Go.Proofs.YtiogkdafmgdbgaaGreat
namespace Go.Proofs.YtiogkdafmgdbgaaGreat.A
open Go.RowKit Go.Maps Go.WideMaps
theorem lookV_yes {w : World} (b n : Nat) (rs : List AskD) (hown : w.ownsMap Tryz.prog 9 RV b n (dec rs)) (hs : Srt rs) (r : AskD) (hr : r ∈ rs) (hz : r.h.size ≤ maxLen) :
    Sem.run Tryz.prog (Instr.lookup 100 (.map (some b)) (.string r.h) true) w = .ok (.tuple #[.agg #[.string r.h, .string r.c, .int .i64 r.f, .int .i64 r.t], .bool true]) w := by
  rcases lookV b n rs hown hs r.h hz with ⟨q, hq, e, h⟩ | ⟨hno, -⟩
  · have : q = r := Ord.same keyV hs hq hr (by show q.h.data.toList = r.h.data.toList; rw [e])
    subst this
    exact h
  · exact absurd rfl (hno r hr)
theorem lookV_no {w : World} (b n : Nat) (rs : List AskD) (hown : w.ownsMap Tryz.prog 9 RV b n (dec rs)) (hs : Srt rs) (s : ByteArray) (hz : s.size ≤ maxLen) (hno : ∀ r ∈ rs, r.h ≠ s) :
    Sem.run Tryz.prog (Instr.lookup 100 (.map (some b)) (.string s) true) w = .ok (.tuple #[.agg #[.string ⟨#[]⟩, .string ⟨#[]⟩, .int .i64 0, .int .i64 0], .bool false]) w := by
  rcases lookV b n rs hown hs s hz with ⟨q, hq, e, h⟩ | ⟨-, h⟩
  · exact absurd e (hno q hq)
  · exact h
end Go.Proofs.YtiogkdafmgdbgaaGreat.A
