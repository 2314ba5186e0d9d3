import Derived.Test.YtdkjhonaafadjaaGreatJ10
import Derived.Test.YtdkjhonaafadjaaGreatJ09
import Derived.Test.YtdkjhonaafadjaaGreatJ02
import Derived.Laws.MakeOwn
import Derived.Deep.RegionHeld3
import Derived.Laws.Pointers
import Derived.StillTactics
/- A mate is copied, its lists the call's own. -/
namespace Go.Proofs.YtdkjhonaafadjaaGreat.W
open Go.RowKit
theorem to_in2 {w : World} {v : Value} {l : List WantD} (h : In w v l) (hl : l.length ≤ 1048576) :
    Calls Tryz.prog 100 #[v] w fun e w' => e = .returned (.slice (some ⟨w.heap.size, 0, none⟩) l.length l.length) ∧ RowsAt w' w.heap.size 0 l ∧ w'.there w.heap.size 0 (l.length * 7) ∧ w.heap.size < w'.heap.size ∧ Below w.heap.size w w' := by
  rcases h with ⟨rfl, a, cap, rfl⟩ | ⟨b, off, cap, rfl, k2, k3, k4, k5⟩
  · refine (to_nil a cap w).mono ?_
    rintro e w' ⟨rfl, h1, h2⟩
    exact ⟨rfl, fun k r h => by simp at h, fun j hj => by simp at hj, h1, h2⟩
  · exact toWantS b off cap l w k4 k3 hl
end Go.Proofs.YtdkjhonaafadjaaGreat.W
namespace Go.Proofs.YtdkjhonaafadjaaGreat
open Go.RowKit
theorem to_in2 {w : World} {v : Value} {l : List RunD} (h : In w v l) (hl : l.length ≤ 1048576) :
    Calls Tryz.prog 101 #[v] w fun e w' => e = .returned (.slice (some ⟨w.heap.size, 0, none⟩) l.length l.length) ∧ RowsAt w' w.heap.size 0 l ∧ w'.there w.heap.size 0 (l.length * 11) ∧ w.heap.size < w'.heap.size ∧ Below w.heap.size w w' := by
  rcases h with ⟨rfl, a, cap, rfl⟩ | ⟨b, off, cap, rfl, k2, k3, k4, k5⟩
  · refine (to_nil a cap w).mono ?_
    rintro e w' ⟨rfl, h1, h2⟩
    exact ⟨rfl, fun k r h => by simp at h, fun j hj => by simp at hj, h1, h2⟩
  · exact toRunS b off cap l w k4 k3 hl
end Go.Proofs.YtdkjhonaafadjaaGreat
namespace Go.Proofs.YtdkjhonaafadjaaGreat.A
open Go.RowKit
theorem to_in2 {w : World} {v : Value} {l : List AskD} (h : In w v l) (hl : l.length ≤ 1048576) :
    Calls Tryz.prog 102 #[v] w fun e w' => e = .returned (.slice (some ⟨w.heap.size, 0, none⟩) l.length l.length) ∧ RowsAt w' w.heap.size 0 l ∧ w'.there w.heap.size 0 (l.length * 4) ∧ w.heap.size < w'.heap.size ∧ Below w.heap.size w w' := by
  rcases h with ⟨rfl, a, cap, rfl⟩ | ⟨b, off, cap, rfl, k2, k3, k4, k5⟩
  · refine (to_nil a cap w).mono ?_
    rintro e w' ⟨rfl, h1, h2⟩
    exact ⟨rfl, fun k r h => by simp at h, fun j hj => by simp at hj, h1, h2⟩
  · exact toAskS b off cap l w k4 k3 hl
end Go.Proofs.YtdkjhonaafadjaaGreat.A
namespace Go.Proofs.YtdkjhonaafadjaaGreat
open Go.RowKit
set_option linter.unusedVariables false

theorem dif_ne {a b n c n' c' : Nat} (h : a ≠ b) : Dif (.slice (some ⟨a, 0, none⟩) n c) (.slice (some ⟨b, 0, none⟩) n' c') := Or.inr (by simpa [Value.ownBlock] using h)
theorem own_ne {a b n c : Nat} (h : a ≠ b) : (Value.slice (some ⟨a, 0, none⟩) n c).ownBlock ≠ some b := by simpa [Value.ownBlock] using h

set_option maxRecDepth 4000 in
set_option maxHeartbeats 4000000 in
theorem toMate_sl (m : MateD) (v1 v2 v3 v4 : Value) (w : World) (i1 : W.In w v1 m.ws) (i2 : In w v2 m.rs) (i3 : A.In w v3 m.qs) (i4 : A.In w v4 m.gs) (l1 : m.ws.length ≤ 1048576) (l2 : m.rs.length ≤ 1048576) (l3 : m.qs.length ≤ 1048576) (l4 : m.gs.length ≤ 1048576) :
    Calls Tryz.prog 79 #[.agg #[.string m.nm, .bool m.up, .int .i64 m.ck, .bool m.kn, .int .i64 m.se, v1, v2, v3, v4]] w fun e w' => ∃ b1 b2 b3 b4, e = .returned (.agg #[.string m.nm, .bool m.up, .int .i64 m.ck, .bool m.kn, .int .i64 m.se, .slice (some ⟨b1, 0, none⟩) m.ws.length m.ws.length, .slice (some ⟨b2, 0, none⟩) m.rs.length m.rs.length, .slice (some ⟨b3, 0, none⟩) m.qs.length m.qs.length, .slice (some ⟨b4, 0, none⟩) m.gs.length m.gs.length]) ∧ SlM w' m (.slice (some ⟨b1, 0, none⟩) m.ws.length m.ws.length) (.slice (some ⟨b2, 0, none⟩) m.rs.length m.rs.length) (.slice (some ⟨b3, 0, none⟩) m.qs.length m.qs.length) (.slice (some ⟨b4, 0, none⟩) m.gs.length m.gs.length) w.heap.size ∧ Below w.heap.size w w' := by
  have S0 : Hid (St w #[.string m.nm, .bool m.up, .int .i64 m.ck, .bool m.kn, .int .i64 m.se, v1, v2, v3, v4] #[.string m.nm, .bool m.up, .int .i64 m.ck, .bool m.kn, .int .i64 m.se, .slice none 0 0, .slice none 0 0, .slice none 0 0, .slice none 0 0] ((((w.alloc (.cells #[.string m.nm, .bool m.up, .int .i64 m.ck, .bool m.kn, .int .i64 m.se, v1, v2, v3, v4] 99))).alloc (.cells #[.string { data := #[] }, .bool false, .int .i64 0, .bool false, .int .i64 0, .slice none 0 0, .slice none 0 0, .slice none 0 0, .slice none 0 0] 52)).alloc (.cells #[.string m.nm, .bool m.up, .int .i64 m.ck, .bool m.kn, .int .i64 m.se, .slice none 0 0, .slice none 0 0, .slice none 0 0, .slice none 0 0] 52))) := st_new m v1 v2 v3 v4 w
  have hinfo : (Tryz.prog.info? 52).map (·.size) = some 9 := by kernel_rfl
  go_enter Tryz.func79, Tryz.ntmps79
  go_wp2_with fail
  have hto1 := W.to_in2 (i1.keep S0.out.e) l1
  refine hto1.mono ?_
  clear hto1
  rintro e w1 ⟨rfl, r1, th1, z1, c1⟩
  have T1 : Hid (St w #[.string m.nm, .bool m.up, .int .i64 m.ck, .bool m.kn, .int .i64 m.se, v1, v2, v3, v4] #[.string m.nm, .bool m.up, .int .i64 m.ck, .bool m.kn, .int .i64 m.se, .slice none 0 0, .slice none 0 0, .slice none 0 0, .slice none 0 0] w1) := S0.out.below c1
  have ka1 := T1.out.a
  have ko1 := T1.out.b
  have kf1 := T1.out.c
  have kz1 := T1.out.f
  obtain ⟨B1, hB1⟩ : ∃ B, B = ((((w.alloc (.cells #[.string m.nm, .bool m.up, .int .i64 m.ck, .bool m.kn, .int .i64 m.se, v1, v2, v3, v4] 99))).alloc (.cells #[.string { data := #[] }, .bool false, .int .i64 0, .bool false, .int .i64 0, .slice none 0 0, .slice none 0 0, .slice none 0 0, .slice none 0 0] 52)).alloc (.cells #[.string m.nm, .bool m.up, .int .i64 m.ck, .bool m.kn, .int .i64 m.se, .slice none 0 0, .slice none 0 0, .slice none 0 0, .slice none 0 0] 52)).heap.size := ⟨_, rfl⟩
  have HB1 : Hid (w.heap.size + 1 + 1 < B1) := by rw [hB1]; exact S0.out.f
  have LT1 : Hid (B1 < w1.heap.size) := by rw [hB1]; exact z1
  have LE1 : Hid (((((w.alloc (.cells #[.string m.nm, .bool m.up, .int .i64 m.ck, .bool m.kn, .int .i64 m.se, v1, v2, v3, v4] 99))).alloc (.cells #[.string { data := #[] }, .bool false, .int .i64 0, .bool false, .int .i64 0, .slice none 0 0, .slice none 0 0, .slice none 0 0, .slice none 0 0] 52)).alloc (.cells #[.string m.nm, .bool m.up, .int .i64 m.ck, .bool m.kn, .int .i64 m.se, .slice none 0 0, .slice none 0 0, .slice none 0 0, .slice none 0 0] 52)).heap.size ≤ B1) := by rw [hB1]; exact Nat.le_refl _
  have Q1 : Hid (W.Sl w1 (.slice (some ⟨B1, 0, none⟩) m.ws.length m.ws.length) m.ws w.heap.size) := Or.inr ⟨B1, _, rfl, by have := HB1.out; omega, LT1.out, by rw [hB1]; exact r1, by rw [hB1]; exact th1⟩
  have Y1 : Hid (Below ((((w.alloc (.cells #[.string m.nm, .bool m.up, .int .i64 m.ck, .bool m.kn, .int .i64 m.se, v1, v2, v3, v4] 99))).alloc (.cells #[.string { data := #[] }, .bool false, .int .i64 0, .bool false, .int .i64 0, .slice none 0 0, .slice none 0 0, .slice none 0 0, .slice none 0 0] 52)).alloc (.cells #[.string m.nm, .bool m.up, .int .i64 m.ck, .bool m.kn, .int .i64 m.se, .slice none 0 0, .slice none 0 0, .slice none 0 0, .slice none 0 0] 52)).heap.size ((((w.alloc (.cells #[.string m.nm, .bool m.up, .int .i64 m.ck, .bool m.kn, .int .i64 m.se, v1, v2, v3, v4] 99))).alloc (.cells #[.string { data := #[] }, .bool false, .int .i64 0, .bool false, .int .i64 0, .slice none 0 0, .slice none 0 0, .slice none 0 0, .slice none 0 0] 52)).alloc (.cells #[.string m.nm, .bool m.up, .int .i64 m.ck, .bool m.kn, .int .i64 m.se, .slice none 0 0, .slice none 0 0, .slice none 0 0, .slice none 0 0] 52)) w1) := c1
  rw [← hB1]
  clear hB1 r1 th1 z1 c1
  have S1 : Hid (St w #[.string m.nm, .bool m.up, .int .i64 m.ck, .bool m.kn, .int .i64 m.se, v1, v2, v3, v4] #[.string m.nm, .bool m.up, .int .i64 m.ck, .bool m.kn, .int .i64 m.se, .slice (some ⟨B1, 0, none⟩) m.ws.length m.ws.length, .slice none 0 0, .slice none 0 0, .slice none 0 0] (w1.setCell ⟨w.heap.size + 1 + 1, 5, none⟩ (.slice (some ⟨B1, 0, none⟩) m.ws.length m.ws.length))) := T1.out.set 5 (by simp) _
  have X1 : Hid (Ex (w.heap.size + 1 + 1) w1 (w1.setCell ⟨w.heap.size + 1 + 1, 5, none⟩ (.slice (some ⟨B1, 0, none⟩) m.ws.length m.ws.length))) := Ex.set (Ex.refl _ _) 5 _
  go_wp2_with fail
  clear ka1 ko1 kf1
  have hto2 := to_in2 (i2.keep S1.out.e) l2
  refine hto2.mono ?_
  clear hto2
  rintro e w2 ⟨rfl, r2, th2, z2, c2⟩
  have T2 : Hid (St w #[.string m.nm, .bool m.up, .int .i64 m.ck, .bool m.kn, .int .i64 m.se, v1, v2, v3, v4] #[.string m.nm, .bool m.up, .int .i64 m.ck, .bool m.kn, .int .i64 m.se, .slice (some ⟨B1, 0, none⟩) m.ws.length m.ws.length, .slice none 0 0, .slice none 0 0, .slice none 0 0] w2) := S1.out.below c2
  have ka2 := T2.out.a
  have ko2 := T2.out.b
  have kf2 := T2.out.c
  have kz2 := T2.out.f
  obtain ⟨B2, hB2⟩ : ∃ B, B = (w1.setCell ⟨w.heap.size + 1 + 1, 5, none⟩ (.slice (some ⟨B1, 0, none⟩) m.ws.length m.ws.length)).heap.size := ⟨_, rfl⟩
  have HB2 : Hid (w.heap.size + 1 + 1 < B2) := by rw [hB2]; exact S1.out.f
  have LT2 : Hid (B2 < w2.heap.size) := by rw [hB2]; exact z2
  have LE2 : Hid ((w1.setCell ⟨w.heap.size + 1 + 1, 5, none⟩ (.slice (some ⟨B1, 0, none⟩) m.ws.length m.ws.length)).heap.size ≤ B2) := by rw [hB2]; exact Nat.le_refl _
  have Q2 : Hid (Sl w2 (.slice (some ⟨B2, 0, none⟩) m.rs.length m.rs.length) m.rs w.heap.size) := Or.inr ⟨B2, _, rfl, by have := HB2.out; omega, LT2.out, by rw [hB2]; exact r2, by rw [hB2]; exact th2⟩
  have Y2 : Hid (Below (w1.setCell ⟨w.heap.size + 1 + 1, 5, none⟩ (.slice (some ⟨B1, 0, none⟩) m.ws.length m.ws.length)).heap.size (w1.setCell ⟨w.heap.size + 1 + 1, 5, none⟩ (.slice (some ⟨B1, 0, none⟩) m.ws.length m.ws.length)) w2) := c2
  rw [← hB2]
  clear hB2 r2 th2 z2 c2
  have S2 : Hid (St w #[.string m.nm, .bool m.up, .int .i64 m.ck, .bool m.kn, .int .i64 m.se, v1, v2, v3, v4] #[.string m.nm, .bool m.up, .int .i64 m.ck, .bool m.kn, .int .i64 m.se, .slice (some ⟨B1, 0, none⟩) m.ws.length m.ws.length, .slice (some ⟨B2, 0, none⟩) m.rs.length m.rs.length, .slice none 0 0, .slice none 0 0] (w2.setCell ⟨w.heap.size + 1 + 1, 6, none⟩ (.slice (some ⟨B2, 0, none⟩) m.rs.length m.rs.length))) := T2.out.set 6 (by simp) _
  have X2 : Hid (Ex (w.heap.size + 1 + 1) w2 (w2.setCell ⟨w.heap.size + 1 + 1, 6, none⟩ (.slice (some ⟨B2, 0, none⟩) m.rs.length m.rs.length))) := Ex.set (Ex.refl _ _) 6 _
  go_wp2_with fail
  clear ka2 ko2 kf2
  have hto3 := A.to_in2 (i3.keep S2.out.e) l3
  refine hto3.mono ?_
  clear hto3
  rintro e w3 ⟨rfl, r3, th3, z3, c3⟩
  have T3 : Hid (St w #[.string m.nm, .bool m.up, .int .i64 m.ck, .bool m.kn, .int .i64 m.se, v1, v2, v3, v4] #[.string m.nm, .bool m.up, .int .i64 m.ck, .bool m.kn, .int .i64 m.se, .slice (some ⟨B1, 0, none⟩) m.ws.length m.ws.length, .slice (some ⟨B2, 0, none⟩) m.rs.length m.rs.length, .slice none 0 0, .slice none 0 0] w3) := S2.out.below c3
  have ka3 := T3.out.a
  have ko3 := T3.out.b
  have kf3 := T3.out.c
  have kz3 := T3.out.f
  obtain ⟨B3, hB3⟩ : ∃ B, B = (w2.setCell ⟨w.heap.size + 1 + 1, 6, none⟩ (.slice (some ⟨B2, 0, none⟩) m.rs.length m.rs.length)).heap.size := ⟨_, rfl⟩
  have HB3 : Hid (w.heap.size + 1 + 1 < B3) := by rw [hB3]; exact S2.out.f
  have LT3 : Hid (B3 < w3.heap.size) := by rw [hB3]; exact z3
  have LE3 : Hid ((w2.setCell ⟨w.heap.size + 1 + 1, 6, none⟩ (.slice (some ⟨B2, 0, none⟩) m.rs.length m.rs.length)).heap.size ≤ B3) := by rw [hB3]; exact Nat.le_refl _
  have Q3 : Hid (A.Sl w3 (.slice (some ⟨B3, 0, none⟩) m.qs.length m.qs.length) m.qs w.heap.size) := Or.inr ⟨B3, _, rfl, by have := HB3.out; omega, LT3.out, by rw [hB3]; exact r3, by rw [hB3]; exact th3⟩
  have Y3 : Hid (Below (w2.setCell ⟨w.heap.size + 1 + 1, 6, none⟩ (.slice (some ⟨B2, 0, none⟩) m.rs.length m.rs.length)).heap.size (w2.setCell ⟨w.heap.size + 1 + 1, 6, none⟩ (.slice (some ⟨B2, 0, none⟩) m.rs.length m.rs.length)) w3) := c3
  rw [← hB3]
  clear hB3 r3 th3 z3 c3
  have S3 : Hid (St w #[.string m.nm, .bool m.up, .int .i64 m.ck, .bool m.kn, .int .i64 m.se, v1, v2, v3, v4] #[.string m.nm, .bool m.up, .int .i64 m.ck, .bool m.kn, .int .i64 m.se, .slice (some ⟨B1, 0, none⟩) m.ws.length m.ws.length, .slice (some ⟨B2, 0, none⟩) m.rs.length m.rs.length, .slice (some ⟨B3, 0, none⟩) m.qs.length m.qs.length, .slice none 0 0] (w3.setCell ⟨w.heap.size + 1 + 1, 7, none⟩ (.slice (some ⟨B3, 0, none⟩) m.qs.length m.qs.length))) := T3.out.set 7 (by simp) _
  have X3 : Hid (Ex (w.heap.size + 1 + 1) w3 (w3.setCell ⟨w.heap.size + 1 + 1, 7, none⟩ (.slice (some ⟨B3, 0, none⟩) m.qs.length m.qs.length))) := Ex.set (Ex.refl _ _) 7 _
  go_wp2_with fail
  clear ka3 ko3 kf3
  have hto4 := A.to_in2 (i4.keep S3.out.e) l4
  refine hto4.mono ?_
  clear hto4
  rintro e w4 ⟨rfl, r4, th4, z4, c4⟩
  have T4 : Hid (St w #[.string m.nm, .bool m.up, .int .i64 m.ck, .bool m.kn, .int .i64 m.se, v1, v2, v3, v4] #[.string m.nm, .bool m.up, .int .i64 m.ck, .bool m.kn, .int .i64 m.se, .slice (some ⟨B1, 0, none⟩) m.ws.length m.ws.length, .slice (some ⟨B2, 0, none⟩) m.rs.length m.rs.length, .slice (some ⟨B3, 0, none⟩) m.qs.length m.qs.length, .slice none 0 0] w4) := S3.out.below c4
  have ka4 := T4.out.a
  have ko4 := T4.out.b
  have kf4 := T4.out.c
  have kz4 := T4.out.f
  obtain ⟨B4, hB4⟩ : ∃ B, B = (w3.setCell ⟨w.heap.size + 1 + 1, 7, none⟩ (.slice (some ⟨B3, 0, none⟩) m.qs.length m.qs.length)).heap.size := ⟨_, rfl⟩
  have HB4 : Hid (w.heap.size + 1 + 1 < B4) := by rw [hB4]; exact S3.out.f
  have LT4 : Hid (B4 < w4.heap.size) := by rw [hB4]; exact z4
  have LE4 : Hid ((w3.setCell ⟨w.heap.size + 1 + 1, 7, none⟩ (.slice (some ⟨B3, 0, none⟩) m.qs.length m.qs.length)).heap.size ≤ B4) := by rw [hB4]; exact Nat.le_refl _
  have Q4 : Hid (A.Sl w4 (.slice (some ⟨B4, 0, none⟩) m.gs.length m.gs.length) m.gs w.heap.size) := Or.inr ⟨B4, _, rfl, by have := HB4.out; omega, LT4.out, by rw [hB4]; exact r4, by rw [hB4]; exact th4⟩
  have Y4 : Hid (Below (w3.setCell ⟨w.heap.size + 1 + 1, 7, none⟩ (.slice (some ⟨B3, 0, none⟩) m.qs.length m.qs.length)).heap.size (w3.setCell ⟨w.heap.size + 1 + 1, 7, none⟩ (.slice (some ⟨B3, 0, none⟩) m.qs.length m.qs.length)) w4) := c4
  rw [← hB4]
  clear hB4 r4 th4 z4 c4
  have S4 : Hid (St w #[.string m.nm, .bool m.up, .int .i64 m.ck, .bool m.kn, .int .i64 m.se, v1, v2, v3, v4] #[.string m.nm, .bool m.up, .int .i64 m.ck, .bool m.kn, .int .i64 m.se, .slice (some ⟨B1, 0, none⟩) m.ws.length m.ws.length, .slice (some ⟨B2, 0, none⟩) m.rs.length m.rs.length, .slice (some ⟨B3, 0, none⟩) m.qs.length m.qs.length, .slice (some ⟨B4, 0, none⟩) m.gs.length m.gs.length] (w4.setCell ⟨w.heap.size + 1 + 1, 8, none⟩ (.slice (some ⟨B4, 0, none⟩) m.gs.length m.gs.length))) := T4.out.set 8 (by simp) _
  have X4 : Hid (Ex (w.heap.size + 1 + 1) w4 (w4.setCell ⟨w.heap.size + 1 + 1, 8, none⟩ (.slice (some ⟨B4, 0, none⟩) m.gs.length m.gs.length))) := Ex.set (Ex.refl _ _) 8 _
  have hx1 : Ex (w.heap.size + 1) (w4.setCell ⟨w.heap.size + 1 + 1, 8, none⟩ (.slice (some ⟨B4, 0, none⟩) m.gs.length m.gs.length)) (World.setCells (w4.setCell ⟨w.heap.size + 1 + 1, 8, none⟩ (.slice (some ⟨B4, 0, none⟩) m.gs.length m.gs.length)) (w.heap.size + 1) 0 [.string m.nm, .bool m.up, .int .i64 m.ck, .bool m.kn, .int .i64 m.se, .slice (some ⟨B1, 0, none⟩) m.ws.length m.ws.length, .slice (some ⟨B2, 0, none⟩) m.rs.length m.rs.length, .slice (some ⟨B3, 0, none⟩) m.qs.length m.qs.length, .slice (some ⟨B4, 0, none⟩) m.gs.length m.gs.length]) := (Ex.refl _ _).cells _ _
  have P1 : Hid (W.Sl (World.setCells (w4.setCell ⟨w.heap.size + 1 + 1, 8, none⟩ (.slice (some ⟨B4, 0, none⟩) m.gs.length m.gs.length)) (w.heap.size + 1) 0 [.string m.nm, .bool m.up, .int .i64 m.ck, .bool m.kn, .int .i64 m.se, .slice (some ⟨B1, 0, none⟩) m.ws.length m.ws.length, .slice (some ⟨B2, 0, none⟩) m.rs.length m.rs.length, .slice (some ⟨B3, 0, none⟩) m.qs.length m.qs.length, .slice (some ⟨B4, 0, none⟩) m.gs.length m.gs.length]) (.slice (some ⟨B1, 0, none⟩) m.ws.length m.ws.length) m.ws w.heap.size) := ((((((((Q1.out).grown (W.ex_grown X1.out) (Or.inr (own_ne (by have := HB1.out; omega)))).keep Y2.out).grown (W.ex_grown X2.out) (Or.inr (own_ne (by have := HB1.out; omega)))).keep Y3.out).grown (W.ex_grown X3.out) (Or.inr (own_ne (by have := HB1.out; omega)))).keep Y4.out).grown (W.ex_grown X4.out) (Or.inr (own_ne (by have := HB1.out; omega)))).grown (W.ex_grown hx1) (Or.inr (own_ne (by have := HB1.out; omega)))
  have P2 : Hid (Sl (World.setCells (w4.setCell ⟨w.heap.size + 1 + 1, 8, none⟩ (.slice (some ⟨B4, 0, none⟩) m.gs.length m.gs.length)) (w.heap.size + 1) 0 [.string m.nm, .bool m.up, .int .i64 m.ck, .bool m.kn, .int .i64 m.se, .slice (some ⟨B1, 0, none⟩) m.ws.length m.ws.length, .slice (some ⟨B2, 0, none⟩) m.rs.length m.rs.length, .slice (some ⟨B3, 0, none⟩) m.qs.length m.qs.length, .slice (some ⟨B4, 0, none⟩) m.gs.length m.gs.length]) (.slice (some ⟨B2, 0, none⟩) m.rs.length m.rs.length) m.rs w.heap.size) := ((((((Q2.out).grown (ex_grown X2.out) (Or.inr (own_ne (by have := HB2.out; omega)))).keep Y3.out).grown (ex_grown X3.out) (Or.inr (own_ne (by have := HB2.out; omega)))).keep Y4.out).grown (ex_grown X4.out) (Or.inr (own_ne (by have := HB2.out; omega)))).grown (ex_grown hx1) (Or.inr (own_ne (by have := HB2.out; omega)))
  have P3 : Hid (A.Sl (World.setCells (w4.setCell ⟨w.heap.size + 1 + 1, 8, none⟩ (.slice (some ⟨B4, 0, none⟩) m.gs.length m.gs.length)) (w.heap.size + 1) 0 [.string m.nm, .bool m.up, .int .i64 m.ck, .bool m.kn, .int .i64 m.se, .slice (some ⟨B1, 0, none⟩) m.ws.length m.ws.length, .slice (some ⟨B2, 0, none⟩) m.rs.length m.rs.length, .slice (some ⟨B3, 0, none⟩) m.qs.length m.qs.length, .slice (some ⟨B4, 0, none⟩) m.gs.length m.gs.length]) (.slice (some ⟨B3, 0, none⟩) m.qs.length m.qs.length) m.qs w.heap.size) := ((((Q3.out).grown (A.ex_grown X3.out) (Or.inr (own_ne (by have := HB3.out; omega)))).keep Y4.out).grown (A.ex_grown X4.out) (Or.inr (own_ne (by have := HB3.out; omega)))).grown (A.ex_grown hx1) (Or.inr (own_ne (by have := HB3.out; omega)))
  have P4 : Hid (A.Sl (World.setCells (w4.setCell ⟨w.heap.size + 1 + 1, 8, none⟩ (.slice (some ⟨B4, 0, none⟩) m.gs.length m.gs.length)) (w.heap.size + 1) 0 [.string m.nm, .bool m.up, .int .i64 m.ck, .bool m.kn, .int .i64 m.se, .slice (some ⟨B1, 0, none⟩) m.ws.length m.ws.length, .slice (some ⟨B2, 0, none⟩) m.rs.length m.rs.length, .slice (some ⟨B3, 0, none⟩) m.qs.length m.qs.length, .slice (some ⟨B4, 0, none⟩) m.gs.length m.gs.length]) (.slice (some ⟨B4, 0, none⟩) m.gs.length m.gs.length) m.gs w.heap.size) := ((Q4.out).grown (A.ex_grown X4.out) (Or.inr (own_ne (by have := HB4.out; omega)))).grown (A.ex_grown hx1) (Or.inr (own_ne (by have := HB4.out; omega)))
  have o12 : B1 < B2 := by have h1 := LT1.out; have h2 := LE2.out; have h3 := X1.out.size; omega
  have o23 : B2 < B3 := by have h1 := LT2.out; have h2 := LE3.out; have h3 := X2.out.size; omega
  have o34 : B3 < B4 := by have h1 := LT3.out; have h2 := LE4.out; have h3 := X3.out.size; omega
  have LS : Hid (SlM (World.setCells (w4.setCell ⟨w.heap.size + 1 + 1, 8, none⟩ (.slice (some ⟨B4, 0, none⟩) m.gs.length m.gs.length)) (w.heap.size + 1) 0 [.string m.nm, .bool m.up, .int .i64 m.ck, .bool m.kn, .int .i64 m.se, .slice (some ⟨B1, 0, none⟩) m.ws.length m.ws.length, .slice (some ⟨B2, 0, none⟩) m.rs.length m.rs.length, .slice (some ⟨B3, 0, none⟩) m.qs.length m.qs.length, .slice (some ⟨B4, 0, none⟩) m.gs.length m.gs.length]) m (.slice (some ⟨B1, 0, none⟩) m.ws.length m.ws.length) (.slice (some ⟨B2, 0, none⟩) m.rs.length m.rs.length) (.slice (some ⟨B3, 0, none⟩) m.qs.length m.qs.length) (.slice (some ⟨B4, 0, none⟩) m.gs.length m.gs.length) w.heap.size) := ⟨P1.out, P2.out, P3.out, P4.out, dif_ne (by omega), dif_ne (by omega), dif_ne (by omega), dif_ne (by omega), dif_ne (by omega), dif_ne (by omega)⟩
  have BE : Hid (Below w.heap.size w (World.setCells (w4.setCell ⟨w.heap.size + 1 + 1, 8, none⟩ (.slice (some ⟨B4, 0, none⟩) m.gs.length m.gs.length)) (w.heap.size + 1) 0 [.string m.nm, .bool m.up, .int .i64 m.ck, .bool m.kn, .int .i64 m.se, .slice (some ⟨B1, 0, none⟩) m.ws.length m.ws.length, .slice (some ⟨B2, 0, none⟩) m.rs.length m.rs.length, .slice (some ⟨B3, 0, none⟩) m.qs.length m.qs.length, .slice (some ⟨B4, 0, none⟩) m.gs.length m.gs.length])) := ⟨hx1.os.trans S4.out.e.os, hx1.tape.trans S4.out.e.tape, hx1.output.trans S4.out.e.output, Nat.le_trans S4.out.e.size hx1.size, fun k hk => (hx1.block k (Nat.lt_of_lt_of_le hk S4.out.e.size) (by omega)).trans (S4.out.e.block k hk)⟩
  have RG : Hid _ := World.rangeAt_setCells_same (w4.setCell ⟨w.heap.size + 1 + 1, 8, none⟩ (.slice (some ⟨B4, 0, none⟩) m.gs.length m.gs.length)) (w.heap.size + 1) 0 [.string m.nm, .bool m.up, .int .i64 m.ck, .bool m.kn, .int .i64 m.se, .slice (some ⟨B1, 0, none⟩) m.ws.length m.ws.length, .slice (some ⟨B2, 0, none⟩) m.rs.length m.rs.length, .slice (some ⟨B3, 0, none⟩) m.qs.length m.qs.length, .slice (some ⟨B4, 0, none⟩) m.gs.length m.gs.length] S4.out.d
  clear hx1 P1 P2 P3 P4 o12 o23 o34
  have kd := S4.out.d
  go_wp2_with (refine wpList_store_mid (by rfl) 52 _ _ (by rfl) (w.heap.size + 1) 0 #[.string m.nm, .bool m.up, .int .i64 m.ck, .bool m.kn, .int .i64 m.se, .slice (some ⟨B1, 0, none⟩) m.ws.length m.ws.length, .slice (some ⟨B2, 0, none⟩) m.rs.length m.rs.length, .slice (some ⟨B3, 0, none⟩) m.qs.length m.qs.length, .slice (some ⟨B4, 0, none⟩) m.gs.length m.gs.length] (by rfl) (by rfl) (by exact kd) hinfo (by simp [Value.oneCell']) ?_)
  have hrg := RG.out
  have d0 := hrg 0 _ rfl
  have d1 := hrg 1 _ rfl
  have d2 := hrg 2 _ rfl
  have d3 := hrg 3 _ rfl
  have d4 := hrg 4 _ rfl
  have d5 := hrg 5 _ rfl
  have d6 := hrg 6 _ rfl
  have d7 := hrg 7 _ rfl
  have d8 := hrg 8 _ rfl
  simp only [Nat.zero_add] at d0 d1 d2 d3 d4 d5 d6 d7 d8
  exact bodyPost_ret (v := .agg #[.string m.nm, .bool m.up, .int .i64 m.ck, .bool m.kn, .int .i64 m.se, .slice (some ⟨B1, 0, none⟩) m.ws.length m.ws.length, .slice (some ⟨B2, 0, none⟩) m.rs.length m.rs.length, .slice (some ⟨B3, 0, none⟩) m.qs.length m.qs.length, .slice (some ⟨B4, 0, none⟩) m.gs.length m.gs.length]) (by simp [results, Tryz.results79, go_sem, d0, d1, d2, d3, d4, d5, d6, d7, d8]) rfl ⟨B1, B2, B3, B4, rfl, LS.out, BE.out⟩
end Go.Proofs.YtdkjhonaafadjaaGreat
/- What a law's walk carries. -/
namespace Go.Proofs.YtdkjhonaafadjaaGreat
open Go.RowKit
set_option linter.unusedVariables false

theorem W.Sl.off {P : Nat → Prop} {w w' : World} {v : Value} {l : List W.WantD} {B : Nat} (h : W.Sl w v l B) (ho : Off P w w') (hn : ∀ g, v.ownBlock = some g → ¬ P g) : W.Sl w' v l B := by
  rcases h with h | ⟨g, cap, rfl, h1, h2, h3, h4⟩
  · exact Or.inl h
  · have hg : ¬ P g := hn g rfl
    have hc : ∀ o, w'.cell? ⟨g, o, none⟩ = w.cell? ⟨g, o, none⟩ := fun o => World.cell?_of_block (w := w) (a := ⟨g, o, none⟩) (ho.block g h2 hg)
    have hfz : ∀ o, w'.frozen? ⟨g, o, none⟩ = w.frozen? ⟨g, o, none⟩ := fun o => World.frozen?_of_block (w := w) (a := ⟨g, o, none⟩) (ho.block g h2 hg)
    exact Or.inr ⟨g, cap, rfl, h1, Nat.lt_of_lt_of_le h2 ho.size, fun k r hk j v hj => (hc _).trans (h3 k r hk j v hj), fun j hj => ⟨by rw [hc]; exact (h4 j hj).1, by rw [hfz]; exact (h4 j hj).2⟩⟩
theorem W.Sl.at_ {w : World} {b : Nat} {l : List W.WantD} {B : Nat} (h : W.Sl w (.slice (some ⟨b, 0, none⟩) l.length l.length) l B) : W.RowsAt w b 0 l ∧ b < w.heap.size := by
  rcases h with ⟨h, -⟩ | ⟨g, cap, h0, h1, h2, h3, h4⟩
  · cases h
  · cases h0; exact ⟨h3, h2⟩
theorem Sl.off {P : Nat → Prop} {w w' : World} {v : Value} {l : List RunD} {B : Nat} (h : Sl w v l B) (ho : Off P w w') (hn : ∀ g, v.ownBlock = some g → ¬ P g) : Sl w' v l B := by
  rcases h with h | ⟨g, cap, rfl, h1, h2, h3, h4⟩
  · exact Or.inl h
  · have hg : ¬ P g := hn g rfl
    have hc : ∀ o, w'.cell? ⟨g, o, none⟩ = w.cell? ⟨g, o, none⟩ := fun o => World.cell?_of_block (w := w) (a := ⟨g, o, none⟩) (ho.block g h2 hg)
    have hfz : ∀ o, w'.frozen? ⟨g, o, none⟩ = w.frozen? ⟨g, o, none⟩ := fun o => World.frozen?_of_block (w := w) (a := ⟨g, o, none⟩) (ho.block g h2 hg)
    exact Or.inr ⟨g, cap, rfl, h1, Nat.lt_of_lt_of_le h2 ho.size, fun k r hk j v hj => (hc _).trans (h3 k r hk j v hj), fun j hj => ⟨by rw [hc]; exact (h4 j hj).1, by rw [hfz]; exact (h4 j hj).2⟩⟩
theorem Sl.at_ {w : World} {b : Nat} {l : List RunD} {B : Nat} (h : Sl w (.slice (some ⟨b, 0, none⟩) l.length l.length) l B) : RowsAt w b 0 l ∧ b < w.heap.size := by
  rcases h with ⟨h, -⟩ | ⟨g, cap, h0, h1, h2, h3, h4⟩
  · cases h
  · cases h0; exact ⟨h3, h2⟩
theorem A.Sl.off {P : Nat → Prop} {w w' : World} {v : Value} {l : List A.AskD} {B : Nat} (h : A.Sl w v l B) (ho : Off P w w') (hn : ∀ g, v.ownBlock = some g → ¬ P g) : A.Sl w' v l B := by
  rcases h with h | ⟨g, cap, rfl, h1, h2, h3, h4⟩
  · exact Or.inl h
  · have hg : ¬ P g := hn g rfl
    have hc : ∀ o, w'.cell? ⟨g, o, none⟩ = w.cell? ⟨g, o, none⟩ := fun o => World.cell?_of_block (w := w) (a := ⟨g, o, none⟩) (ho.block g h2 hg)
    have hfz : ∀ o, w'.frozen? ⟨g, o, none⟩ = w.frozen? ⟨g, o, none⟩ := fun o => World.frozen?_of_block (w := w) (a := ⟨g, o, none⟩) (ho.block g h2 hg)
    exact Or.inr ⟨g, cap, rfl, h1, Nat.lt_of_lt_of_le h2 ho.size, fun k r hk j v hj => (hc _).trans (h3 k r hk j v hj), fun j hj => ⟨by rw [hc]; exact (h4 j hj).1, by rw [hfz]; exact (h4 j hj).2⟩⟩
theorem A.Sl.at_ {w : World} {b : Nat} {l : List A.AskD} {B : Nat} (h : A.Sl w (.slice (some ⟨b, 0, none⟩) l.length l.length) l B) : A.RowsAt w b 0 l ∧ b < w.heap.size := by
  rcases h with ⟨h, -⟩ | ⟨g, cap, h0, h1, h2, h3, h4⟩
  · cases h
  · cases h0; exact ⟨h3, h2⟩
theorem SlM.off {P : Nat → Prop} {w w' : World} {m : MateD} {s1 s2 s3 s4 : Value} {B : Nat} (h : SlM w m s1 s2 s3 s4 B) (ho : Off P w w') (hn : ∀ j, (s1.ownBlock = some j ∨ s2.ownBlock = some j ∨ s3.ownBlock = some j ∨ s4.ownBlock = some j) → ¬ P j) : SlM w' m s1 s2 s3 s4 B :=
  ⟨h.a1.off ho (fun g hg => hn g (Or.inl hg)), h.a2.off ho (fun g hg => hn g (Or.inr (Or.inl hg))), h.a3.off ho (fun g hg => hn g (Or.inr (Or.inr (Or.inl hg)))), h.a4.off ho (fun g hg => hn g (Or.inr (Or.inr (Or.inr hg)))), h.d12, h.d13, h.d14, h.d23, h.d24, h.d34⟩
theorem lists_of {w : World} {m : MateD} {b1 b2 b3 b4 B : Nat} (h : SlM w m (.slice (some ⟨b1, 0, none⟩) m.ws.length m.ws.length) (.slice (some ⟨b2, 0, none⟩) m.rs.length m.rs.length) (.slice (some ⟨b3, 0, none⟩) m.qs.length m.qs.length) (.slice (some ⟨b4, 0, none⟩) m.gs.length m.gs.length) B) : Lists w m b1 b2 b3 b4 :=
  ⟨h.a1.at_.1, h.a2.at_.1, h.a3.at_.1, h.a4.at_.1, h.a1.at_.2, h.a2.at_.2, h.a3.at_.2, h.a4.at_.2⟩
/-- A box of the call's own. -/
structure Lx (y : World) (b : Nat) (O : Array Value) : Prop where
  c : ∀ k, y.cell? ⟨b, k, none⟩ = O[k]?
  l : b < y.heap.size
theorem Lx.keep {y z : World} {b : Nat} {O : Array Value} (h : Lx y b O) (hb : Below y.heap.size y z) : Lx z b O :=
  ⟨fun k => (hb.cell (p := ⟨b, k, none⟩) h.l).trans (h.c k), Nat.lt_of_lt_of_le h.l hb.size⟩
theorem Lx.off {P : Nat → Prop} {y z : World} {b : Nat} {O : Array Value} (h : Lx y b O) (ho : Off P y z) (hn : ¬ P b) : Lx z b O :=
  ⟨fun k => (ho.cell (p := ⟨b, k, none⟩) h.l hn).trans (h.c k), Nat.lt_of_lt_of_le h.l ho.size⟩
theorem Lx.new (y : World) (O : Array Value) (t : TypeId) : Lx (y.alloc (.cells O t)) y.heap.size O :=
  ⟨fun k => by simp [go_sem], by simp⟩
theorem bl_off {P : Nat → Prop} {w y z : World} (h : Below w.heap.size w y) (ho : Off P y z) (hP : ∀ j, P j → w.heap.size ≤ j) : Below w.heap.size w z := h.trans (ho.below hP h.size)
end Go.Proofs.YtdkjhonaafadjaaGreat
/- A list of mates is copied. -/
namespace Go.Proofs.YtdkjhonaafadjaaGreat.Mt
open Go.RowKit
set_option linter.unusedVariables false

theorem make_mates (n : Nat) (hn : n ≤ 1048576) : ∃ C : Array Value, C.size = n * 9 ∧ ∀ w : World, Sem.run Tryz.prog (Instr.makeSlice 28 (.int .i64 (n : Int)) (.int .i64 (n : Int))) w = .ok (.slice (some ⟨w.heap.size, 0, none⟩) n n) (w.alloc (.cells C 52)) := by
  have hq : (Tryz.prog.info? 52).map (fun i => (i.size, i.bytes, i.zero)) = some (9, 144, some (.agg #[.string ⟨#[]⟩, .bool false, .int .i64 0, .bool false, .int .i64 0, .slice none 0 0, .slice none 0 0, .slice none 0 0, .slice none 0 0])) := by kernel_rfl
  cases hi : Tryz.prog.info? 52 with
  | none => rw [hi] at hq; simp at hq
  | some i =>
    rw [hi] at hq
    simp only [Option.map_some, Option.some.injEq, Prod.mk.injEq] at hq
    obtain ⟨h1, h2, h3⟩ := hq
    refine ⟨madeCells (Value.cells (.agg #[.string ⟨#[]⟩, .bool false, .int .i64 0, .bool false, .int .i64 0, .slice none 0 0, .slice none 0 0, .slice none 0 0, .slice none 0 0])) (n * i.size), (size_madeCells _ _).trans (by rw [h1]), fun w => ?_⟩
    have := run_make (P := Tryz.prog) w 28 52 i _ Tryz.underlying28 hi h3 .i64 .i64 n n (by omega) (by omega) (by rw [h2]; omega) (by omega)
    simpa using this

theorem there_part {x : World} {g n k : Nat} (h : x.there g 0 (n * 9)) (hk : k < n) : x.there g (k * 9) 9 :=
  fun j hj => by have := h (k * 9 + j) (by omega); simpa using this
theorem there_new {w : World} {C : Array Value} {t : TypeId} {n : Nat} (hC : C.size = n * 9) : (w.alloc (.cells C t)).there w.heap.size 0 (n * 9) :=
  fun j hj => ⟨by simp [go_sem]; omega, by simp [go_sem]⟩
theorem rows_snoc {x : World} {g : Nat} {qs : List MRow} {q : MRow} (h : RowsAt x g 0 qs) (ht : x.there g (qs.length * 9) 9) : RowsAt (x.setCells g (qs.length * 9) q.cells) g 0 (qs ++ [q]) := by
  intro j p hj
  by_cases e : j < qs.length
  · have hj' : qs[j]? = some p := by rw [List.getElem?_append_left e] at hj; exact hj
    exact World.rangeAt_setCells_apart (h j p hj') g (qs.length * 9) q.cells (Or.inr (Or.inl (by show 0 + j * 9 + 9 ≤ qs.length * 9; omega)))
  · rw [List.getElem?_append_right (by omega)] at hj
    have hz : j - qs.length = 0 := by
      have := (List.getElem?_eq_some_iff.1 hj).1
      simp at this; omega
    rw [hz] at hj
    cases hj
    have e2 : j = qs.length := by omega
    subst e2
    have := World.rangeAt_setCells_same x g (qs.length * 9) q.cells ht
    simpa using this
theorem lists_ex {k : Nat} {w w' : World} {m : MateD} {g1 g2 g3 g4 : Nat} (h : Lists w m g1 g2 g3 g4) (he : Ex k w w') (h1 : g1 ≠ k) (h2 : g2 ≠ k) (h3 : g3 ≠ k) (h4 : g4 ≠ k) : Lists w' m g1 g2 g3 g4 :=
  ⟨W.RowsAt.exq h.r1 h.l1 he h1, Go.Proofs.YtdkjhonaafadjaaGreat.RowsAt.exq h.r2 h.l2 he h2, A.RowsAt.exq h.r3 h.l3 he h3, A.RowsAt.exq h.r4 h.l4 he h4, Nat.lt_of_lt_of_le h.l1 he.size, Nat.lt_of_lt_of_le h.l2 he.size, Nat.lt_of_lt_of_le h.l3 he.size, Nat.lt_of_lt_of_le h.l4 he.size⟩
theorem MRow.blk.ex {B k : Nat} {w w' : World} {r : MRow} {g1 g2 g3 g4 : Nat} (h : r.blk B w g1 g2 g3 g4) (he : Ex k w w') (hk : k ≤ B) : r.blk B w' g1 g2 g3 g4 :=
  { h with l := lists_ex h.l he (by have := h.b1; omega) (by have := h.b2; omega) (by have := h.b3; omega) (by have := h.b4; omega) }

set_option maxRecDepth 4000 in
set_option maxHeartbeats 2000000 in
theorem toMateS (b off cap : Nat) (rs : List MRow) (w : World) (hR : RowsAt w b off rs) (hb : b < w.heap.size) (hf : ∀ r ∈ rs, r.inn w) (hl : rs.length ≤ 1048576) (hL : Lns rs) :
    Calls Tryz.prog 38 #[.slice (some ⟨b, off, none⟩) rs.length cap] w fun e w' => (∃ qs : List MRow, Like qs rs ∧ e = .returned (.slice (some ⟨w.heap.size, 0, none⟩) qs.length qs.length) ∧ RowsAt w' w.heap.size 0 qs ∧ Blks w.heap.size w' qs ∧ w.heap.size < w'.heap.size) ∧ Below w.heap.size w w' := by
  obtain ⟨C, hC, hmk⟩ := make_mates rs.length hl
  have hinfo : (Tryz.prog.info? 52).map (·.size) = some 9 := by kernel_rfl
  have HF : Hid _ := hf
  have HL : Hid _ := hL
  clear hf hL
  go_enter Tryz.func38, Tryz.ntmps38
  go_wp2
  go_loopw [4] (fun i wx => ∃ (k : Nat), k ≤ rs.length ∧ i = .int .i64 k ∧ Hid (∃ qs : List MRow, Like qs (rs.take k) ∧ RowsAt wx w.heap.size 0 qs ∧ Blks w.heap.size wx qs) ∧ wx.there w.heap.size 0 (rs.length * 9) ∧ w.heap.size < wx.heap.size ∧ Below w.heap.size w wx) (fun i _ => rs.length - (intOf i).toNat)
  case atStart => exact ⟨0, Nat.zero_le _, rfl, ⟨[], rfl, (fun k r h => by simp at h), fun q hq => by cases hq⟩, there_new hC, by simp, bl_alloc (Below.refl _ _) _⟩
  case round =>
    obtain ⟨k, hk, rfl, Hq, hth, hgz, hB⟩ := hrel
    clear hmk
    by_cases hlt : k < rs.length
    · obtain ⟨r, hr⟩ : ∃ r, rs[k]? = some r := ⟨rs[k], List.getElem?_eq_getElem hlt⟩
      obtain ⟨c0, c1, c2, c3, c4, c5, c6, c7, c8⟩ := (hR.keep hb hB).at hr
      have Hr : Hid _ := hr
      have Hi : Hid (r.inn wr) := (HF.out r (List.mem_of_getElem? hr)).keep hB
      have Hz : Hid (Lens r.m) := HL.out r (List.mem_of_getElem? hr)
      clear hr
      go_wp2_with fail
      refine (toMate_sl r.m _ _ _ _ _ Hi.out.i1 Hi.out.i2 Hi.out.i3 Hi.out.i4 Hz.out.k1 Hz.out.k2 Hz.out.k3 Hz.out.k4).mono ?_
      rintro e w1 ⟨g1, g2, g3, g4, rfl, hM, hb1⟩
      clear c0 c1 c2 c3 c4 c5 c6 c7 c8
      have hth1 : w1.there w.heap.size 0 (rs.length * 9) := fun j hj => ⟨by rw [hb1.cell (p := ⟨w.heap.size, 0 + j, none⟩) hgz]; exact (hth j hj).1, by rw [hb1.frozen (p := ⟨w.heap.size, 0 + j, none⟩) hgz]; exact (hth j hj).2⟩
      have hB1 := bl_trans hB hb1
      have hgz1 : w.heap.size < w1.heap.size := Nat.lt_of_lt_of_le hgz hb1.size
      have Hrw : Hid (MRow.blk w.heap.size w1 ⟨r.m, some ⟨g1, 0, none⟩, r.m.ws.length, some ⟨g2, 0, none⟩, r.m.rs.length, some ⟨g3, 0, none⟩, r.m.qs.length, some ⟨g4, 0, none⟩, r.m.gs.length⟩ g1 g2 g3 g4) := ⟨rfl, rfl, Nat.lt_of_lt_of_le hgz (hM.ge _ (Or.inl rfl)), rfl, rfl, Nat.lt_of_lt_of_le hgz (hM.ge _ (Or.inr (Or.inl rfl))), rfl, rfl, Nat.lt_of_lt_of_le hgz (hM.ge _ (Or.inr (Or.inr (Or.inl rfl)))), rfl, rfl, Nat.lt_of_lt_of_le hgz (hM.ge _ (Or.inr (Or.inr (Or.inr rfl)))), lists_of hM⟩
      have Hq1 : Hid (∃ qs : List MRow, Like qs (rs.take k) ∧ RowsAt w1 w.heap.size 0 qs ∧ Blks w.heap.size w1 qs) := by
        obtain ⟨qs, q1, q2, q3⟩ := Hq.out
        exact ⟨qs, q1, q2.keep hgz hb1, q3.keep hb1⟩
      clear hth hB hb1 hM Hq
      go_wp2_with (refine wpList_store_mid (by rfl) 52 _ _ (by rfl) w.heap.size (k * 9) #[.string r.m.nm, .bool r.m.up, .int .i64 r.m.ck, .bool r.m.kn, .int .i64 r.m.se, .slice (some ⟨g1, 0, none⟩) r.m.ws.length r.m.ws.length, .slice (some ⟨g2, 0, none⟩) r.m.rs.length r.m.rs.length, .slice (some ⟨g3, 0, none⟩) r.m.qs.length r.m.qs.length, .slice (some ⟨g4, 0, none⟩) r.m.gs.length r.m.gs.length] (by rfl) (by rfl) (by exact there_part hth1 hlt) hinfo (by simp [Value.oneCell']) ?_)
      have hex : Ex w.heap.size w1 (w1.setCells w.heap.size (k * 9) [.string r.m.nm, .bool r.m.up, .int .i64 r.m.ck, .bool r.m.kn, .int .i64 r.m.se, .slice (some ⟨g1, 0, none⟩) r.m.ws.length r.m.ws.length, .slice (some ⟨g2, 0, none⟩) r.m.rs.length r.m.rs.length, .slice (some ⟨g3, 0, none⟩) r.m.qs.length r.m.qs.length, .slice (some ⟨g4, 0, none⟩) r.m.gs.length r.m.gs.length]) := (Ex.refl _ _).cells _ _
      refine ⟨⟨k + 1, by omega, by go_num, ?_, World.there_setCells hth1 _ _ _, Nat.lt_of_lt_of_le hgz1 hex.size, Ex.mono hB1 hex (Nat.le_refl _)⟩, by simp [intOf]; omega⟩
      obtain ⟨qs, q1, q2, q3⟩ := Hq1.out
      have hz : qs.length = k := by have := q1.len; rw [List.length_take] at this; omega
      refine ⟨qs ++ [⟨r.m, some ⟨g1, 0, none⟩, r.m.ws.length, some ⟨g2, 0, none⟩, r.m.rs.length, some ⟨g3, 0, none⟩, r.m.qs.length, some ⟨g4, 0, none⟩, r.m.gs.length⟩], ?_, ?_, ?_⟩
      · have hr := Hr.out
        have he : rs[k] = r := by rw [List.getElem?_eq_getElem hlt] at hr; exact Option.some.inj hr
        unfold Like at q1 ⊢
        rw [List.take_succ_eq_append_getElem hlt, List.map_append, List.map_append, q1, he]
        rfl
      · have := rows_snoc (q := ⟨r.m, some ⟨g1, 0, none⟩, r.m.ws.length, some ⟨g2, 0, none⟩, r.m.rs.length, some ⟨g3, 0, none⟩, r.m.qs.length, some ⟨g4, 0, none⟩, r.m.gs.length⟩) q2 (by rw [hz]; exact there_part hth1 hlt)
        rw [hz] at this
        exact this
      · intro q hq
        rcases List.mem_append.1 hq with h | h
        · obtain ⟨x1, x2, x3, x4, hx⟩ := q3 q h
          exact ⟨x1, x2, x3, x4, hx.ex hex (Nat.le_refl _)⟩
        · obtain rfl := List.mem_singleton.1 h
          exact ⟨g1, g2, g3, g4, Hrw.out.ex hex (Nat.le_refl _)⟩
    · go_wp2
      go_ret
      have e : rs.take k = rs := List.take_of_length_le (by omega)
      obtain ⟨qs, q1, q2, q3⟩ := Hq.out
      rw [e] at q1
      exact ⟨⟨qs, q1, by rw [q1.len]; rfl, q2, q3, hgz⟩, hB⟩
theorem to_nil (a : Option Addr) (cap : Nat) (w : World) :
    Calls Tryz.prog 38 #[.slice a 0 cap] w fun e w' => e = .returned (.slice (some ⟨w.heap.size, 0, none⟩) 0 0) ∧ w.heap.size < w'.heap.size ∧ Below w.heap.size w w' := by
  obtain ⟨C, hC, hmk0⟩ := make_mates 0 (by omega)
  have hmk : ∀ w : World, Sem.run Tryz.prog (Instr.makeSlice 28 (.int .i64 0) (.int .i64 0)) w = .ok (.slice (some ⟨w.heap.size, 0, none⟩) 0 0) (w.alloc (.cells C 52)) := fun w => hmk0 w
  clear hmk0 hC
  go_enter Tryz.func38, Tryz.ntmps38
  go_wp2
  refine wp_loop_rounds 1 ?_
  rw [rounds_succ]
  go_wp2
  go_ret
  exact ⟨rfl, by simp, bl_alloc (Below.refl _ _) _⟩
theorem to_in {w : World} {v : Value} {l : List MRow} (h : In w v l) (hl : l.length ≤ 1048576) (hL : Lns l) :
    Calls Tryz.prog 38 #[v] w fun e w' => (∃ qs : List MRow, Like qs l ∧ e = .returned (.slice (some ⟨w.heap.size, 0, none⟩) qs.length qs.length) ∧ RowsAt w' w.heap.size 0 qs ∧ Blks w.heap.size w' qs ∧ w.heap.size < w'.heap.size) ∧ Below w.heap.size w w' := by
  rcases h with ⟨rfl, a, cap, rfl⟩ | ⟨b, off, cap, rfl, k2, k3, k4, k5⟩
  · refine (to_nil a cap w).mono ?_
    rintro e w' ⟨rfl, h1, h2⟩
    exact ⟨⟨[], rfl, rfl, (fun k r h => by simp at h), (fun q hq => by cases hq), h1⟩, h2⟩
  · exact toMateS b off cap l w k4 k3 k5 hl hL
end Go.Proofs.YtdkjhonaafadjaaGreat.Mt
/- Two lists of mates that say the same are told to be equal. -/
namespace Go.Proofs.YtdkjhonaafadjaaGreat.Mt
open Go.RowKit
set_option linter.unusedVariables false

theorem keepM {x w' : World} {b1 o1 b2 o2 k : Nat} {ps qs : List MRow} {p q : MRow} (hp : ps[k]? = some p) (hq : qs[k]? = some q) (h1 : RowsAt x b1 o1 ps) (h2 : RowsAt x b2 o2 qs) (l1 : b1 < x.heap.size) (l2 : b2 < x.heap.size) (hb : Below x.heap.size x w') :
    Below x.heap.size x w' ∧ (w'.cell? ⟨b1, o1 + k * 9, none⟩ = some (.string p.m.nm) ∧ w'.cell? ⟨b1, o1 + k * 9 + 1, none⟩ = some (.bool p.m.up) ∧ w'.cell? ⟨b1, o1 + k * 9 + 2, none⟩ = some (.int .i64 p.m.ck) ∧ w'.cell? ⟨b1, o1 + k * 9 + 3, none⟩ = some (.bool p.m.kn) ∧ w'.cell? ⟨b1, o1 + k * 9 + 4, none⟩ = some (.int .i64 p.m.se) ∧ w'.cell? ⟨b1, o1 + k * 9 + 5, none⟩ = some (.slice p.a1 p.m.ws.length p.c1) ∧ w'.cell? ⟨b1, o1 + k * 9 + 6, none⟩ = some (.slice p.a2 p.m.rs.length p.c2) ∧ w'.cell? ⟨b1, o1 + k * 9 + 7, none⟩ = some (.slice p.a3 p.m.qs.length p.c3) ∧ w'.cell? ⟨b1, o1 + k * 9 + 8, none⟩ = some (.slice p.a4 p.m.gs.length p.c4)) ∧ (w'.cell? ⟨b2, o2 + k * 9, none⟩ = some (.string q.m.nm) ∧ w'.cell? ⟨b2, o2 + k * 9 + 1, none⟩ = some (.bool q.m.up) ∧ w'.cell? ⟨b2, o2 + k * 9 + 2, none⟩ = some (.int .i64 q.m.ck) ∧ w'.cell? ⟨b2, o2 + k * 9 + 3, none⟩ = some (.bool q.m.kn) ∧ w'.cell? ⟨b2, o2 + k * 9 + 4, none⟩ = some (.int .i64 q.m.se) ∧ w'.cell? ⟨b2, o2 + k * 9 + 5, none⟩ = some (.slice q.a1 q.m.ws.length q.c1) ∧ w'.cell? ⟨b2, o2 + k * 9 + 6, none⟩ = some (.slice q.a2 q.m.rs.length q.c2) ∧ w'.cell? ⟨b2, o2 + k * 9 + 7, none⟩ = some (.slice q.a3 q.m.qs.length q.c3) ∧ w'.cell? ⟨b2, o2 + k * 9 + 8, none⟩ = some (.slice q.a4 q.m.gs.length q.c4)) :=
  ⟨hb, (h1.keep l1 hb).at hp, (h2.keep l2 hb).at hq⟩

set_option maxRecDepth 4000 in
set_option maxHeartbeats 4000000 in
theorem eqMateS (b1 o1 n1 b2 o2 n2 B1 B2 : Nat) (ps qs : List MRow) (w : World) (h1 : RowsAt w b1 o1 ps) (h2 : RowsAt w b2 o2 qs) (l1 : b1 < w.heap.size) (l2 : b2 < w.heap.size) (k1 : Blks B1 w ps) (k2 : Blks B2 w qs) (hs : Like ps qs) (hl : ps.length ≤ 1048576) (hL : ∀ p ∈ ps, p.m.fits) :
    Calls Tryz.prog 25 #[.slice (some ⟨b1, o1, none⟩) ps.length n1, .slice (some ⟨b2, o2, none⟩) qs.length n2] w fun e w' => e = .returned (.bool true) ∧ Below w.heap.size w w' := by
  have K1 : Hid _ := k1
  have K2 : Hid _ := k2
  have HS : Hid (Like ps qs) := hs
  have HL : Hid _ := hL
  rw [← Like.len hs]
  clear k1 k2 hs hL
  go_enter Tryz.func25, Tryz.ntmps25
  go_wp2
  go_loopw [5] (fun i wx => ∃ (k : Nat), k ≤ ps.length ∧ i = .int .i64 k ∧ Below w.heap.size w wx) (fun i _ => ps.length - (intOf i).toNat)
  case atStart => exact ⟨0, Nat.zero_le _, rfl, Below.refl _ _⟩
  case round =>
    obtain ⟨k, hk, rfl, hB⟩ := hrel
    by_cases hlt : k < ps.length
    · obtain ⟨p, hp⟩ : ∃ p, ps[k]? = some p := ⟨ps[k], List.getElem?_eq_getElem hlt⟩
      obtain ⟨q, hq, eb⟩ := HS.out.get hp
      have Hp : Hid _ := hp
      have Hq : Hid _ := hq
      have g1 := h1.keep l1 hB
      have g2 := h2.keep l2 hB
      have z1 : b1 < wr.heap.size := Nat.lt_of_lt_of_le l1 hB.size
      have z2 : b2 < wr.heap.size := Nat.lt_of_lt_of_le l2 hB.size
      obtain ⟨f1, f2, f3, f4, hbp⟩ := K1.out p (List.mem_of_getElem? hp)
      obtain ⟨e1, e2, e3, e4, hbq⟩ := K2.out q (List.mem_of_getElem? hq)
      have R1 : Hid (Lists wr p.m f1 f2 f3 f4) := (hbp.keep hB).l
      have R2 : Hid (Lists wr p.m e1 e2 e3 e4) := by rw [eb]; exact (hbq.keep hB).l
      have Hf : Hid p.m.fits := HL.out p (List.mem_of_getElem? hp)
      have x1 := hbp.e1; have x2 := hbp.e2; have x3 := hbp.e3; have x4 := hbp.e4
      have t1 := hbp.f1; have t2 := hbp.f2; have t3 := hbp.f3; have t4 := hbp.f4
      have y1 := hbq.e1; have y2 := hbq.e2; have y3 := hbq.e3; have y4 := hbq.e4
      have s1 := hbq.f1; have s2 := hbq.f2; have s3 := hbq.f3; have s4 := hbq.f4
      clear hp hq hbp hbq
      obtain ⟨m, pa1, pc1, pa2, pc2, pa3, pc3, pa4, pc4⟩ := p
      obtain ⟨m', qa1, qc1, qa2, qc2, qa3, qc3, qa4, qc4⟩ := q
      simp only at eb x1 x2 x3 x4 t1 t2 t3 t4 y1 y2 y3 y4 s1 s2 s3 s4
      subst eb x1 x2 x3 x4 t1 t2 t3 t4 y1 y2 y3 y4 s1 s2 s3 s4
      have i0 : (0 : Int) ≤ (k : Int) := by omega
      have i1 : (k : Int) < (ps.length : Int) := by omega
      go_wp2_with fail
      go_region_held3 (fun w' => Below wr.heap.size wr w' ∧ (w'.cell? ⟨b1, o1 + k * 9, none⟩ = some (.string m.nm) ∧ w'.cell? ⟨b1, o1 + k * 9 + 1, none⟩ = some (.bool m.up) ∧ w'.cell? ⟨b1, o1 + k * 9 + 2, none⟩ = some (.int .i64 m.ck) ∧ w'.cell? ⟨b1, o1 + k * 9 + 3, none⟩ = some (.bool m.kn) ∧ w'.cell? ⟨b1, o1 + k * 9 + 4, none⟩ = some (.int .i64 m.se) ∧ w'.cell? ⟨b1, o1 + k * 9 + 5, none⟩ = some (.slice (some ⟨f1, 0, none⟩) m.ws.length m.ws.length) ∧ w'.cell? ⟨b1, o1 + k * 9 + 6, none⟩ = some (.slice (some ⟨f2, 0, none⟩) m.rs.length m.rs.length) ∧ w'.cell? ⟨b1, o1 + k * 9 + 7, none⟩ = some (.slice (some ⟨f3, 0, none⟩) m.qs.length m.qs.length) ∧ w'.cell? ⟨b1, o1 + k * 9 + 8, none⟩ = some (.slice (some ⟨f4, 0, none⟩) m.gs.length m.gs.length)) ∧ (w'.cell? ⟨b2, o2 + k * 9, none⟩ = some (.string m.nm) ∧ w'.cell? ⟨b2, o2 + k * 9 + 1, none⟩ = some (.bool m.up) ∧ w'.cell? ⟨b2, o2 + k * 9 + 2, none⟩ = some (.int .i64 m.ck) ∧ w'.cell? ⟨b2, o2 + k * 9 + 3, none⟩ = some (.bool m.kn) ∧ w'.cell? ⟨b2, o2 + k * 9 + 4, none⟩ = some (.int .i64 m.se) ∧ w'.cell? ⟨b2, o2 + k * 9 + 5, none⟩ = some (.slice (some ⟨e1, 0, none⟩) m.ws.length m.ws.length) ∧ w'.cell? ⟨b2, o2 + k * 9 + 6, none⟩ = some (.slice (some ⟨e2, 0, none⟩) m.rs.length m.rs.length) ∧ w'.cell? ⟨b2, o2 + k * 9 + 7, none⟩ = some (.slice (some ⟨e3, 0, none⟩) m.qs.length m.qs.length) ∧ w'.cell? ⟨b2, o2 + k * 9 + 8, none⟩ = some (.slice (some ⟨e4, 0, none⟩) m.gs.length m.gs.length)))
        (first | exact keepM Hp.out Hq.out g1 g2 z1 z2 (bl_drew (Below.refl _ _)) | exact keepM Hp.out Hq.out g1 g2 z1 z2 (bl_trans (bl_drew (Below.refl _ _)) hb))
        (first | (go_at_call 56; refine (eqMate_same m f1 f2 f3 f4 e1 e2 e3 e4 _ (R1.out.keep (bl_drew (Below.refl _ _))) (R2.out.keep (bl_drew (Below.refl _ _))) Hf.out).mono ?_; rintro e w' ⟨rfl, hb⟩))
      go_wp2
      exact ⟨⟨k + 1, by omega, by go_num, bl_trans hB (bl_trans (bl_drew (Below.refl _ _)) hb)⟩, by simp [intOf]; omega⟩
    · go_wp2
      go_ret
      exact ⟨rfl, hB⟩
end Go.Proofs.YtdkjhonaafadjaaGreat.Mt
