import Derived.Test.YtiogkdafmgdbgaaGreatJ06
import Derived.Test.YtiogkdafmgdbgaaGreatJ07
import Derived.Test.YtiogkdafmgdbgaaGreatJ02
import Derived.Deep.RegionHeld3
import Derived.Laws.Pointers
import Derived.StillTactics
/- A mate in memory of its own: the program's and the specification's. -/
namespace Go.Proofs.YtiogkdafmgdbgaaGreat
open Go.RowKit
set_option linter.unusedVariables false

theorem build0w (w : World) : Sem.run Tryz.prog (Instr.buildSlice 31 0 #[]) w = .ok (.slice (some ⟨w.heap.size, 0, none⟩) 0 0) (w.alloc (.cells #[] 57)) := by kernel_rfl
theorem build0r (w : World) : Sem.run Tryz.prog (Instr.buildSlice 32 0 #[]) w = .ok (.slice (some ⟨w.heap.size, 0, none⟩) 0 0) (w.alloc (.cells #[] 59)) := by kernel_rfl
theorem build0a (w : World) : Sem.run Tryz.prog (Instr.buildSlice 33 0 #[]) w = .ok (.slice (some ⟨w.heap.size, 0, none⟩) 0 0) (w.alloc (.cells #[] 55)) := by kernel_rfl
/-- While a mate's lists are copied: its own box, and room for the answer. -/
structure Sc (w : World) (O : Array Value) (x : World) : Prop where
  b : ∀ k, x.cell? ⟨w.heap.size, k, none⟩ = O[k]?
  c : ∀ k, x.frozen? ⟨w.heap.size, k, none⟩ = false
  d : x.there (w.heap.size + 1) 0 9
  e : Below w.heap.size w x
  f : w.heap.size + 1 < x.heap.size
theorem Sc.below {w x y : World} {O : Array Value} (h : Sc w O x) (hb : Below x.heap.size x y) : Sc w O y :=
  have hf := h.f
  ⟨fun k => (hb.cell (p := ⟨w.heap.size, k, none⟩) (by show w.heap.size < _; omega)).trans (h.b k), fun k => (hb.frozen (p := ⟨w.heap.size, k, none⟩) (by show w.heap.size < _; omega)).trans (h.c k), there_keep2 h.d (by omega) hb, bl_trans h.e hb, Nat.lt_of_lt_of_le hf hb.size⟩
theorem Sc.set {w x : World} {O : Array Value} (h : Sc w O x) (j : Nat) (hj : j < O.size) (u : Value) : Sc w (O.setIfInBounds j u) (x.setCell ⟨w.heap.size, j, none⟩ u) := by
  have he : Ex w.heap.size x (x.setCell ⟨w.heap.size, j, none⟩ u) := (Ex.refl _ _).set j u
  have hf := h.f
  refine ⟨fun k => ?_, fun k => ?_, there_ex h.d (by omega) he (by omega), bl_set (p := ⟨w.heap.size, j, none⟩) h.e (Nat.le_refl _) u, Nat.lt_of_lt_of_le hf he.size⟩
  · by_cases e : k = j
    · subst e
      have h1 := h.b k
      rw [Array.getElem?_eq_getElem hj] at h1
      rw [Array.getElem?_setIfInBounds_self_of_lt hj]
      exact World.cell?_setCell_same _ _ _ h1
    · rw [Array.getElem?_setIfInBounds_ne (fun h' => e h'.symm), ← h.b k]
      exact World.cell?_setCell_other _ _ _ _ (fun h' => e (by have := congrArg Addr.off h'; exact this.symm))
  · rw [World.frozen?_setCell]; exact h.c k
theorem sc_new (m : MateD) (b1 b2 b3 b4 : Nat) (w : World) : Sc w #[.string m.nm, .bool m.up, .int .i64 m.ck, .bool m.kn, .int .i64 m.se, .slice (some ⟨b1, 0, none⟩) m.ws.length m.ws.length, .slice (some ⟨b2, 0, none⟩) m.rs.length m.rs.length, .slice (some ⟨b3, 0, none⟩) m.qs.length m.qs.length, .slice (some ⟨b4, 0, none⟩) m.gs.length m.gs.length] ((w.alloc (.cells #[.string m.nm, .bool m.up, .int .i64 m.ck, .bool m.kn, .int .i64 m.se, .slice (some ⟨b1, 0, none⟩) m.ws.length m.ws.length, .slice (some ⟨b2, 0, none⟩) m.rs.length m.rs.length, .slice (some ⟨b3, 0, none⟩) m.qs.length m.qs.length, .slice (some ⟨b4, 0, none⟩) m.gs.length m.gs.length] 35)).alloc (.cells #[.string { data := #[] }, .bool false, .int .i64 0, .bool false, .int .i64 0, .slice none 0 0, .slice none 0 0, .slice none 0 0, .slice none 0 0] 35)) :=
  ⟨fun k => by simp [go_sem], fun k => by simp [go_sem], fun j hj => ⟨by simp [go_sem] <;> omega, by simp [go_sem]⟩, bl_alloc (bl_alloc (Below.refl _ _) _) _, by simp⟩

set_option maxRecDepth 4000 in
set_option maxHeartbeats 4000000 in
theorem freshMate_any (m : MateD) (b1 b2 b3 b4 : Nat) (w : World) (hL : Lists w m b1 b2 b3 b4) (hf : m.fits) :
    Calls Tryz.prog 28 #[.agg #[.string m.nm, .bool m.up, .int .i64 m.ck, .bool m.kn, .int .i64 m.se, .slice (some ⟨b1, 0, none⟩) m.ws.length m.ws.length, .slice (some ⟨b2, 0, none⟩) m.rs.length m.rs.length, .slice (some ⟨b3, 0, none⟩) m.qs.length m.qs.length, .slice (some ⟨b4, 0, none⟩) m.gs.length m.gs.length]] w fun e w' => (∃ s1 s2 s3 s4, e = .returned (.agg #[.string m.nm, .bool m.up, .int .i64 m.ck, .bool m.kn, .int .i64 m.se, s1, s2, s3, s4]) ∧ SlM w' m s1 s2 s3 s4 w.heap.size) ∧ Below w.heap.size w w' := by
  have S0 : Hid (Sc w #[.string m.nm, .bool m.up, .int .i64 m.ck, .bool m.kn, .int .i64 m.se, .slice (some ⟨b1, 0, none⟩) m.ws.length m.ws.length, .slice (some ⟨b2, 0, none⟩) m.rs.length m.rs.length, .slice (some ⟨b3, 0, none⟩) m.qs.length m.qs.length, .slice (some ⟨b4, 0, none⟩) m.gs.length m.gs.length] ((w.alloc (.cells #[.string m.nm, .bool m.up, .int .i64 m.ck, .bool m.kn, .int .i64 m.se, .slice (some ⟨b1, 0, none⟩) m.ws.length m.ws.length, .slice (some ⟨b2, 0, none⟩) m.rs.length m.rs.length, .slice (some ⟨b3, 0, none⟩) m.qs.length m.qs.length, .slice (some ⟨b4, 0, none⟩) m.gs.length m.gs.length] 35)).alloc (.cells #[.string { data := #[] }, .bool false, .int .i64 0, .bool false, .int .i64 0, .slice none 0 0, .slice none 0 0, .slice none 0 0, .slice none 0 0] 35))) := sc_new m b1 b2 b3 b4 w
  have hinfo : (Tryz.prog.info? 35).map (·.size) = some 9 := by kernel_rfl
  go_enter Tryz.func28, Tryz.ntmps28
  go_wp2_with fail
  refine (W.fresh b1 _ m.ws _ (hL.keep S0.out.e).r1 hf.k1).mono ?_
  rintro e w1 ⟨⟨s1, rfl, r1⟩, c1⟩
  obtain ⟨a1, p1, hs1⟩ := W.Sl.shape r1
  subst hs1
  have Q1 : Hid (W.Sl w1 (.slice a1 m.ws.length p1) m.ws ((w.alloc (.cells #[.string m.nm, .bool m.up, .int .i64 m.ck, .bool m.kn, .int .i64 m.se, .slice (some ⟨b1, 0, none⟩) m.ws.length m.ws.length, .slice (some ⟨b2, 0, none⟩) m.rs.length m.rs.length, .slice (some ⟨b3, 0, none⟩) m.qs.length m.qs.length, .slice (some ⟨b4, 0, none⟩) m.gs.length m.gs.length] 35)).alloc (.cells #[.string { data := #[] }, .bool false, .int .i64 0, .bool false, .int .i64 0, .slice none 0 0, .slice none 0 0, .slice none 0 0, .slice none 0 0] 35)).heap.size) := r1
  have Y1 : Hid (Below ((w.alloc (.cells #[.string m.nm, .bool m.up, .int .i64 m.ck, .bool m.kn, .int .i64 m.se, .slice (some ⟨b1, 0, none⟩) m.ws.length m.ws.length, .slice (some ⟨b2, 0, none⟩) m.rs.length m.rs.length, .slice (some ⟨b3, 0, none⟩) m.qs.length m.qs.length, .slice (some ⟨b4, 0, none⟩) m.gs.length m.gs.length] 35)).alloc (.cells #[.string { data := #[] }, .bool false, .int .i64 0, .bool false, .int .i64 0, .slice none 0 0, .slice none 0 0, .slice none 0 0, .slice none 0 0] 35)).heap.size ((w.alloc (.cells #[.string m.nm, .bool m.up, .int .i64 m.ck, .bool m.kn, .int .i64 m.se, .slice (some ⟨b1, 0, none⟩) m.ws.length m.ws.length, .slice (some ⟨b2, 0, none⟩) m.rs.length m.rs.length, .slice (some ⟨b3, 0, none⟩) m.qs.length m.qs.length, .slice (some ⟨b4, 0, none⟩) m.gs.length m.gs.length] 35)).alloc (.cells #[.string { data := #[] }, .bool false, .int .i64 0, .bool false, .int .i64 0, .slice none 0 0, .slice none 0 0, .slice none 0 0, .slice none 0 0] 35)) w1) := c1
  have T1 : Hid (Sc w #[.string m.nm, .bool m.up, .int .i64 m.ck, .bool m.kn, .int .i64 m.se, .slice (some ⟨b1, 0, none⟩) m.ws.length m.ws.length, .slice (some ⟨b2, 0, none⟩) m.rs.length m.rs.length, .slice (some ⟨b3, 0, none⟩) m.qs.length m.qs.length, .slice (some ⟨b4, 0, none⟩) m.gs.length m.gs.length] w1) := S0.out.below c1
  have ka1 := T1.out.b
  have kf1 := T1.out.c
  have kz1 := T1.out.f
  clear r1 c1
  have S1 : Hid (Sc w #[.string m.nm, .bool m.up, .int .i64 m.ck, .bool m.kn, .int .i64 m.se, (.slice a1 m.ws.length p1), .slice (some ⟨b2, 0, none⟩) m.rs.length m.rs.length, .slice (some ⟨b3, 0, none⟩) m.qs.length m.qs.length, .slice (some ⟨b4, 0, none⟩) m.gs.length m.gs.length] (w1.setCell ⟨w.heap.size, 5, none⟩ (.slice a1 m.ws.length p1))) := T1.out.set 5 (by simp) _
  have X1 : Hid (Ex w.heap.size w1 (w1.setCell ⟨w.heap.size, 5, none⟩ (.slice a1 m.ws.length p1))) := Ex.set (Ex.refl _ _) 5 _
  go_wp2_with fail
  clear ka1 kf1 kz1
  refine (fresh b2 _ m.rs _ (hL.keep S1.out.e).r2 hf.k2).mono ?_
  rintro e w2 ⟨⟨s2, rfl, r2⟩, c2⟩
  obtain ⟨a2, p2, hs2⟩ := Sl.shape r2
  subst hs2
  have Q2 : Hid (Sl w2 (.slice a2 m.rs.length p2) m.rs (w1.setCell ⟨w.heap.size, 5, none⟩ (.slice a1 m.ws.length p1)).heap.size) := r2
  have Y2 : Hid (Below (w1.setCell ⟨w.heap.size, 5, none⟩ (.slice a1 m.ws.length p1)).heap.size (w1.setCell ⟨w.heap.size, 5, none⟩ (.slice a1 m.ws.length p1)) w2) := c2
  have T2 : Hid (Sc w #[.string m.nm, .bool m.up, .int .i64 m.ck, .bool m.kn, .int .i64 m.se, (.slice a1 m.ws.length p1), .slice (some ⟨b2, 0, none⟩) m.rs.length m.rs.length, .slice (some ⟨b3, 0, none⟩) m.qs.length m.qs.length, .slice (some ⟨b4, 0, none⟩) m.gs.length m.gs.length] w2) := S1.out.below c2
  have ka2 := T2.out.b
  have kf2 := T2.out.c
  have kz2 := T2.out.f
  clear r2 c2
  have S2 : Hid (Sc w #[.string m.nm, .bool m.up, .int .i64 m.ck, .bool m.kn, .int .i64 m.se, (.slice a1 m.ws.length p1), (.slice a2 m.rs.length p2), .slice (some ⟨b3, 0, none⟩) m.qs.length m.qs.length, .slice (some ⟨b4, 0, none⟩) m.gs.length m.gs.length] (w2.setCell ⟨w.heap.size, 6, none⟩ (.slice a2 m.rs.length p2))) := T2.out.set 6 (by simp) _
  have X2 : Hid (Ex w.heap.size w2 (w2.setCell ⟨w.heap.size, 6, none⟩ (.slice a2 m.rs.length p2))) := Ex.set (Ex.refl _ _) 6 _
  go_wp2_with fail
  clear ka2 kf2 kz2
  refine (A.fresh b3 _ m.qs _ (hL.keep S2.out.e).r3 hf.k3).mono ?_
  rintro e w3 ⟨⟨s3, rfl, r3⟩, c3⟩
  obtain ⟨a3, p3, hs3⟩ := A.Sl.shape r3
  subst hs3
  have Q3 : Hid (A.Sl w3 (.slice a3 m.qs.length p3) m.qs (w2.setCell ⟨w.heap.size, 6, none⟩ (.slice a2 m.rs.length p2)).heap.size) := r3
  have Y3 : Hid (Below (w2.setCell ⟨w.heap.size, 6, none⟩ (.slice a2 m.rs.length p2)).heap.size (w2.setCell ⟨w.heap.size, 6, none⟩ (.slice a2 m.rs.length p2)) w3) := c3
  have T3 : Hid (Sc w #[.string m.nm, .bool m.up, .int .i64 m.ck, .bool m.kn, .int .i64 m.se, (.slice a1 m.ws.length p1), (.slice a2 m.rs.length p2), .slice (some ⟨b3, 0, none⟩) m.qs.length m.qs.length, .slice (some ⟨b4, 0, none⟩) m.gs.length m.gs.length] w3) := S2.out.below c3
  have ka3 := T3.out.b
  have kf3 := T3.out.c
  have kz3 := T3.out.f
  clear r3 c3
  have S3 : Hid (Sc w #[.string m.nm, .bool m.up, .int .i64 m.ck, .bool m.kn, .int .i64 m.se, (.slice a1 m.ws.length p1), (.slice a2 m.rs.length p2), (.slice a3 m.qs.length p3), .slice (some ⟨b4, 0, none⟩) m.gs.length m.gs.length] (w3.setCell ⟨w.heap.size, 7, none⟩ (.slice a3 m.qs.length p3))) := T3.out.set 7 (by simp) _
  have X3 : Hid (Ex w.heap.size w3 (w3.setCell ⟨w.heap.size, 7, none⟩ (.slice a3 m.qs.length p3))) := Ex.set (Ex.refl _ _) 7 _
  go_wp2_with fail
  clear ka3 kf3 kz3
  refine (A.fresh b4 _ m.gs _ (hL.keep S3.out.e).r4 hf.k4).mono ?_
  rintro e w4 ⟨⟨s4, rfl, r4⟩, c4⟩
  obtain ⟨a4, p4, hs4⟩ := A.Sl.shape r4
  subst hs4
  have Q4 : Hid (A.Sl w4 (.slice a4 m.gs.length p4) m.gs (w3.setCell ⟨w.heap.size, 7, none⟩ (.slice a3 m.qs.length p3)).heap.size) := r4
  have Y4 : Hid (Below (w3.setCell ⟨w.heap.size, 7, none⟩ (.slice a3 m.qs.length p3)).heap.size (w3.setCell ⟨w.heap.size, 7, none⟩ (.slice a3 m.qs.length p3)) w4) := c4
  have T4 : Hid (Sc w #[.string m.nm, .bool m.up, .int .i64 m.ck, .bool m.kn, .int .i64 m.se, (.slice a1 m.ws.length p1), (.slice a2 m.rs.length p2), (.slice a3 m.qs.length p3), .slice (some ⟨b4, 0, none⟩) m.gs.length m.gs.length] w4) := S3.out.below c4
  have ka4 := T4.out.b
  have kf4 := T4.out.c
  have kz4 := T4.out.f
  clear r4 c4
  have S4 : Hid (Sc w #[.string m.nm, .bool m.up, .int .i64 m.ck, .bool m.kn, .int .i64 m.se, (.slice a1 m.ws.length p1), (.slice a2 m.rs.length p2), (.slice a3 m.qs.length p3), (.slice a4 m.gs.length p4)] (w4.setCell ⟨w.heap.size, 8, none⟩ (.slice a4 m.gs.length p4))) := T4.out.set 8 (by simp) _
  have X4 : Hid (Ex w.heap.size w4 (w4.setCell ⟨w.heap.size, 8, none⟩ (.slice a4 m.gs.length p4))) := Ex.set (Ex.refl _ _) 8 _
  have hx1 : Ex (w.heap.size + 1) (w4.setCell ⟨w.heap.size, 8, none⟩ (.slice a4 m.gs.length p4)) (World.setCells (w4.setCell ⟨w.heap.size, 8, none⟩ (.slice a4 m.gs.length p4)) (w.heap.size + 1) 0 [.string m.nm, .bool m.up, .int .i64 m.ck, .bool m.kn, .int .i64 m.se, (.slice a1 m.ws.length p1), (.slice a2 m.rs.length p2), (.slice a3 m.qs.length p3), (.slice a4 m.gs.length p4)]) := (Ex.refl _ _).cells _ _
  have P1 : Hid (W.Sl (World.setCells (w4.setCell ⟨w.heap.size, 8, none⟩ (.slice a4 m.gs.length p4)) (w.heap.size + 1) 0 [.string m.nm, .bool m.up, .int .i64 m.ck, .bool m.kn, .int .i64 m.se, (.slice a1 m.ws.length p1), (.slice a2 m.rs.length p2), (.slice a3 m.qs.length p3), (.slice a4 m.gs.length p4)]) (.slice a1 m.ws.length p1) m.ws w.heap.size) := W.Sl.low (((((((((Q1.out).grown (W.ex_grown X1.out) (ob_ne (N := w.heap.size + 1) (fun g hg => by have h1 := (Q1.out.lt g hg).1; have h2 := S0.out.f; omega) (by omega))).keep Y2.out).grown (W.ex_grown X2.out) (ob_ne (N := w.heap.size + 1) (fun g hg => by have h1 := (Q1.out.lt g hg).1; have h2 := S0.out.f; omega) (by omega))).keep Y3.out).grown (W.ex_grown X3.out) (ob_ne (N := w.heap.size + 1) (fun g hg => by have h1 := (Q1.out.lt g hg).1; have h2 := S0.out.f; omega) (by omega))).keep Y4.out).grown (W.ex_grown X4.out) (ob_ne (N := w.heap.size + 1) (fun g hg => by have h1 := (Q1.out.lt g hg).1; have h2 := S0.out.f; omega) (by omega))).grown (W.ex_grown hx1) (ob_ne (N := w.heap.size + 1) (fun g hg => by have h1 := (Q1.out.lt g hg).1; have h2 := S0.out.f; omega) (by omega))) (by have := S0.out.f; omega)
  have P2 : Hid (Sl (World.setCells (w4.setCell ⟨w.heap.size, 8, none⟩ (.slice a4 m.gs.length p4)) (w.heap.size + 1) 0 [.string m.nm, .bool m.up, .int .i64 m.ck, .bool m.kn, .int .i64 m.se, (.slice a1 m.ws.length p1), (.slice a2 m.rs.length p2), (.slice a3 m.qs.length p3), (.slice a4 m.gs.length p4)]) (.slice a2 m.rs.length p2) m.rs w.heap.size) := Sl.low (((((((Q2.out).grown (ex_grown X2.out) (ob_ne (N := w.heap.size + 1) (fun g hg => by have h1 := (Q2.out.lt g hg).1; have h2 := S1.out.f; omega) (by omega))).keep Y3.out).grown (ex_grown X3.out) (ob_ne (N := w.heap.size + 1) (fun g hg => by have h1 := (Q2.out.lt g hg).1; have h2 := S1.out.f; omega) (by omega))).keep Y4.out).grown (ex_grown X4.out) (ob_ne (N := w.heap.size + 1) (fun g hg => by have h1 := (Q2.out.lt g hg).1; have h2 := S1.out.f; omega) (by omega))).grown (ex_grown hx1) (ob_ne (N := w.heap.size + 1) (fun g hg => by have h1 := (Q2.out.lt g hg).1; have h2 := S1.out.f; omega) (by omega))) (by have := S1.out.f; omega)
  have P3 : Hid (A.Sl (World.setCells (w4.setCell ⟨w.heap.size, 8, none⟩ (.slice a4 m.gs.length p4)) (w.heap.size + 1) 0 [.string m.nm, .bool m.up, .int .i64 m.ck, .bool m.kn, .int .i64 m.se, (.slice a1 m.ws.length p1), (.slice a2 m.rs.length p2), (.slice a3 m.qs.length p3), (.slice a4 m.gs.length p4)]) (.slice a3 m.qs.length p3) m.qs w.heap.size) := A.Sl.low (((((Q3.out).grown (A.ex_grown X3.out) (ob_ne (N := w.heap.size + 1) (fun g hg => by have h1 := (Q3.out.lt g hg).1; have h2 := S2.out.f; omega) (by omega))).keep Y4.out).grown (A.ex_grown X4.out) (ob_ne (N := w.heap.size + 1) (fun g hg => by have h1 := (Q3.out.lt g hg).1; have h2 := S2.out.f; omega) (by omega))).grown (A.ex_grown hx1) (ob_ne (N := w.heap.size + 1) (fun g hg => by have h1 := (Q3.out.lt g hg).1; have h2 := S2.out.f; omega) (by omega))) (by have := S2.out.f; omega)
  have P4 : Hid (A.Sl (World.setCells (w4.setCell ⟨w.heap.size, 8, none⟩ (.slice a4 m.gs.length p4)) (w.heap.size + 1) 0 [.string m.nm, .bool m.up, .int .i64 m.ck, .bool m.kn, .int .i64 m.se, (.slice a1 m.ws.length p1), (.slice a2 m.rs.length p2), (.slice a3 m.qs.length p3), (.slice a4 m.gs.length p4)]) (.slice a4 m.gs.length p4) m.gs w.heap.size) := A.Sl.low (((Q4.out).grown (A.ex_grown X4.out) (ob_ne (N := w.heap.size + 1) (fun g hg => by have h1 := (Q4.out.lt g hg).1; have h2 := S3.out.f; omega) (by omega))).grown (A.ex_grown hx1) (ob_ne (N := w.heap.size + 1) (fun g hg => by have h1 := (Q4.out.lt g hg).1; have h2 := S3.out.f; omega) (by omega))) (by have := S3.out.f; omega)
  have D12 : Hid (Dif (.slice a1 m.ws.length p1) (.slice a2 m.rs.length p2)) := dif_lt (fun g hg => (Q1.out.lt g hg).2) (fun g hg => (Q2.out.lt g hg).1) (by have h0 := X1.out.size; omega)
  have D13 : Hid (Dif (.slice a1 m.ws.length p1) (.slice a3 m.qs.length p3)) := dif_lt (fun g hg => (Q1.out.lt g hg).2) (fun g hg => (Q3.out.lt g hg).1) (by have h0 := X1.out.size; have h1 := X2.out.size; have h2 := Y2.out.size; omega)
  have D14 : Hid (Dif (.slice a1 m.ws.length p1) (.slice a4 m.gs.length p4)) := dif_lt (fun g hg => (Q1.out.lt g hg).2) (fun g hg => (Q4.out.lt g hg).1) (by have h0 := X1.out.size; have h1 := X2.out.size; have h2 := X3.out.size; have h3 := Y2.out.size; have h4 := Y3.out.size; omega)
  have D23 : Hid (Dif (.slice a2 m.rs.length p2) (.slice a3 m.qs.length p3)) := dif_lt (fun g hg => (Q2.out.lt g hg).2) (fun g hg => (Q3.out.lt g hg).1) (by have h0 := X2.out.size; omega)
  have D24 : Hid (Dif (.slice a2 m.rs.length p2) (.slice a4 m.gs.length p4)) := dif_lt (fun g hg => (Q2.out.lt g hg).2) (fun g hg => (Q4.out.lt g hg).1) (by have h0 := X2.out.size; have h1 := X3.out.size; have h2 := Y3.out.size; omega)
  have D34 : Hid (Dif (.slice a3 m.qs.length p3) (.slice a4 m.gs.length p4)) := dif_lt (fun g hg => (Q3.out.lt g hg).2) (fun g hg => (Q4.out.lt g hg).1) (by have h0 := X3.out.size; omega)
  have LS : Hid (SlM (World.setCells (w4.setCell ⟨w.heap.size, 8, none⟩ (.slice a4 m.gs.length p4)) (w.heap.size + 1) 0 [.string m.nm, .bool m.up, .int .i64 m.ck, .bool m.kn, .int .i64 m.se, (.slice a1 m.ws.length p1), (.slice a2 m.rs.length p2), (.slice a3 m.qs.length p3), (.slice a4 m.gs.length p4)]) m (.slice a1 m.ws.length p1) (.slice a2 m.rs.length p2) (.slice a3 m.qs.length p3) (.slice a4 m.gs.length p4) w.heap.size) := ⟨P1.out, P2.out, P3.out, P4.out, D12.out, D13.out, D14.out, D23.out, D24.out, D34.out⟩
  have BE : Hid (Below w.heap.size w (World.setCells (w4.setCell ⟨w.heap.size, 8, none⟩ (.slice a4 m.gs.length p4)) (w.heap.size + 1) 0 [.string m.nm, .bool m.up, .int .i64 m.ck, .bool m.kn, .int .i64 m.se, (.slice a1 m.ws.length p1), (.slice a2 m.rs.length p2), (.slice a3 m.qs.length p3), (.slice a4 m.gs.length p4)])) := ⟨hx1.os.trans S4.out.e.os, hx1.tape.trans S4.out.e.tape, hx1.output.trans S4.out.e.output, Nat.le_trans S4.out.e.size hx1.size, fun k hk => (hx1.block k (Nat.lt_of_lt_of_le hk S4.out.e.size) (by omega)).trans (S4.out.e.block k hk)⟩
  have RG : Hid _ := World.rangeAt_setCells_same (w4.setCell ⟨w.heap.size, 8, none⟩ (.slice a4 m.gs.length p4)) (w.heap.size + 1) 0 [.string m.nm, .bool m.up, .int .i64 m.ck, .bool m.kn, .int .i64 m.se, (.slice a1 m.ws.length p1), (.slice a2 m.rs.length p2), (.slice a3 m.qs.length p3), (.slice a4 m.gs.length p4)] S4.out.d
  clear hx1 P1 P2 P3 P4
  go_wp2_with (refine wpList_store_mid (by rfl) 35 _ _ (by rfl) (w.heap.size + 1) 0 #[.string m.nm, .bool m.up, .int .i64 m.ck, .bool m.kn, .int .i64 m.se, (.slice a1 m.ws.length p1), (.slice a2 m.rs.length p2), (.slice a3 m.qs.length p3), (.slice a4 m.gs.length p4)] (by rfl) (by rfl) (by exact S4.out.d) hinfo (by exact all_oneCell_toArray (ones m Q1.out Q2.out Q3.out Q4.out)) ?_)
  have hrg := RG.out
  have d0 := hrg 0 _ rfl
  have d1 := hrg 1 _ rfl
  have d2 := hrg 2 _ rfl
  have d3 := hrg 3 _ rfl
  have d4 := hrg 4 _ rfl
  have d5 := hrg 5 _ rfl
  have d6 := hrg 6 _ rfl
  have d7 := hrg 7 _ rfl
  have d8 := hrg 8 _ rfl
  simp only [Nat.zero_add] at d0 d1 d2 d3 d4 d5 d6 d7 d8
  exact bodyPost_ret (v := .agg #[.string m.nm, .bool m.up, .int .i64 m.ck, .bool m.kn, .int .i64 m.se, (.slice a1 m.ws.length p1), (.slice a2 m.rs.length p2), (.slice a3 m.qs.length p3), (.slice a4 m.gs.length p4)]) (by simp [results, Tryz.results28, go_sem, d0, d1, d2, d3, d4, d5, d6, d7, d8]) rfl ⟨⟨_, _, _, _, rfl, LS.out⟩, BE.out⟩

set_option maxRecDepth 4000 in
set_option maxHeartbeats 4000000 in
theorem l4Copy_any (m : MateD) (b1 b2 b3 b4 : Nat) (w : World) (hL : Lists w m b1 b2 b3 b4) (hf : m.fits) :
    Calls Tryz.prog 19 #[.agg #[.string m.nm, .bool m.up, .int .i64 m.ck, .bool m.kn, .int .i64 m.se, .slice (some ⟨b1, 0, none⟩) m.ws.length m.ws.length, .slice (some ⟨b2, 0, none⟩) m.rs.length m.rs.length, .slice (some ⟨b3, 0, none⟩) m.qs.length m.qs.length, .slice (some ⟨b4, 0, none⟩) m.gs.length m.gs.length]] w fun e w' => (∃ s1 s2 s3 s4, e = .returned (.agg #[.string m.nm, .bool m.up, .int .i64 m.ck, .bool m.kn, .int .i64 m.se, s1, s2, s3, s4]) ∧ SlM w' m s1 s2 s3 s4 w.heap.size) ∧ Below w.heap.size w w' := by
  have S0 : Hid (Sc w #[.string m.nm, .bool m.up, .int .i64 m.ck, .bool m.kn, .int .i64 m.se, .slice (some ⟨b1, 0, none⟩) m.ws.length m.ws.length, .slice (some ⟨b2, 0, none⟩) m.rs.length m.rs.length, .slice (some ⟨b3, 0, none⟩) m.qs.length m.qs.length, .slice (some ⟨b4, 0, none⟩) m.gs.length m.gs.length] ((w.alloc (.cells #[.string m.nm, .bool m.up, .int .i64 m.ck, .bool m.kn, .int .i64 m.se, .slice (some ⟨b1, 0, none⟩) m.ws.length m.ws.length, .slice (some ⟨b2, 0, none⟩) m.rs.length m.rs.length, .slice (some ⟨b3, 0, none⟩) m.qs.length m.qs.length, .slice (some ⟨b4, 0, none⟩) m.gs.length m.gs.length] 35)).alloc (.cells #[.string { data := #[] }, .bool false, .int .i64 0, .bool false, .int .i64 0, .slice none 0 0, .slice none 0 0, .slice none 0 0, .slice none 0 0] 35))) := sc_new m b1 b2 b3 b4 w
  have hinfo : (Tryz.prog.info? 35).map (·.size) = some 9 := by kernel_rfl
  obtain ⟨iw, hiw, zw0, zw1, zw2⟩ := info_parts W.infoR
  obtain ⟨ir, hir, zr0, zr1, zr2⟩ := info_parts infoR
  obtain ⟨ia, hia, za0, za1, za2⟩ := info_parts A.infoR
  have nbw := build0w
  have nbr := build0r
  have nba := build0a
  have kz0 : w.heap.size < w.heap.size + 1 := by omega
  go_enter Tryz.func19, Tryz.ntmps19
  go_wp2_with (first | (at_builtin; refine wpList_append_own _ rfl (.tmp 3) (.tmp 5) 31 rfl ((w.alloc (.cells #[.string m.nm, .bool m.up, .int .i64 m.ck, .bool m.kn, .int .i64 m.se, .slice (some ⟨b1, 0, none⟩) m.ws.length m.ws.length, .slice (some ⟨b2, 0, none⟩) m.rs.length m.rs.length, .slice (some ⟨b3, 0, none⟩) m.qs.length m.qs.length, .slice (some ⟨b4, 0, none⟩) m.gs.length m.gs.length] 35)).alloc (.cells #[.string { data := #[] }, .bool false, .int .i64 0, .bool false, .int .i64 0, .slice none 0 0, .slice none 0 0, .slice none 0 0, .slice none 0 0] 35)).heap.size 57 iw _ 7 72 Tryz.underlying31 hiw zw0 zw1 zw2 rfl (by decide) (.slice (some ⟨((w.alloc (.cells #[.string m.nm, .bool m.up, .int .i64 m.ck, .bool m.kn, .int .i64 m.se, .slice (some ⟨b1, 0, none⟩) m.ws.length m.ws.length, .slice (some ⟨b2, 0, none⟩) m.rs.length m.rs.length, .slice (some ⟨b3, 0, none⟩) m.qs.length m.qs.length, .slice (some ⟨b4, 0, none⟩) m.gs.length m.gs.length] 35)).alloc (.cells #[.string { data := #[] }, .bool false, .int .i64 0, .bool false, .int .i64 0, .slice none 0 0, .slice none 0 0, .slice none 0 0, .slice none 0 0] 35)).heap.size, 0, none⟩) 0 0) 0 [] (by first | rfl | simp [Act.eval]) (World.ownsRow_made ((w.alloc (.cells #[.string m.nm, .bool m.up, .int .i64 m.ck, .bool m.kn, .int .i64 m.se, .slice (some ⟨b1, 0, none⟩) m.ws.length m.ws.length, .slice (some ⟨b2, 0, none⟩) m.rs.length m.rs.length, .slice (some ⟨b3, 0, none⟩) m.qs.length m.qs.length, .slice (some ⟨b4, 0, none⟩) m.gs.length m.gs.length] 35)).alloc (.cells #[.string { data := #[] }, .bool false, .int .i64 0, .bool false, .int .i64 0, .slice none 0 0, .slice none 0 0, .slice none 0 0, .slice none 0 0] 35)) #[] 0 (Nat.le_refl _) (Nat.zero_le _) rfl) ⟨b1, 0, none⟩ m.ws.length m.ws.length (W.flatR m.ws) rfl (W.flatR_len _) (W.flat_cells ((hL.keep S0.out.e).keep (bl_alloc (Below.refl _ _) _)).r1) (W.flatR_one _) (by have := hf.k1; unfold maxLen; omega) (by have := hf.k1; omega) (by simp) ?_; intro s1 w1 ho1 hg1 hn1; have r1 : W.Sl w1 s1 m.ws ((w.alloc (.cells #[.string m.nm, .bool m.up, .int .i64 m.ck, .bool m.kn, .int .i64 m.se, .slice (some ⟨b1, 0, none⟩) m.ws.length m.ws.length, .slice (some ⟨b2, 0, none⟩) m.rs.length m.rs.length, .slice (some ⟨b3, 0, none⟩) m.qs.length m.qs.length, .slice (some ⟨b4, 0, none⟩) m.gs.length m.gs.length] 35)).alloc (.cells #[.string { data := #[] }, .bool false, .int .i64 0, .bool false, .int .i64 0, .slice none 0 0, .slice none 0 0, .slice none 0 0, .slice none 0 0] 35)).heap.size := W.Sl.of_owns (by simpa using ho1); obtain ⟨a1, p1, hs1⟩ := W.Sl.shape r1; subst hs1; have V1 : Hid (Below ((w.alloc (.cells #[.string m.nm, .bool m.up, .int .i64 m.ck, .bool m.kn, .int .i64 m.se, .slice (some ⟨b1, 0, none⟩) m.ws.length m.ws.length, .slice (some ⟨b2, 0, none⟩) m.rs.length m.rs.length, .slice (some ⟨b3, 0, none⟩) m.qs.length m.qs.length, .slice (some ⟨b4, 0, none⟩) m.gs.length m.gs.length] 35)).alloc (.cells #[.string { data := #[] }, .bool false, .int .i64 0, .bool false, .int .i64 0, .slice none 0 0, .slice none 0 0, .slice none 0 0, .slice none 0 0] 35)).heap.size ((w.alloc (.cells #[.string m.nm, .bool m.up, .int .i64 m.ck, .bool m.kn, .int .i64 m.se, .slice (some ⟨b1, 0, none⟩) m.ws.length m.ws.length, .slice (some ⟨b2, 0, none⟩) m.rs.length m.rs.length, .slice (some ⟨b3, 0, none⟩) m.qs.length m.qs.length, .slice (some ⟨b4, 0, none⟩) m.gs.length m.gs.length] 35)).alloc (.cells #[.string { data := #[] }, .bool false, .int .i64 0, .bool false, .int .i64 0, .slice none 0 0, .slice none 0 0, .slice none 0 0, .slice none 0 0] 35)) (((w.alloc (.cells #[.string m.nm, .bool m.up, .int .i64 m.ck, .bool m.kn, .int .i64 m.se, .slice (some ⟨b1, 0, none⟩) m.ws.length m.ws.length, .slice (some ⟨b2, 0, none⟩) m.rs.length m.rs.length, .slice (some ⟨b3, 0, none⟩) m.qs.length m.qs.length, .slice (some ⟨b4, 0, none⟩) m.gs.length m.gs.length] 35)).alloc (.cells #[.string { data := #[] }, .bool false, .int .i64 0, .bool false, .int .i64 0, .slice none 0 0, .slice none 0 0, .slice none 0 0, .slice none 0 0] 35)).alloc (.cells #[] 57))) := bl_alloc (Below.refl _ _) _; have Y1 : Hid (Below ((w.alloc (.cells #[.string m.nm, .bool m.up, .int .i64 m.ck, .bool m.kn, .int .i64 m.se, .slice (some ⟨b1, 0, none⟩) m.ws.length m.ws.length, .slice (some ⟨b2, 0, none⟩) m.rs.length m.rs.length, .slice (some ⟨b3, 0, none⟩) m.qs.length m.qs.length, .slice (some ⟨b4, 0, none⟩) m.gs.length m.gs.length] 35)).alloc (.cells #[.string { data := #[] }, .bool false, .int .i64 0, .bool false, .int .i64 0, .slice none 0 0, .slice none 0 0, .slice none 0 0, .slice none 0 0] 35)).heap.size ((w.alloc (.cells #[.string m.nm, .bool m.up, .int .i64 m.ck, .bool m.kn, .int .i64 m.se, .slice (some ⟨b1, 0, none⟩) m.ws.length m.ws.length, .slice (some ⟨b2, 0, none⟩) m.rs.length m.rs.length, .slice (some ⟨b3, 0, none⟩) m.qs.length m.qs.length, .slice (some ⟨b4, 0, none⟩) m.gs.length m.gs.length] 35)).alloc (.cells #[.string { data := #[] }, .bool false, .int .i64 0, .bool false, .int .i64 0, .slice none 0 0, .slice none 0 0, .slice none 0 0, .slice none 0 0] 35)) w1) := Below.grown V1.out hg1 V1.out.size (fun j hj => by cases hj; exact Nat.le_refl _); have Q1 : Hid (W.Sl w1 (.slice a1 m.ws.length p1) m.ws ((w.alloc (.cells #[.string m.nm, .bool m.up, .int .i64 m.ck, .bool m.kn, .int .i64 m.se, .slice (some ⟨b1, 0, none⟩) m.ws.length m.ws.length, .slice (some ⟨b2, 0, none⟩) m.rs.length m.rs.length, .slice (some ⟨b3, 0, none⟩) m.qs.length m.qs.length, .slice (some ⟨b4, 0, none⟩) m.gs.length m.gs.length] 35)).alloc (.cells #[.string { data := #[] }, .bool false, .int .i64 0, .bool false, .int .i64 0, .slice none 0 0, .slice none 0 0, .slice none 0 0, .slice none 0 0] 35)).heap.size) := r1; have T1 : Hid (Sc w #[.string m.nm, .bool m.up, .int .i64 m.ck, .bool m.kn, .int .i64 m.se, .slice (some ⟨b1, 0, none⟩) m.ws.length m.ws.length, .slice (some ⟨b2, 0, none⟩) m.rs.length m.rs.length, .slice (some ⟨b3, 0, none⟩) m.qs.length m.qs.length, .slice (some ⟨b4, 0, none⟩) m.gs.length m.gs.length] w1) := S0.out.below Y1.out; have S1 : Hid (Sc w #[.string m.nm, .bool m.up, .int .i64 m.ck, .bool m.kn, .int .i64 m.se, (.slice a1 m.ws.length p1), .slice (some ⟨b2, 0, none⟩) m.rs.length m.rs.length, .slice (some ⟨b3, 0, none⟩) m.qs.length m.qs.length, .slice (some ⟨b4, 0, none⟩) m.gs.length m.gs.length] (w1.setCell ⟨w.heap.size, 5, none⟩ (.slice a1 m.ws.length p1))) := T1.out.set 5 (by simp) _; have X1 : Hid (Ex w.heap.size w1 (w1.setCell ⟨w.heap.size, 5, none⟩ (.slice a1 m.ws.length p1))) := Ex.set (Ex.refl _ _) 5 _; clear ho1 hg1 hn1 r1 V1; have ka1 := T1.out.b; have kf1 := T1.out.c; have kz1 : w.heap.size < w1.heap.size := by have := T1.out.f; omega) | (at_builtin; refine wpList_append_own _ rfl (.tmp 8) (.tmp 10) 32 rfl (w1.setCell ⟨w.heap.size, 5, none⟩ (.slice a1 m.ws.length p1)).heap.size 59 ir _ 11 104 Tryz.underlying32 hir zr0 zr1 zr2 rfl (by decide) (.slice (some ⟨(w1.setCell ⟨w.heap.size, 5, none⟩ (.slice a1 m.ws.length p1)).heap.size, 0, none⟩) 0 0) 0 [] (by first | rfl | simp [Act.eval]) (World.ownsRow_made (w1.setCell ⟨w.heap.size, 5, none⟩ (.slice a1 m.ws.length p1)) #[] 0 (Nat.le_refl _) (Nat.zero_le _) rfl) ⟨b2, 0, none⟩ m.rs.length m.rs.length (flatR m.rs) rfl (flatR_len _) (flat_cells ((hL.keep S1.out.e).keep (bl_alloc (Below.refl _ _) _)).r2) (flatR_one _) (by have := hf.k2; unfold maxLen; omega) (by have := hf.k2; omega) (by simp) ?_; intro s2 w2 ho2 hg2 hn2; have r2 : Sl w2 s2 m.rs (w1.setCell ⟨w.heap.size, 5, none⟩ (.slice a1 m.ws.length p1)).heap.size := Sl.of_owns (by simpa using ho2); obtain ⟨a2, p2, hs2⟩ := Sl.shape r2; subst hs2; have V2 : Hid (Below (w1.setCell ⟨w.heap.size, 5, none⟩ (.slice a1 m.ws.length p1)).heap.size (w1.setCell ⟨w.heap.size, 5, none⟩ (.slice a1 m.ws.length p1)) ((w1.setCell ⟨w.heap.size, 5, none⟩ (.slice a1 m.ws.length p1)).alloc (.cells #[] 59))) := bl_alloc (Below.refl _ _) _; have Y2 : Hid (Below (w1.setCell ⟨w.heap.size, 5, none⟩ (.slice a1 m.ws.length p1)).heap.size (w1.setCell ⟨w.heap.size, 5, none⟩ (.slice a1 m.ws.length p1)) w2) := Below.grown V2.out hg2 V2.out.size (fun j hj => by cases hj; exact Nat.le_refl _); have Q2 : Hid (Sl w2 (.slice a2 m.rs.length p2) m.rs (w1.setCell ⟨w.heap.size, 5, none⟩ (.slice a1 m.ws.length p1)).heap.size) := r2; have T2 : Hid (Sc w #[.string m.nm, .bool m.up, .int .i64 m.ck, .bool m.kn, .int .i64 m.se, (.slice a1 m.ws.length p1), .slice (some ⟨b2, 0, none⟩) m.rs.length m.rs.length, .slice (some ⟨b3, 0, none⟩) m.qs.length m.qs.length, .slice (some ⟨b4, 0, none⟩) m.gs.length m.gs.length] w2) := S1.out.below Y2.out; have S2 : Hid (Sc w #[.string m.nm, .bool m.up, .int .i64 m.ck, .bool m.kn, .int .i64 m.se, (.slice a1 m.ws.length p1), (.slice a2 m.rs.length p2), .slice (some ⟨b3, 0, none⟩) m.qs.length m.qs.length, .slice (some ⟨b4, 0, none⟩) m.gs.length m.gs.length] (w2.setCell ⟨w.heap.size, 6, none⟩ (.slice a2 m.rs.length p2))) := T2.out.set 6 (by simp) _; have X2 : Hid (Ex w.heap.size w2 (w2.setCell ⟨w.heap.size, 6, none⟩ (.slice a2 m.rs.length p2))) := Ex.set (Ex.refl _ _) 6 _; clear ho2 hg2 hn2 r2 V2; have ka2 := T2.out.b; have kf2 := T2.out.c; have kz2 : w.heap.size < w2.heap.size := by have := T2.out.f; omega) | (at_builtin; refine wpList_append_own _ rfl (.tmp 13) (.tmp 15) 33 rfl (w2.setCell ⟨w.heap.size, 6, none⟩ (.slice a2 m.rs.length p2)).heap.size 55 ia _ 4 48 Tryz.underlying33 hia za0 za1 za2 rfl (by decide) (.slice (some ⟨(w2.setCell ⟨w.heap.size, 6, none⟩ (.slice a2 m.rs.length p2)).heap.size, 0, none⟩) 0 0) 0 [] (by first | rfl | simp [Act.eval]) (World.ownsRow_made (w2.setCell ⟨w.heap.size, 6, none⟩ (.slice a2 m.rs.length p2)) #[] 0 (Nat.le_refl _) (Nat.zero_le _) rfl) ⟨b3, 0, none⟩ m.qs.length m.qs.length (A.flatR m.qs) rfl (A.flatR_len _) (A.flat_cells ((hL.keep S2.out.e).keep (bl_alloc (Below.refl _ _) _)).r3) (A.flatR_one _) (by have := hf.k3; unfold maxLen; omega) (by have := hf.k3; omega) (by simp) ?_; intro s3 w3 ho3 hg3 hn3; have r3 : A.Sl w3 s3 m.qs (w2.setCell ⟨w.heap.size, 6, none⟩ (.slice a2 m.rs.length p2)).heap.size := A.Sl.of_owns (by simpa using ho3); obtain ⟨a3, p3, hs3⟩ := A.Sl.shape r3; subst hs3; have V3 : Hid (Below (w2.setCell ⟨w.heap.size, 6, none⟩ (.slice a2 m.rs.length p2)).heap.size (w2.setCell ⟨w.heap.size, 6, none⟩ (.slice a2 m.rs.length p2)) ((w2.setCell ⟨w.heap.size, 6, none⟩ (.slice a2 m.rs.length p2)).alloc (.cells #[] 55))) := bl_alloc (Below.refl _ _) _; have Y3 : Hid (Below (w2.setCell ⟨w.heap.size, 6, none⟩ (.slice a2 m.rs.length p2)).heap.size (w2.setCell ⟨w.heap.size, 6, none⟩ (.slice a2 m.rs.length p2)) w3) := Below.grown V3.out hg3 V3.out.size (fun j hj => by cases hj; exact Nat.le_refl _); have Q3 : Hid (A.Sl w3 (.slice a3 m.qs.length p3) m.qs (w2.setCell ⟨w.heap.size, 6, none⟩ (.slice a2 m.rs.length p2)).heap.size) := r3; have T3 : Hid (Sc w #[.string m.nm, .bool m.up, .int .i64 m.ck, .bool m.kn, .int .i64 m.se, (.slice a1 m.ws.length p1), (.slice a2 m.rs.length p2), .slice (some ⟨b3, 0, none⟩) m.qs.length m.qs.length, .slice (some ⟨b4, 0, none⟩) m.gs.length m.gs.length] w3) := S2.out.below Y3.out; have S3 : Hid (Sc w #[.string m.nm, .bool m.up, .int .i64 m.ck, .bool m.kn, .int .i64 m.se, (.slice a1 m.ws.length p1), (.slice a2 m.rs.length p2), (.slice a3 m.qs.length p3), .slice (some ⟨b4, 0, none⟩) m.gs.length m.gs.length] (w3.setCell ⟨w.heap.size, 7, none⟩ (.slice a3 m.qs.length p3))) := T3.out.set 7 (by simp) _; have X3 : Hid (Ex w.heap.size w3 (w3.setCell ⟨w.heap.size, 7, none⟩ (.slice a3 m.qs.length p3))) := Ex.set (Ex.refl _ _) 7 _; clear ho3 hg3 hn3 r3 V3; have ka3 := T3.out.b; have kf3 := T3.out.c; have kz3 : w.heap.size < w3.heap.size := by have := T3.out.f; omega) | (at_builtin; refine wpList_append_own _ rfl (.tmp 18) (.tmp 20) 33 rfl (w3.setCell ⟨w.heap.size, 7, none⟩ (.slice a3 m.qs.length p3)).heap.size 55 ia _ 4 48 Tryz.underlying33 hia za0 za1 za2 rfl (by decide) (.slice (some ⟨(w3.setCell ⟨w.heap.size, 7, none⟩ (.slice a3 m.qs.length p3)).heap.size, 0, none⟩) 0 0) 0 [] (by first | rfl | simp [Act.eval]) (World.ownsRow_made (w3.setCell ⟨w.heap.size, 7, none⟩ (.slice a3 m.qs.length p3)) #[] 0 (Nat.le_refl _) (Nat.zero_le _) rfl) ⟨b4, 0, none⟩ m.gs.length m.gs.length (A.flatR m.gs) rfl (A.flatR_len _) (A.flat_cells ((hL.keep S3.out.e).keep (bl_alloc (Below.refl _ _) _)).r4) (A.flatR_one _) (by have := hf.k4; unfold maxLen; omega) (by have := hf.k4; omega) (by simp) ?_; intro s4 w4 ho4 hg4 hn4; have r4 : A.Sl w4 s4 m.gs (w3.setCell ⟨w.heap.size, 7, none⟩ (.slice a3 m.qs.length p3)).heap.size := A.Sl.of_owns (by simpa using ho4); obtain ⟨a4, p4, hs4⟩ := A.Sl.shape r4; subst hs4; have V4 : Hid (Below (w3.setCell ⟨w.heap.size, 7, none⟩ (.slice a3 m.qs.length p3)).heap.size (w3.setCell ⟨w.heap.size, 7, none⟩ (.slice a3 m.qs.length p3)) ((w3.setCell ⟨w.heap.size, 7, none⟩ (.slice a3 m.qs.length p3)).alloc (.cells #[] 55))) := bl_alloc (Below.refl _ _) _; have Y4 : Hid (Below (w3.setCell ⟨w.heap.size, 7, none⟩ (.slice a3 m.qs.length p3)).heap.size (w3.setCell ⟨w.heap.size, 7, none⟩ (.slice a3 m.qs.length p3)) w4) := Below.grown V4.out hg4 V4.out.size (fun j hj => by cases hj; exact Nat.le_refl _); have Q4 : Hid (A.Sl w4 (.slice a4 m.gs.length p4) m.gs (w3.setCell ⟨w.heap.size, 7, none⟩ (.slice a3 m.qs.length p3)).heap.size) := r4; have T4 : Hid (Sc w #[.string m.nm, .bool m.up, .int .i64 m.ck, .bool m.kn, .int .i64 m.se, (.slice a1 m.ws.length p1), (.slice a2 m.rs.length p2), (.slice a3 m.qs.length p3), .slice (some ⟨b4, 0, none⟩) m.gs.length m.gs.length] w4) := S3.out.below Y4.out; have S4 : Hid (Sc w #[.string m.nm, .bool m.up, .int .i64 m.ck, .bool m.kn, .int .i64 m.se, (.slice a1 m.ws.length p1), (.slice a2 m.rs.length p2), (.slice a3 m.qs.length p3), (.slice a4 m.gs.length p4)] (w4.setCell ⟨w.heap.size, 8, none⟩ (.slice a4 m.gs.length p4))) := T4.out.set 8 (by simp) _; have X4 : Hid (Ex w.heap.size w4 (w4.setCell ⟨w.heap.size, 8, none⟩ (.slice a4 m.gs.length p4))) := Ex.set (Ex.refl _ _) 8 _; clear ho4 hg4 hn4 r4 V4; have ka4 := T4.out.b; have kf4 := T4.out.c; have kz4 : w.heap.size < w4.heap.size := by have := T4.out.f; omega) | (refine wpList_store_mid (by rfl) 35 _ _ (by rfl) (w.heap.size + 1) 0 #[.string m.nm, .bool m.up, .int .i64 m.ck, .bool m.kn, .int .i64 m.se, (.slice a1 m.ws.length p1), (.slice a2 m.rs.length p2), (.slice a3 m.qs.length p3), (.slice a4 m.gs.length p4)] (by rfl) (by rfl) (by exact S4.out.d) hinfo (by exact all_oneCell_toArray (ones m Q1.out Q2.out Q3.out Q4.out)) ?_))
  have hx1 : Ex (w.heap.size + 1) (w4.setCell ⟨w.heap.size, 8, none⟩ (.slice a4 m.gs.length p4)) (World.setCells (w4.setCell ⟨w.heap.size, 8, none⟩ (.slice a4 m.gs.length p4)) (w.heap.size + 1) 0 [.string m.nm, .bool m.up, .int .i64 m.ck, .bool m.kn, .int .i64 m.se, (.slice a1 m.ws.length p1), (.slice a2 m.rs.length p2), (.slice a3 m.qs.length p3), (.slice a4 m.gs.length p4)]) := (Ex.refl _ _).cells _ _
  have P1 : Hid (W.Sl (World.setCells (w4.setCell ⟨w.heap.size, 8, none⟩ (.slice a4 m.gs.length p4)) (w.heap.size + 1) 0 [.string m.nm, .bool m.up, .int .i64 m.ck, .bool m.kn, .int .i64 m.se, (.slice a1 m.ws.length p1), (.slice a2 m.rs.length p2), (.slice a3 m.qs.length p3), (.slice a4 m.gs.length p4)]) (.slice a1 m.ws.length p1) m.ws w.heap.size) := W.Sl.low (((((((((Q1.out).grown (W.ex_grown X1.out) (ob_ne (N := w.heap.size + 1) (fun g hg => by have h1 := (Q1.out.lt g hg).1; have h2 := S0.out.f; omega) (by omega))).keep Y2.out).grown (W.ex_grown X2.out) (ob_ne (N := w.heap.size + 1) (fun g hg => by have h1 := (Q1.out.lt g hg).1; have h2 := S0.out.f; omega) (by omega))).keep Y3.out).grown (W.ex_grown X3.out) (ob_ne (N := w.heap.size + 1) (fun g hg => by have h1 := (Q1.out.lt g hg).1; have h2 := S0.out.f; omega) (by omega))).keep Y4.out).grown (W.ex_grown X4.out) (ob_ne (N := w.heap.size + 1) (fun g hg => by have h1 := (Q1.out.lt g hg).1; have h2 := S0.out.f; omega) (by omega))).grown (W.ex_grown hx1) (ob_ne (N := w.heap.size + 1) (fun g hg => by have h1 := (Q1.out.lt g hg).1; have h2 := S0.out.f; omega) (by omega))) (by have := S0.out.f; omega)
  have P2 : Hid (Sl (World.setCells (w4.setCell ⟨w.heap.size, 8, none⟩ (.slice a4 m.gs.length p4)) (w.heap.size + 1) 0 [.string m.nm, .bool m.up, .int .i64 m.ck, .bool m.kn, .int .i64 m.se, (.slice a1 m.ws.length p1), (.slice a2 m.rs.length p2), (.slice a3 m.qs.length p3), (.slice a4 m.gs.length p4)]) (.slice a2 m.rs.length p2) m.rs w.heap.size) := Sl.low (((((((Q2.out).grown (ex_grown X2.out) (ob_ne (N := w.heap.size + 1) (fun g hg => by have h1 := (Q2.out.lt g hg).1; have h2 := S1.out.f; omega) (by omega))).keep Y3.out).grown (ex_grown X3.out) (ob_ne (N := w.heap.size + 1) (fun g hg => by have h1 := (Q2.out.lt g hg).1; have h2 := S1.out.f; omega) (by omega))).keep Y4.out).grown (ex_grown X4.out) (ob_ne (N := w.heap.size + 1) (fun g hg => by have h1 := (Q2.out.lt g hg).1; have h2 := S1.out.f; omega) (by omega))).grown (ex_grown hx1) (ob_ne (N := w.heap.size + 1) (fun g hg => by have h1 := (Q2.out.lt g hg).1; have h2 := S1.out.f; omega) (by omega))) (by have := S1.out.f; omega)
  have P3 : Hid (A.Sl (World.setCells (w4.setCell ⟨w.heap.size, 8, none⟩ (.slice a4 m.gs.length p4)) (w.heap.size + 1) 0 [.string m.nm, .bool m.up, .int .i64 m.ck, .bool m.kn, .int .i64 m.se, (.slice a1 m.ws.length p1), (.slice a2 m.rs.length p2), (.slice a3 m.qs.length p3), (.slice a4 m.gs.length p4)]) (.slice a3 m.qs.length p3) m.qs w.heap.size) := A.Sl.low (((((Q3.out).grown (A.ex_grown X3.out) (ob_ne (N := w.heap.size + 1) (fun g hg => by have h1 := (Q3.out.lt g hg).1; have h2 := S2.out.f; omega) (by omega))).keep Y4.out).grown (A.ex_grown X4.out) (ob_ne (N := w.heap.size + 1) (fun g hg => by have h1 := (Q3.out.lt g hg).1; have h2 := S2.out.f; omega) (by omega))).grown (A.ex_grown hx1) (ob_ne (N := w.heap.size + 1) (fun g hg => by have h1 := (Q3.out.lt g hg).1; have h2 := S2.out.f; omega) (by omega))) (by have := S2.out.f; omega)
  have P4 : Hid (A.Sl (World.setCells (w4.setCell ⟨w.heap.size, 8, none⟩ (.slice a4 m.gs.length p4)) (w.heap.size + 1) 0 [.string m.nm, .bool m.up, .int .i64 m.ck, .bool m.kn, .int .i64 m.se, (.slice a1 m.ws.length p1), (.slice a2 m.rs.length p2), (.slice a3 m.qs.length p3), (.slice a4 m.gs.length p4)]) (.slice a4 m.gs.length p4) m.gs w.heap.size) := A.Sl.low (((Q4.out).grown (A.ex_grown X4.out) (ob_ne (N := w.heap.size + 1) (fun g hg => by have h1 := (Q4.out.lt g hg).1; have h2 := S3.out.f; omega) (by omega))).grown (A.ex_grown hx1) (ob_ne (N := w.heap.size + 1) (fun g hg => by have h1 := (Q4.out.lt g hg).1; have h2 := S3.out.f; omega) (by omega))) (by have := S3.out.f; omega)
  have D12 : Hid (Dif (.slice a1 m.ws.length p1) (.slice a2 m.rs.length p2)) := dif_lt (fun g hg => (Q1.out.lt g hg).2) (fun g hg => (Q2.out.lt g hg).1) (by have h0 := X1.out.size; omega)
  have D13 : Hid (Dif (.slice a1 m.ws.length p1) (.slice a3 m.qs.length p3)) := dif_lt (fun g hg => (Q1.out.lt g hg).2) (fun g hg => (Q3.out.lt g hg).1) (by have h0 := X1.out.size; have h1 := X2.out.size; have h2 := Y2.out.size; omega)
  have D14 : Hid (Dif (.slice a1 m.ws.length p1) (.slice a4 m.gs.length p4)) := dif_lt (fun g hg => (Q1.out.lt g hg).2) (fun g hg => (Q4.out.lt g hg).1) (by have h0 := X1.out.size; have h1 := X2.out.size; have h2 := X3.out.size; have h3 := Y2.out.size; have h4 := Y3.out.size; omega)
  have D23 : Hid (Dif (.slice a2 m.rs.length p2) (.slice a3 m.qs.length p3)) := dif_lt (fun g hg => (Q2.out.lt g hg).2) (fun g hg => (Q3.out.lt g hg).1) (by have h0 := X2.out.size; omega)
  have D24 : Hid (Dif (.slice a2 m.rs.length p2) (.slice a4 m.gs.length p4)) := dif_lt (fun g hg => (Q2.out.lt g hg).2) (fun g hg => (Q4.out.lt g hg).1) (by have h0 := X2.out.size; have h1 := X3.out.size; have h2 := Y3.out.size; omega)
  have D34 : Hid (Dif (.slice a3 m.qs.length p3) (.slice a4 m.gs.length p4)) := dif_lt (fun g hg => (Q3.out.lt g hg).2) (fun g hg => (Q4.out.lt g hg).1) (by have h0 := X3.out.size; omega)
  have LS : Hid (SlM (World.setCells (w4.setCell ⟨w.heap.size, 8, none⟩ (.slice a4 m.gs.length p4)) (w.heap.size + 1) 0 [.string m.nm, .bool m.up, .int .i64 m.ck, .bool m.kn, .int .i64 m.se, (.slice a1 m.ws.length p1), (.slice a2 m.rs.length p2), (.slice a3 m.qs.length p3), (.slice a4 m.gs.length p4)]) m (.slice a1 m.ws.length p1) (.slice a2 m.rs.length p2) (.slice a3 m.qs.length p3) (.slice a4 m.gs.length p4) w.heap.size) := ⟨P1.out, P2.out, P3.out, P4.out, D12.out, D13.out, D14.out, D23.out, D24.out, D34.out⟩
  have BE : Hid (Below w.heap.size w (World.setCells (w4.setCell ⟨w.heap.size, 8, none⟩ (.slice a4 m.gs.length p4)) (w.heap.size + 1) 0 [.string m.nm, .bool m.up, .int .i64 m.ck, .bool m.kn, .int .i64 m.se, (.slice a1 m.ws.length p1), (.slice a2 m.rs.length p2), (.slice a3 m.qs.length p3), (.slice a4 m.gs.length p4)])) := ⟨hx1.os.trans S4.out.e.os, hx1.tape.trans S4.out.e.tape, hx1.output.trans S4.out.e.output, Nat.le_trans S4.out.e.size hx1.size, fun k hk => (hx1.block k (Nat.lt_of_lt_of_le hk S4.out.e.size) (by omega)).trans (S4.out.e.block k hk)⟩
  have RG : Hid _ := World.rangeAt_setCells_same (w4.setCell ⟨w.heap.size, 8, none⟩ (.slice a4 m.gs.length p4)) (w.heap.size + 1) 0 [.string m.nm, .bool m.up, .int .i64 m.ck, .bool m.kn, .int .i64 m.se, (.slice a1 m.ws.length p1), (.slice a2 m.rs.length p2), (.slice a3 m.qs.length p3), (.slice a4 m.gs.length p4)] S4.out.d
  clear hx1 P1 P2 P3 P4
  have hrg := RG.out
  have d0 := hrg 0 _ rfl
  have d1 := hrg 1 _ rfl
  have d2 := hrg 2 _ rfl
  have d3 := hrg 3 _ rfl
  have d4 := hrg 4 _ rfl
  have d5 := hrg 5 _ rfl
  have d6 := hrg 6 _ rfl
  have d7 := hrg 7 _ rfl
  have d8 := hrg 8 _ rfl
  simp only [Nat.zero_add] at d0 d1 d2 d3 d4 d5 d6 d7 d8
  exact bodyPost_ret (v := .agg #[.string m.nm, .bool m.up, .int .i64 m.ck, .bool m.kn, .int .i64 m.se, (.slice a1 m.ws.length p1), (.slice a2 m.rs.length p2), (.slice a3 m.qs.length p3), (.slice a4 m.gs.length p4)]) (by simp [results, Tryz.results19, go_sem, d0, d1, d2, d3, d4, d5, d6, d7, d8]) rfl ⟨⟨_, _, _, _, rfl, LS.out⟩, BE.out⟩
end Go.Proofs.YtiogkdafmgdbgaaGreat
/- all and ascends, at wants. -/
namespace Go.Proofs.YtiogkdafmgdbgaaGreat.W
open Go.RowKit
set_option linter.unusedVariables false

set_option maxRecDepth 4000 in
set_option maxHeartbeats 1000000 in
theorem allOk (P : WantD → Bool) (b off cap : Nat) (rs : List WantD) (w : World) (hR : RowsAt w b off rs) (l1 : b < w.heap.size) (hl : rs.length ≤ 1048576)
    (hF : ∀ r ∈ rs, ∀ x, Below w.heap.size w x → Calls Tryz.prog 109 #[.agg #[.string r.c, .int .i64 r.v, .string r.h, .int .i64 r.p, .int .i64 r.s, .int .i64 r.d, .int .i64 r.g]] x fun e x' => e = .returned (.bool (P r)) ∧ Below x.heap.size x x') :
    Calls Tryz.prog 108 #[.slice (some ⟨b, off, none⟩) rs.length cap, .func (.func 109) #[] #[]] w fun e w' => (∃ q : Bool, e = .returned (.bool q) ∧ (q = true ↔ ∀ r ∈ rs, P r = true)) ∧ Below w.heap.size w w' := by
  have HF : Hid _ := hF
  clear hF
  go_enter Tryz.func108, Tryz.ntmps108
  go_wp2
  go_loopw [9] (fun i wx => ∃ (k : Nat), k ≤ rs.length ∧ i = .int .i64 k ∧ Hid (∀ j r, j < k → rs[j]? = some r → P r = true) ∧ Below w.heap.size w wx) (fun i _ => rs.length - (intOf i).toNat)
  case atStart => exact ⟨0, Nat.zero_le _, rfl, fun j r h => by omega, Below.refl _ _⟩
  case round =>
    obtain ⟨k, hk, rfl, Ha, hB⟩ := hrel
    by_cases hlt : k < rs.length
    · obtain ⟨r, hr⟩ : ∃ r, rs[k]? = some r := ⟨rs[k], List.getElem?_eq_getElem hlt⟩
      have Hr : Hid _ := hr
      clear hr
      obtain ⟨c0, c1, c2, c3, c4, c5, c6⟩ := (hR.keep l1 hB).at Hr.out
      go_wp2_with fail
      refine (HF.out r (List.mem_of_getElem? Hr.out) _ (bl_alloc hB _)).mono ?_
      rintro e w1 ⟨rfl, hb⟩
      have hB1 := bl_trans (bl_alloc hB _) hb
      have Hb1 : Hid _ := hB1
      clear hB hb hB1
      cases hP : P r
      · go_wp2
        go_ret
        exact ⟨⟨false, rfl, ⟨fun h => (by cases h), fun h => by have := h r (List.mem_of_getElem? Hr.out); rw [hP] at this; cases this⟩⟩, Hb1.out⟩
      · go_wp2
        exact ⟨⟨k + 1, by omega, by go_num, (fun j q hj hq => by
          by_cases e : j = k
          · subst e; have hh := Hr.out; rw [hh] at hq; cases hq; exact hP
          · exact Ha.out j q (by omega) hq), Hb1.out⟩, by simp [intOf]; omega⟩
    · go_wp2
      go_ret
      exact ⟨⟨true, rfl, ⟨fun _ r hr => by
        obtain ⟨j, hj⟩ := List.getElem?_of_mem hr
        have hjl : j < rs.length := (List.getElem?_eq_some_iff.1 hj).1
        exact Ha.out j r (by omega) hj, fun _ => rfl⟩⟩, hB⟩

theorem name_any (r : WantD) (w : World) :
    Calls Tryz.prog 65 #[.agg #[.string r.c, .int .i64 r.v, .string r.h, .int .i64 r.p, .int .i64 r.s, .int .i64 r.d, .int .i64 r.g]] w fun e w' => e = .returned (.string r.c) ∧ Below w.heap.size w w' := by
  go_enter Tryz.func65, Tryz.ntmps65
  go_wp2
  go_ret
  exact ⟨rfl, by repeat (first | exact Below.refl _ _ | refine bl_alloc ?_ _)⟩
/-- Ascending by their names, the first n. -/
def AscN (rs : List WantD) (n : Nat) : Prop := ∀ j q r, j + 1 < n → rs[j]? = some q → rs[j + 1]? = some r → Op.bytesLess q.c.toList r.c.toList = true
theorem AscN.step {rs : List WantD} {k : Nat} {q r : WantD} (h : AscN rs (k + 1)) (hq : rs[k]? = some q) (hr : rs[k + 1]? = some r) (hs : Op.bytesLess q.c.toList r.c.toList = true) : AscN rs (k + 1 + 1) := by
  intro j q' r' hj hq' hr'
  by_cases e : j = k
  · subst e; rw [hq] at hq'; rw [hr] at hr'; cases hq'; cases hr'; exact hs
  · exact h j q' r' (by omega) hq' hr'
theorem keepAsc {x w' : World} {b off m : Nat} {rs : List WantD} {r q : WantD} (hk : rs[m + 1]? = some r) (hq : rs[m]? = some q) (h1 : RowsAt x b off rs) (l1 : b < x.heap.size) (hb : Below x.heap.size x w') :
    Below x.heap.size x w' ∧ (w'.cell? ⟨b, off + (m + 1) * 7, none⟩ = some (.string r.c) ∧ w'.cell? ⟨b, off + (m + 1) * 7 + 1, none⟩ = some (.int .i64 r.v) ∧ w'.cell? ⟨b, off + (m + 1) * 7 + 2, none⟩ = some (.string r.h) ∧ w'.cell? ⟨b, off + (m + 1) * 7 + 3, none⟩ = some (.int .i64 r.p) ∧ w'.cell? ⟨b, off + (m + 1) * 7 + 4, none⟩ = some (.int .i64 r.s) ∧ w'.cell? ⟨b, off + (m + 1) * 7 + 5, none⟩ = some (.int .i64 r.d) ∧ w'.cell? ⟨b, off + (m + 1) * 7 + 6, none⟩ = some (.int .i64 r.g)) ∧ (w'.cell? ⟨b, off + m * 7, none⟩ = some (.string q.c) ∧ w'.cell? ⟨b, off + m * 7 + 1, none⟩ = some (.int .i64 q.v) ∧ w'.cell? ⟨b, off + m * 7 + 2, none⟩ = some (.string q.h) ∧ w'.cell? ⟨b, off + m * 7 + 3, none⟩ = some (.int .i64 q.p) ∧ w'.cell? ⟨b, off + m * 7 + 4, none⟩ = some (.int .i64 q.s) ∧ w'.cell? ⟨b, off + m * 7 + 5, none⟩ = some (.int .i64 q.d) ∧ w'.cell? ⟨b, off + m * 7 + 6, none⟩ = some (.int .i64 q.g)) := ⟨hb, (h1.keep l1 hb).at hk, (h1.keep l1 hb).at hq⟩

set_option maxRecDepth 4000 in
set_option maxHeartbeats 2000000 in
theorem ascends (b off cap : Nat) (rs : List WantD) (w : World) (hR : RowsAt w b off rs) (l1 : b < w.heap.size) (hl : rs.length ≤ 1048576) :
    Calls Tryz.prog 110 #[.slice (some ⟨b, off, none⟩) rs.length cap, .func (.func 65) #[] #[]] w fun e w' => (∃ q : Bool, e = .returned (.bool q) ∧ (q = true ↔ AscN rs rs.length)) ∧ Below w.heap.size w w' := by
  go_enter Tryz.func110, Tryz.ntmps110
  go_wp2
  go_loopw [5] (fun i wx => ∃ (m : Nat), m ≤ rs.length ∧ i = .int .i64 ((m : Int) + 1) ∧ Hid (AscN rs (m + 1)) ∧ Below w.heap.size w wx) (fun i _ => rs.length + 1 - (intOf i).toNat)
  case atStart => exact ⟨0, Nat.zero_le _, rfl, (fun j q r hj _ _ => by omega), Below.refl _ _⟩
  case round =>
    obtain ⟨m, hk, rfl, Ha, hB⟩ := hrel
    by_cases hlt : m + 1 < rs.length
    · obtain ⟨r, hr⟩ : ∃ r, rs[m + 1]? = some r := ⟨rs[m + 1], List.getElem?_eq_getElem hlt⟩
      obtain ⟨q, hq⟩ : ∃ q, rs[m]? = some q := ⟨rs[m], List.getElem?_eq_getElem (by omega)⟩
      have Hr : Hid _ := hr
      have Hq : Hid _ := hq
      clear hr hq
      have g1 := hR.keep l1 hB
      have z1 : b < wr.heap.size := Nat.lt_of_lt_of_le l1 hB.size
      have i0 : (0 : Int) ≤ (m : Int) := by omega
      have i1 : (m : Int) + 1 < (rs.length : Int) := by omega
      have i2 : (m : Int) < (rs.length : Int) := by omega
      have i3 : (0 : Int) ≤ (m : Int) + 1 := by omega
      have iw : IntKind.i64.wrap (m : Int) = (m : Int) := by rw [IntKind.wrap_i64]; omega
      cases hasc : Op.bytesLess q.c.toList r.c.toList
      · go_wp2_with fail
        go_region_held3 (fun w' => Below wr.heap.size wr w' ∧ (w'.cell? ⟨b, off + (m + 1) * 7, none⟩ = some (.string r.c) ∧ w'.cell? ⟨b, off + (m + 1) * 7 + 1, none⟩ = some (.int .i64 r.v) ∧ w'.cell? ⟨b, off + (m + 1) * 7 + 2, none⟩ = some (.string r.h) ∧ w'.cell? ⟨b, off + (m + 1) * 7 + 3, none⟩ = some (.int .i64 r.p) ∧ w'.cell? ⟨b, off + (m + 1) * 7 + 4, none⟩ = some (.int .i64 r.s) ∧ w'.cell? ⟨b, off + (m + 1) * 7 + 5, none⟩ = some (.int .i64 r.d) ∧ w'.cell? ⟨b, off + (m + 1) * 7 + 6, none⟩ = some (.int .i64 r.g)) ∧ (w'.cell? ⟨b, off + m * 7, none⟩ = some (.string q.c) ∧ w'.cell? ⟨b, off + m * 7 + 1, none⟩ = some (.int .i64 q.v) ∧ w'.cell? ⟨b, off + m * 7 + 2, none⟩ = some (.string q.h) ∧ w'.cell? ⟨b, off + m * 7 + 3, none⟩ = some (.int .i64 q.p) ∧ w'.cell? ⟨b, off + m * 7 + 4, none⟩ = some (.int .i64 q.s) ∧ w'.cell? ⟨b, off + m * 7 + 5, none⟩ = some (.int .i64 q.d) ∧ w'.cell? ⟨b, off + m * 7 + 6, none⟩ = some (.int .i64 q.g)))
          (first | exact keepAsc Hr.out Hq.out g1 z1 (bl_drew (Below.refl _ _)) | exact keepAsc Hr.out Hq.out g1 z1 (bl_trans (bl_drew (Below.refl _ _)) hx) | exact keepAsc Hr.out Hq.out g1 z1 (bl_trans (bl_trans (bl_drew (Below.refl _ _)) hx) hy))
          (first | (go_at_call 65; refine (name_any q _).mono ?_; rintro e w' ⟨rfl, hx⟩) | (go_at_call 65; refine (name_any r _).mono ?_; rintro e w'' ⟨rfl, hy⟩))
        have y1 := bl_trans (bl_trans (bl_drew (Below.refl _ wr)) hx) hy
        have Hb1 : Hid _ := bl_trans hB y1
        clear hx hy y1 hB g1
        go_wp2
        go_ret
        exact ⟨⟨false, rfl, ⟨fun h => (by cases h), fun h => by have := h m q r (by omega) Hq.out Hr.out; rw [hasc] at this; cases this⟩⟩, Hb1.out⟩
      · go_wp2_with fail
        go_region_held3 (fun w' => Below wr.heap.size wr w' ∧ (w'.cell? ⟨b, off + (m + 1) * 7, none⟩ = some (.string r.c) ∧ w'.cell? ⟨b, off + (m + 1) * 7 + 1, none⟩ = some (.int .i64 r.v) ∧ w'.cell? ⟨b, off + (m + 1) * 7 + 2, none⟩ = some (.string r.h) ∧ w'.cell? ⟨b, off + (m + 1) * 7 + 3, none⟩ = some (.int .i64 r.p) ∧ w'.cell? ⟨b, off + (m + 1) * 7 + 4, none⟩ = some (.int .i64 r.s) ∧ w'.cell? ⟨b, off + (m + 1) * 7 + 5, none⟩ = some (.int .i64 r.d) ∧ w'.cell? ⟨b, off + (m + 1) * 7 + 6, none⟩ = some (.int .i64 r.g)) ∧ (w'.cell? ⟨b, off + m * 7, none⟩ = some (.string q.c) ∧ w'.cell? ⟨b, off + m * 7 + 1, none⟩ = some (.int .i64 q.v) ∧ w'.cell? ⟨b, off + m * 7 + 2, none⟩ = some (.string q.h) ∧ w'.cell? ⟨b, off + m * 7 + 3, none⟩ = some (.int .i64 q.p) ∧ w'.cell? ⟨b, off + m * 7 + 4, none⟩ = some (.int .i64 q.s) ∧ w'.cell? ⟨b, off + m * 7 + 5, none⟩ = some (.int .i64 q.d) ∧ w'.cell? ⟨b, off + m * 7 + 6, none⟩ = some (.int .i64 q.g)))
          (first | exact keepAsc Hr.out Hq.out g1 z1 (bl_drew (Below.refl _ _)) | exact keepAsc Hr.out Hq.out g1 z1 (bl_trans (bl_drew (Below.refl _ _)) hx) | exact keepAsc Hr.out Hq.out g1 z1 (bl_trans (bl_trans (bl_drew (Below.refl _ _)) hx) hy))
          (first | (go_at_call 65; refine (name_any q _).mono ?_; rintro e w' ⟨rfl, hx⟩) | (go_at_call 65; refine (name_any r _).mono ?_; rintro e w'' ⟨rfl, hy⟩))
        have y1 := bl_trans (bl_trans (bl_drew (Below.refl _ wr)) hx) hy
        have Hb1 : Hid _ := bl_trans hB y1
        clear hx hy y1 hB g1
        go_wp2
        exact ⟨⟨m + 1, by omega, by go_num, Ha.out.step Hq.out Hr.out hasc, Hb1.out⟩, by simp [intOf]; omega⟩
    · go_wp2
      go_ret
      exact ⟨⟨true, rfl, ⟨fun _ j q r hj hq hr => Ha.out j q r (by omega) hq hr, fun _ => rfl⟩⟩, hB⟩
end Go.Proofs.YtiogkdafmgdbgaaGreat.W
