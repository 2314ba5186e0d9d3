/- What the walk of MateRise's law carries. -/
import Derived.Test.YtmfcnckhgeggkabRiseS
import Derived.Test.YtmfcnckhgeggkabMateT2
namespace Go.Proofs.Ytmfcnckhgeggkab
open Go.RowKit
set_option linter.unusedVariables false

theorem W.Sl.off {P : Nat → Prop} {w w' : World} {v : Value} {l : List W.WantD} {B : Nat} (h : W.Sl w v l B) (ho : Off P w w') (hn : ∀ g, v.ownBlock = some g → ¬ P g) : W.Sl w' v l B := by
  rcases h with h | ⟨g, cap, rfl, h1, h2, h3, h4⟩
  · exact Or.inl h
  · have hg : ¬ P g := hn g rfl
    have hc : ∀ o, w'.cell? ⟨g, o, none⟩ = w.cell? ⟨g, o, none⟩ := fun o => World.cell?_of_block (w := w) (a := ⟨g, o, none⟩) (ho.block g h2 hg)
    have hfz : ∀ o, w'.frozen? ⟨g, o, none⟩ = w.frozen? ⟨g, o, none⟩ := fun o => World.frozen?_of_block (w := w) (a := ⟨g, o, none⟩) (ho.block g h2 hg)
    exact Or.inr ⟨g, cap, rfl, h1, Nat.lt_of_lt_of_le h2 ho.size, fun k r hk j v hj => (hc _).trans (h3 k r hk j v hj), fun j hj => ⟨by rw [hc]; exact (h4 j hj).1, by rw [hfz]; exact (h4 j hj).2⟩⟩
theorem W.Sl.at_ {w : World} {b : Nat} {l : List W.WantD} {B : Nat} (h : W.Sl w (.slice (some ⟨b, 0, none⟩) l.length l.length) l B) : W.RowsAt w b 0 l ∧ b < w.heap.size := by
  rcases h with ⟨h, -⟩ | ⟨g, cap, h0, h1, h2, h3, h4⟩
  · cases h
  · cases h0; exact ⟨h3, h2⟩
theorem Sl.off {P : Nat → Prop} {w w' : World} {v : Value} {l : List RunD} {B : Nat} (h : Sl w v l B) (ho : Off P w w') (hn : ∀ g, v.ownBlock = some g → ¬ P g) : Sl w' v l B := by
  rcases h with h | ⟨g, cap, rfl, h1, h2, h3, h4⟩
  · exact Or.inl h
  · have hg : ¬ P g := hn g rfl
    have hc : ∀ o, w'.cell? ⟨g, o, none⟩ = w.cell? ⟨g, o, none⟩ := fun o => World.cell?_of_block (w := w) (a := ⟨g, o, none⟩) (ho.block g h2 hg)
    have hfz : ∀ o, w'.frozen? ⟨g, o, none⟩ = w.frozen? ⟨g, o, none⟩ := fun o => World.frozen?_of_block (w := w) (a := ⟨g, o, none⟩) (ho.block g h2 hg)
    exact Or.inr ⟨g, cap, rfl, h1, Nat.lt_of_lt_of_le h2 ho.size, fun k r hk j v hj => (hc _).trans (h3 k r hk j v hj), fun j hj => ⟨by rw [hc]; exact (h4 j hj).1, by rw [hfz]; exact (h4 j hj).2⟩⟩
theorem Sl.at_ {w : World} {b : Nat} {l : List RunD} {B : Nat} (h : Sl w (.slice (some ⟨b, 0, none⟩) l.length l.length) l B) : RowsAt w b 0 l ∧ b < w.heap.size := by
  rcases h with ⟨h, -⟩ | ⟨g, cap, h0, h1, h2, h3, h4⟩
  · cases h
  · cases h0; exact ⟨h3, h2⟩
theorem A.Sl.off {P : Nat → Prop} {w w' : World} {v : Value} {l : List A.AskD} {B : Nat} (h : A.Sl w v l B) (ho : Off P w w') (hn : ∀ g, v.ownBlock = some g → ¬ P g) : A.Sl w' v l B := by
  rcases h with h | ⟨g, cap, rfl, h1, h2, h3, h4⟩
  · exact Or.inl h
  · have hg : ¬ P g := hn g rfl
    have hc : ∀ o, w'.cell? ⟨g, o, none⟩ = w.cell? ⟨g, o, none⟩ := fun o => World.cell?_of_block (w := w) (a := ⟨g, o, none⟩) (ho.block g h2 hg)
    have hfz : ∀ o, w'.frozen? ⟨g, o, none⟩ = w.frozen? ⟨g, o, none⟩ := fun o => World.frozen?_of_block (w := w) (a := ⟨g, o, none⟩) (ho.block g h2 hg)
    exact Or.inr ⟨g, cap, rfl, h1, Nat.lt_of_lt_of_le h2 ho.size, fun k r hk j v hj => (hc _).trans (h3 k r hk j v hj), fun j hj => ⟨by rw [hc]; exact (h4 j hj).1, by rw [hfz]; exact (h4 j hj).2⟩⟩
theorem A.Sl.at_ {w : World} {b : Nat} {l : List A.AskD} {B : Nat} (h : A.Sl w (.slice (some ⟨b, 0, none⟩) l.length l.length) l B) : A.RowsAt w b 0 l ∧ b < w.heap.size := by
  rcases h with ⟨h, -⟩ | ⟨g, cap, h0, h1, h2, h3, h4⟩
  · cases h
  · cases h0; exact ⟨h3, h2⟩
theorem SlM.off {P : Nat → Prop} {w w' : World} {m : MateD} {s1 s2 s3 s4 : Value} {B : Nat} (h : SlM w m s1 s2 s3 s4 B) (ho : Off P w w') (hn : ∀ j, (s1.ownBlock = some j ∨ s2.ownBlock = some j ∨ s3.ownBlock = some j ∨ s4.ownBlock = some j) → ¬ P j) : SlM w' m s1 s2 s3 s4 B :=
  ⟨h.a1.off ho (fun g hg => hn g (Or.inl hg)), h.a2.off ho (fun g hg => hn g (Or.inr (Or.inl hg))), h.a3.off ho (fun g hg => hn g (Or.inr (Or.inr (Or.inl hg)))), h.a4.off ho (fun g hg => hn g (Or.inr (Or.inr (Or.inr hg)))), h.d12, h.d13, h.d14, h.d23, h.d24, h.d34⟩
theorem lists_of {w : World} {m : MateD} {b1 b2 b3 b4 B : Nat} (h : SlM w m (.slice (some ⟨b1, 0, none⟩) m.ws.length m.ws.length) (.slice (some ⟨b2, 0, none⟩) m.rs.length m.rs.length) (.slice (some ⟨b3, 0, none⟩) m.qs.length m.qs.length) (.slice (some ⟨b4, 0, none⟩) m.gs.length m.gs.length) B) : Lists w m b1 b2 b3 b4 :=
  ⟨h.a1.at_.1, h.a2.at_.1, h.a3.at_.1, h.a4.at_.1, h.a1.at_.2, h.a2.at_.2, h.a3.at_.2, h.a4.at_.2⟩
/-- A box of the call's own. -/
structure Bx (y : World) (b : Nat) (O : Array Value) : Prop where
  c : ∀ k, y.cell? ⟨b, k, none⟩ = O[k]?
  l : b < y.heap.size
theorem Bx.keep {y z : World} {b : Nat} {O : Array Value} (h : Bx y b O) (hb : Below y.heap.size y z) : Bx z b O :=
  ⟨fun k => (hb.cell (p := ⟨b, k, none⟩) h.l).trans (h.c k), Nat.lt_of_lt_of_le h.l hb.size⟩
theorem Bx.off {P : Nat → Prop} {y z : World} {b : Nat} {O : Array Value} (h : Bx y b O) (ho : Off P y z) (hn : ¬ P b) : Bx z b O :=
  ⟨fun k => (ho.cell (p := ⟨b, k, none⟩) h.l hn).trans (h.c k), Nat.lt_of_lt_of_le h.l ho.size⟩
theorem Bx.new (y : World) (O : Array Value) (t : TypeId) : Bx (y.alloc (.cells O t)) y.heap.size O :=
  ⟨fun k => by simp [go_sem], by simp⟩
theorem bl_off {P : Nat → Prop} {w y z : World} (h : Below w.heap.size w y) (ho : Off P y z) (hP : ∀ j, P j → w.heap.size ≤ j) : Below w.heap.size w z := h.trans (ho.below hP h.size)
theorem lens_rise {m r : MateD} (h : Rises m r) (hl : Lens m) : Lens r := by
  rcases h with ⟨-, rfl⟩ | ⟨-, rfl⟩
  · exact ⟨hl.k1, hl.k2, hl.k3, hl.k4⟩
  · exact ⟨by simp [zeroD], by simp [zeroD], by simp [zeroD], by simp [zeroD]⟩
end Go.Proofs.Ytmfcnckhgeggkab
