/- A list in a row of the call's own, or nil. -/
import Derived.Test.YtmfcnckhgeggkabOwn
import Derived.Test.YtmfcnckhgeggkabRows3
import Derived.Test.YtmfcnckhgeggkabHeldR
namespace Go.Proofs.Ytmfcnckhgeggkab
open Go.RowKit
set_option linter.unusedVariables false

/-- The value v shows the list l: it is nil and the list empty, or the list lies in a block from B on, which may be written. -/
def Sl (w : World) (v : Value) (l : List RunD) (B : Nat) : Prop := (v = .slice none 0 0 ∧ l = []) ∨ ∃ g cap, v = .slice (some ⟨g, 0, none⟩) l.length cap ∧ B ≤ g ∧ g < w.heap.size ∧ RowsAt w g 0 l ∧ w.there g 0 (l.length * 11)
theorem Sl.of_owns {w : World} {v : Value} {l : List RunD} {B : Nat} (h : w.ownsRow B 39 11 v l.length (flatR l)) : Sl w v l B := rows_of_owns h
theorem Sl.grown {w w' : World} {v : Value} {l : List RunD} {B : Nat} {row : Option Nat} (h : Sl w v l B) (hg : w.grownBy w' row) (hne : v.ownBlock = none ∨ v.ownBlock ≠ row) : Sl w' v l B := by
  rcases h with h | ⟨g, cap, rfl, h1, h2, h3, h4⟩
  · exact Or.inl h
  · have hn : some g ≠ row := by simpa [Value.ownBlock] using hne
    have hc : ∀ o, w'.cell? ⟨g, o, none⟩ = w.cell? ⟨g, o, none⟩ := fun o => World.cell?_of_block (w := w) (a := ⟨g, o, none⟩) (hg.block g h2 hn)
    have hfz : ∀ o, w'.frozen? ⟨g, o, none⟩ = w.frozen? ⟨g, o, none⟩ := fun o => World.frozen?_of_block (w := w) (a := ⟨g, o, none⟩) (hg.block g h2 hn)
    exact Or.inr ⟨g, cap, rfl, h1, Nat.lt_of_lt_of_le h2 hg.size, fun k r hk j v hj => (hc _).trans (h3 k r hk j v hj), fun j hj => ⟨by rw [hc]; exact (h4 j hj).1, by rw [hfz]; exact (h4 j hj).2⟩⟩
theorem Sl.keep {w w' : World} {v : Value} {l : List RunD} {B : Nat} (h : Sl w v l B) (hb : Below w.heap.size w w') : Sl w' v l B :=
  h.grown (row := none) ⟨hb.os, hb.tape, hb.output, hb.size, fun k hk _ => hb.block k hk⟩ (by cases hv : v.ownBlock <;> simp)
theorem Sl.lt {w : World} {v : Value} {l : List RunD} {B : Nat} (h : Sl w v l B) : ∀ g, v.ownBlock = some g → B ≤ g ∧ g < w.heap.size := by
  rcases h with ⟨rfl, -⟩ | ⟨g, cap, rfl, h1, h2, -⟩
  · intro g hg; simp [Value.ownBlock] at hg
  · intro g' hg; simp [Value.ownBlock] at hg; subst hg; exact ⟨h1, h2⟩
theorem ex_grown {w w' : World} {kr : Nat} (h : Ex kr w w') : w.grownBy w' (some kr) := ⟨h.os, h.tape, h.output, h.size, fun k hk hne => h.block k hk (fun e => hne (by rw [e]))⟩

theorem eq_zero (a1 a2 : Option Addr) (c1 c2 : Nat) (w : World) :
    Calls Try.prog 13 #[.slice a1 0 c1, .slice a2 0 c2] w fun e w' => e = .returned (.bool true) ∧ w' = w := by
  go_enter Try.func13, Try.ntmps13
  go_wp2
  refine wp_loop_rounds 1 ?_
  rw [rounds_succ]
  go_wp2
  go_ret
  exact ⟨rfl, rfl⟩
theorem eq_sl {w : World} {v1 v2 : Value} {l : List RunD} {B1 B2 : Nat} (h1 : Sl w v1 l B1) (h2 : Sl w v2 l B2) (hl : l.length ≤ 1048576) :
    Calls Try.prog 13 #[v1, v2] w fun e w' => e = .returned (.bool true) ∧ Below w.heap.size w w' := by
  have z : ∀ (a1 a2 : Option Addr) (c1 c2 : Nat), Calls Try.prog 13 #[.slice a1 0 c1, .slice a2 0 c2] w fun e w' => e = .returned (.bool true) ∧ Below w.heap.size w w' := fun a1 a2 c1 c2 => (eq_zero a1 a2 c1 c2 w).mono (by rintro e w' ⟨rfl, rfl⟩; exact ⟨rfl, Below.refl _ _⟩)
  rcases h1 with ⟨rfl, rfl⟩ | ⟨g1, cap1, rfl, -, k2, k3, -⟩
  · rcases h2 with ⟨rfl, -⟩ | ⟨g2, cap2, rfl, -, m2, m3, -⟩
    · exact z _ _ _ _
    · exact z _ _ _ _
  · rcases h2 with ⟨rfl, rfl⟩ | ⟨g2, cap2, rfl, -, m2, m3, -⟩
    · exact z _ _ _ _
    · exact eqRunS g1 0 cap1 g2 0 cap2 l w k3 m3 k2 m2 hl
theorem mark_zero (a : Option Addr) (c : Nat) (k : Int) (w : World) : Calls Try.prog 16 #[.slice a 0 c, .int .i64 k] w fun e w' => e = .returned (.int .i64 k) ∧ w' = w := by
  go_enter Try.func16, Try.ntmps16
  go_wp2
  refine wp_loop_rounds 1 ?_
  rw [rounds_succ]
  go_wp2
  go_ret
  exact ⟨rfl, rfl⟩
theorem held_zero (a : Option Addr) (c : Nat) (k : Int) (w : World) : Calls Try.prog 17 #[.slice a 0 c, .int .i64 k] w fun e w' => e = .returned (.int .i64 k) ∧ w' = w := by
  go_enter Try.func17, Try.ntmps17
  go_wp2
  refine wp_loop_rounds 1 ?_
  rw [rounds_succ]
  go_wp2
  go_ret
  exact ⟨rfl, rfl⟩
theorem mark_sl {w : World} {v : Value} {l : List RunD} {B : Nat} (h : Sl w v l B) (k0 : Int) (hl : l.length ≤ 1048576) (h0 : 0 ≤ k0) (h1 : k0 ≤ 1000000000) :
    Calls Try.prog 16 #[v, .int .i64 k0] w fun e w' => e = .returned (.int .i64 (k0 + 11 * (l.length : Int))) ∧ Sl w' v (markRuns k0 l.length) B ∧ w.grownBy w' v.ownBlock := by
  rcases h with ⟨rfl, rfl⟩ | ⟨g, cap, rfl, a1, a2, a3, a4⟩
  · refine (mark_zero none 0 k0 w).mono ?_
    rintro e w' ⟨rfl, rfl⟩
    exact ⟨by simp, Or.inl ⟨rfl, rfl⟩, ⟨rfl, rfl, rfl, Nat.le_refl _, fun _ _ _ => rfl⟩⟩
  · refine (markRunS g l.length cap k0 w a4 a2 hl h0 (by omega)).mono ?_
    rintro e w' ⟨rfl, b1, b2, b3⟩
    exact ⟨rfl, Or.inr ⟨g, cap, by rw [len_marks], a1, Nat.lt_of_lt_of_le a2 b3.size, b1, by rw [len_marks]; exact b2⟩, ex_grown b3⟩
theorem held_sl {w : World} {v : Value} {m : Nat} {B : Nat} (k0 : Int) (h : Sl w v (markRuns k0 m) B) (hl : m ≤ 1048576) (h0 : 0 ≤ k0) (h1 : k0 ≤ 1000000000) :
    Calls Try.prog 17 #[v, .int .i64 k0] w fun e w' => e = .returned (.int .i64 (k0 + 11 * (m : Int))) ∧ Below w.heap.size w w' := by
  rcases h with ⟨rfl, h⟩ | ⟨g, cap, rfl, a1, a2, a3, a4⟩
  · have hm : m = 0 := by have := congrArg List.length h; rw [len_marks] at this; simpa using this
    subst hm
    refine (held_zero none 0 k0 w).mono ?_
    rintro e w' ⟨rfl, rfl⟩
    exact ⟨by simp, Below.refl _ _⟩
  · rw [len_marks]
    exact heldRunS g m cap k0 w a3 a2 hl h0 (by omega)
end Go.Proofs.Ytmfcnckhgeggkab
