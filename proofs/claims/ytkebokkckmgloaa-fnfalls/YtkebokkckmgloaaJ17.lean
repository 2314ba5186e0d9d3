import Derived.Test.YtkebokkckmgloaaJ16
import Derived.Test.YtkebokkckmgloaaJ07
import Derived.Test.YtkebokkckmgloaaJ14
/- A list is copied by append. -/
namespace Go.Proofs.Ytkebokkckmgloaa.W
open Go.RowKit
set_option linter.unusedVariables false

set_option maxHeartbeats 1000000 in
theorem fresh (g cap : Nat) (l : List WantD) (w : World) (h : RowsAt w g 0 l) (hl : l.length ≤ 1048576) :
    Calls Try.prog 126 #[.slice (some ⟨g, 0, none⟩) l.length cap] w fun e w' => (∃ v, e = .returned v ∧ Sl w' v l w.heap.size) ∧ Below w.heap.size w w' := by
  obtain ⟨i0, hi, hz0, hz1, hz2⟩ := info_parts infoR
  go_enter Try.func126, Try.ntmps126
  go_wp2_with (at_builtin; refine wpList_append_own _ rfl _ _ 23 rfl w.heap.size 36 i0 _ 7 72 Try.underlying23 hi hz0 hz1 hz2 rfl (by decide) (.slice none 0 0) 0 [] rfl (World.ownsRow_nil _ _ _ _) ⟨g, 0, none⟩ l.length cap (flatR l) rfl (flatR_len l) (flat_cells h) (flatR_one l) (by unfold maxLen; omega) (by omega) (Nat.le_refl _) ?_; intro v' w1 ho1 hg1 hn1)
  go_ret
  have ho2 : w1.ownsRow w.heap.size 36 7 v' l.length (flatR l) := by simpa using ho1
  exact ⟨⟨v', rfl, Sl.of_owns ho2⟩, Below.grown (Below.refl _ _) hg1 (Nat.le_refl _) (fun j hj => by cases hj)⟩
end Go.Proofs.Ytkebokkckmgloaa.W
/- A list's cells, one behind the other. -/
namespace Go.Proofs.Ytkebokkckmgloaa.A
open Go.RowKit
set_option linter.unusedVariables false

theorem flat_cells {w : World} {g : Nat} {l : List AskD} (h : RowsAt w g 0 l) : ∀ j u, (flatR l)[j]? = some u → w.cell? ((⟨g, 0, none⟩ : Addr).add j) = some u := by
  intro j u hj
  have hlt : j < l.length * 4 := by rw [← flatR_len]; exact (List.getElem?_eq_some_iff.1 hj).1
  have hk : j / 4 < l.length := by omega
  have hr : j % 4 < 4 := Nat.mod_lt _ (by decide)
  have e : j / 4 * 4 + j % 4 = j := by omega
  have h1 := flatR_at l (j / 4) l[j / 4] (List.getElem?_eq_getElem hk) (j % 4) hr
  rw [e, hj] at h1
  have h2 := h (j / 4) l[j / 4] (List.getElem?_eq_getElem hk) (j % 4) u h1.symm
  rw [Addr.add_mid]
  rw [show 0 + j / 4 * 4 + j % 4 = 0 + j from by omega] at h2
  exact h2
end Go.Proofs.Ytkebokkckmgloaa.A
/- A list is copied by append. -/
namespace Go.Proofs.Ytkebokkckmgloaa.A
open Go.RowKit
set_option linter.unusedVariables false

set_option maxHeartbeats 1000000 in
theorem fresh (g cap : Nat) (l : List AskD) (w : World) (h : RowsAt w g 0 l) (hl : l.length ≤ 1048576) :
    Calls Try.prog 128 #[.slice (some ⟨g, 0, none⟩) l.length cap] w fun e w' => (∃ v, e = .returned v ∧ Sl w' v l w.heap.size) ∧ Below w.heap.size w w' := by
  obtain ⟨i0, hi, hz0, hz1, hz2⟩ := info_parts infoR
  go_enter Try.func128, Try.ntmps128
  go_wp2_with (at_builtin; refine wpList_append_own _ rfl _ _ 25 rfl w.heap.size 99 i0 _ 4 48 Try.underlying25 hi hz0 hz1 hz2 rfl (by decide) (.slice none 0 0) 0 [] rfl (World.ownsRow_nil _ _ _ _) ⟨g, 0, none⟩ l.length cap (flatR l) rfl (flatR_len l) (flat_cells h) (flatR_one l) (by unfold maxLen; omega) (by omega) (Nat.le_refl _) ?_; intro v' w1 ho1 hg1 hn1)
  go_ret
  have ho2 : w1.ownsRow w.heap.size 99 4 v' l.length (flatR l) := by simpa using ho1
  exact ⟨⟨v', rfl, Sl.of_owns ho2⟩, Below.grown (Below.refl _ _) hg1 (Nat.le_refl _) (fun j hj => by cases hj)⟩
end Go.Proofs.Ytkebokkckmgloaa.A
/- Lists of the call's own: their shapes, and that they lie apart. -/
namespace Go.Proofs.Ytkebokkckmgloaa
open Go.RowKit
set_option linter.unusedVariables false

theorem W.Sl.low {w : World} {v : Value} {l : List W.WantD} {B B' : Nat} (h : W.Sl w v l B) (hB : B' ≤ B) : W.Sl w v l B' := by
  rcases h with h | ⟨g, cap, h0, h1, h2, h3, h4⟩
  · exact Or.inl h
  · exact Or.inr ⟨g, cap, h0, Nat.le_trans hB h1, h2, h3, h4⟩
theorem W.Sl.shape {w : World} {v : Value} {l : List W.WantD} {B : Nat} (h : W.Sl w v l B) : ∃ a c, v = .slice a l.length c := by
  rcases h with ⟨rfl, rfl⟩ | ⟨g, cap, rfl, -⟩
  · exact ⟨none, 0, rfl⟩
  · exact ⟨_, _, rfl⟩
theorem W.Sl.one {w : World} {v : Value} {l : List W.WantD} {B : Nat} (h : W.Sl w v l B) : v.oneCell' = true := by
  rcases h with ⟨rfl, -⟩ | ⟨g, cap, rfl, -⟩ <;> rfl
theorem Sl.low {w : World} {v : Value} {l : List RunD} {B B' : Nat} (h : Sl w v l B) (hB : B' ≤ B) : Sl w v l B' := by
  rcases h with h | ⟨g, cap, h0, h1, h2, h3, h4⟩
  · exact Or.inl h
  · exact Or.inr ⟨g, cap, h0, Nat.le_trans hB h1, h2, h3, h4⟩
theorem Sl.shape {w : World} {v : Value} {l : List RunD} {B : Nat} (h : Sl w v l B) : ∃ a c, v = .slice a l.length c := by
  rcases h with ⟨rfl, rfl⟩ | ⟨g, cap, rfl, -⟩
  · exact ⟨none, 0, rfl⟩
  · exact ⟨_, _, rfl⟩
theorem Sl.one {w : World} {v : Value} {l : List RunD} {B : Nat} (h : Sl w v l B) : v.oneCell' = true := by
  rcases h with ⟨rfl, -⟩ | ⟨g, cap, rfl, -⟩ <;> rfl
theorem A.Sl.low {w : World} {v : Value} {l : List A.AskD} {B B' : Nat} (h : A.Sl w v l B) (hB : B' ≤ B) : A.Sl w v l B' := by
  rcases h with h | ⟨g, cap, h0, h1, h2, h3, h4⟩
  · exact Or.inl h
  · exact Or.inr ⟨g, cap, h0, Nat.le_trans hB h1, h2, h3, h4⟩
theorem A.Sl.shape {w : World} {v : Value} {l : List A.AskD} {B : Nat} (h : A.Sl w v l B) : ∃ a c, v = .slice a l.length c := by
  rcases h with ⟨rfl, rfl⟩ | ⟨g, cap, rfl, -⟩
  · exact ⟨none, 0, rfl⟩
  · exact ⟨_, _, rfl⟩
theorem A.Sl.one {w : World} {v : Value} {l : List A.AskD} {B : Nat} (h : A.Sl w v l B) : v.oneCell' = true := by
  rcases h with ⟨rfl, -⟩ | ⟨g, cap, rfl, -⟩ <;> rfl
theorem ones (m : MateD) {w1 w2 w3 w4 : World} {a1 a2 a3 a4 : Option Addr} {p1 p2 p3 p4 B1 B2 B3 B4 : Nat} (h1 : W.Sl w1 (.slice a1 m.ws.length p1) m.ws B1) (h2 : Sl w2 (.slice a2 m.rs.length p2) m.rs B2) (h3 : A.Sl w3 (.slice a3 m.qs.length p3) m.qs B3) (h4 : A.Sl w4 (.slice a4 m.gs.length p4) m.gs B4) : ∀ u ∈ ([.string m.nm, .bool m.up, .int .i64 m.ck, .bool m.kn, .int .i64 m.se, (.slice a1 m.ws.length p1), (.slice a2 m.rs.length p2), (.slice a3 m.qs.length p3), (.slice a4 m.gs.length p4)] : List Value), u.oneCell' = true := by
  intro u hu
  simp only [List.mem_cons, List.not_mem_nil, or_false] at hu
  rcases hu with rfl | rfl | rfl | rfl | rfl | rfl | rfl | rfl | rfl
  · rfl
  · rfl
  · rfl
  · rfl
  · rfl
  · exact W.Sl.one h1
  · exact Sl.one h2
  · exact A.Sl.one h3
  · exact A.Sl.one h4
theorem ob_ne {v : Value} {N k : Nat} (h : ∀ g, v.ownBlock = some g → N < g) (hk : k ≤ N) : v.ownBlock = none ∨ v.ownBlock ≠ some k := by
  cases hv : v.ownBlock with
  | none => exact Or.inl rfl
  | some g => exact Or.inr (fun e => by cases e; have := h k hv; omega)
theorem dif_lt {a b : Value} {N N' : Nat} (h1 : ∀ g, a.ownBlock = some g → g < N) (h2 : ∀ g, b.ownBlock = some g → N' ≤ g) (h : N ≤ N') : Dif a b := by
  cases ha : a.ownBlock with
  | none => exact Or.inl ha
  | some g => exact Or.inr (fun e => by rw [ha] at e; have := h1 g ha; have := h2 g e.symm; omega)
end Go.Proofs.Ytkebokkckmgloaa
