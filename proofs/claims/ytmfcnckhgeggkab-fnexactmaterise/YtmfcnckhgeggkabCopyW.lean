/- A list is copied by append. -/
import Derived.Test.YtmfcnckhgeggkabSlW
namespace Go.Proofs.Ytmfcnckhgeggkab.W
open Go.RowKit
set_option linter.unusedVariables false

theorem flat_cells {w : World} {g : Nat} {l : List WantD} (h : RowsAt w g 0 l) : ∀ j u, (flatR l)[j]? = some u → w.cell? ((⟨g, 0, none⟩ : Addr).add j) = some u := by
  intro j u hj
  have hlt : j < l.length * 7 := by rw [← flatR_len]; exact (List.getElem?_eq_some_iff.1 hj).1
  have hk : j / 7 < l.length := by omega
  have hr : j % 7 < 7 := Nat.mod_lt _ (by decide)
  have e : j / 7 * 7 + j % 7 = j := by omega
  have h1 := flatR_at l (j / 7) l[j / 7] (List.getElem?_eq_getElem hk) (j % 7) hr
  rw [e, hj] at h1
  have h2 := h (j / 7) l[j / 7] (List.getElem?_eq_getElem hk) (j % 7) u h1.symm
  rw [Addr.add_mid]
  rw [show 0 + j / 7 * 7 + j % 7 = 0 + j from by omega] at h2
  exact h2

set_option maxHeartbeats 1000000 in
theorem fresh (g cap : Nat) (l : List WantD) (w : World) (h : RowsAt w g 0 l) (hl : l.length ≤ 1048576) :
    Calls Try.prog 105 #[.slice (some ⟨g, 0, none⟩) l.length cap] w fun e w' => (∃ v, e = .returned v ∧ Sl w' v l w.heap.size) ∧ Below w.heap.size w w' := by
  obtain ⟨i0, hi, hz0, hz1, hz2⟩ := info_parts infoR
  go_enter Try.func105, Try.ntmps105
  go_wp2_with (at_builtin; refine wpList_append_own _ rfl _ _ 52 rfl w.heap.size 37 i0 _ 7 72 Try.underlying52 hi hz0 hz1 hz2 rfl (by decide) (.slice none 0 0) 0 [] rfl (World.ownsRow_nil _ _ _ _) ⟨g, 0, none⟩ l.length cap (flatR l) rfl (flatR_len l) (flat_cells h) (flatR_one l) (by unfold maxLen; omega) (by omega) (Nat.le_refl _) ?_; intro v' w1 ho1 hg1 hn1)
  go_ret
  have ho2 : w1.ownsRow w.heap.size 37 7 v' l.length (flatR l) := by simpa using ho1
  exact ⟨⟨v', rfl, Sl.of_owns ho2⟩, Below.grown (Below.refl _ _) hg1 (Nat.le_refl _) (fun j hj => by cases hj)⟩
end Go.Proofs.Ytmfcnckhgeggkab.W
