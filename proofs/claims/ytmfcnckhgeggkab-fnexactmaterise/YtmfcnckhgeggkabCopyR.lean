/- A list is copied by append. -/
import Derived.Test.YtmfcnckhgeggkabSlR
namespace Go.Proofs.Ytmfcnckhgeggkab
open Go.RowKit
set_option linter.unusedVariables false

theorem flat_cells {w : World} {g : Nat} {l : List RunD} (h : RowsAt w g 0 l) : ∀ j u, (flatR l)[j]? = some u → w.cell? ((⟨g, 0, none⟩ : Addr).add j) = some u := by
  intro j u hj
  have hlt : j < l.length * 11 := by rw [← flatR_len]; exact (List.getElem?_eq_some_iff.1 hj).1
  have hk : j / 11 < l.length := by omega
  have hr : j % 11 < 11 := Nat.mod_lt _ (by decide)
  have e : j / 11 * 11 + j % 11 = j := by omega
  have h1 := flatR_at l (j / 11) l[j / 11] (List.getElem?_eq_getElem hk) (j % 11) hr
  rw [e, hj] at h1
  have h2 := h (j / 11) l[j / 11] (List.getElem?_eq_getElem hk) (j % 11) u h1.symm
  rw [Addr.add_mid]
  rw [show 0 + j / 11 * 11 + j % 11 = 0 + j from by omega] at h2
  exact h2

set_option maxHeartbeats 1000000 in
theorem fresh (g cap : Nat) (l : List RunD) (w : World) (h : RowsAt w g 0 l) (hl : l.length ≤ 1048576) :
    Calls Try.prog 106 #[.slice (some ⟨g, 0, none⟩) l.length cap] w fun e w' => (∃ v, e = .returned v ∧ Sl w' v l w.heap.size) ∧ Below w.heap.size w w' := by
  obtain ⟨i0, hi, hz0, hz1, hz2⟩ := info_parts infoR
  go_enter Try.func106, Try.ntmps106
  go_wp2_with (at_builtin; refine wpList_append_own _ rfl _ _ 25 rfl w.heap.size 39 i0 _ 11 104 Try.underlying25 hi hz0 hz1 hz2 rfl (by decide) (.slice none 0 0) 0 [] rfl (World.ownsRow_nil _ _ _ _) ⟨g, 0, none⟩ l.length cap (flatR l) rfl (flatR_len l) (flat_cells h) (flatR_one l) (by unfold maxLen; omega) (by omega) (Nat.le_refl _) ?_; intro v' w1 ho1 hg1 hn1)
  go_ret
  have ho2 : w1.ownsRow w.heap.size 39 11 v' l.length (flatR l) := by simpa using ho1
  exact ⟨⟨v', rfl, Sl.of_owns ho2⟩, Below.grown (Below.refl _ _) hg1 (Nat.le_refl _) (fun j hj => by cases hj)⟩
end Go.Proofs.Ytmfcnckhgeggkab
