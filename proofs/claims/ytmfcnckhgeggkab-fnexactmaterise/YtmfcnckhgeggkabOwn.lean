/- A list of runs in a row that the call itself made. -/
import Derived.Test.YtmfcnckhgeggkabExR
import Derived.Laws.AppendOwn
namespace Go.Proofs.Ytmfcnckhgeggkab
open Go.RowKit
set_option linter.unusedVariables false

def flatR (rs : List RunD) : List Value := rs.flatMap RunD.cells
theorem flatR_len : ∀ rs : List RunD, (flatR rs).length = rs.length * 11
  | [] => rfl
  | r :: rs => by
    have := flatR_len rs
    simp only [flatR, List.flatMap_cons, List.length_append] at this ⊢
    simp only [this, List.length_cons]
    show 11 + rs.length * 11 = _
    omega
theorem flatR_snoc (rs : List RunD) (r : RunD) : flatR (rs ++ [r]) = flatR rs ++ r.cells := by simp [flatR]
theorem flatR_at : ∀ (rs : List RunD) (k : Nat) (r : RunD), rs[k]? = some r → ∀ j, j < 11 → (flatR rs)[k * 11 + j]? = r.cells[j]?
  | [], k, r, h, j, hj => by simp at h
  | q :: rs, 0, r, h, j, hj => by
    simp at h; subst h
    rw [flatR, List.flatMap_cons, List.getElem?_append_left (by show _ < 11; omega)]
    simp
  | q :: rs, k + 1, r, h, j, hj => by
    have ih := flatR_at rs k r (by simpa using h) j hj
    rw [flatR, List.flatMap_cons, List.getElem?_append_right (by show 11 ≤ _; omega)]
    rw [← ih]
    show (flatR rs)[(k + 1) * 11 + j - 11]? = _
    rw [show (k + 1) * 11 + j - 11 = k * 11 + j from by omega]
theorem flatR_one (rs : List RunD) : ∀ u ∈ flatR rs, u.oneCell' = true := by
  intro u hu
  obtain ⟨r, -, h⟩ := List.mem_flatMap.1 hu
  simp [RunD.cells] at h
  rcases h with rfl | rfl | rfl | rfl | rfl | rfl | rfl | rfl | rfl | rfl | rfl <;> rfl

theorem rows_of_owns {w : World} {base : Nat} {v : Value} {rs : List RunD} (h : w.ownsRow base 39 11 v rs.length (flatR rs)) :
    (v = .slice none 0 0 ∧ rs = []) ∨ ∃ g cap, v = .slice (some ⟨g, 0, none⟩) rs.length cap ∧ base ≤ g ∧ g < w.heap.size ∧ RowsAt w g 0 rs ∧ w.there g 0 (rs.length * 11) := by
  obtain ⟨hl, ⟨rfl, hn⟩ | ⟨g, cap, cur, rfl, hb, hg, hnc, hcm, hcs, htk⟩⟩ := h
  · exact Or.inl ⟨rfl, List.length_eq_zero_iff.1 hn⟩
  · refine Or.inr ⟨g, cap, rfl, hb, (Array.getElem?_eq_some_iff.1 hg).1, ?_, ?_⟩
    · intro k r hk j u hj
      have hj11 : j < 11 := by
        rcases Nat.lt_or_ge j 11 with h' | h'
        · exact h'
        · rw [List.getElem?_eq_none (by simpa [RunD.cells] using h')] at hj; cases hj
      have hf := flatR_at rs k r hk j hj11
      rw [hj, ← htk, List.getElem?_take] at hf
      split at hf
      · rw [cell_of_row w g _ cur _ (0, 0) hg, Nat.zero_add]
        simpa using hf
      · cases hf
    · intro j hj
      have hlt : j < cur.size := by
        have : rs.length * 11 ≤ cap * 11 := Nat.mul_le_mul_right 11 hnc
        omega
      refine ⟨?_, ?_⟩
      · rw [cell_of_row w g _ cur _ (0, 0) hg, Nat.zero_add]
        simp [Array.getElem?_eq_getElem hlt]
      · simp [World.frozen?, hg]

theorem owns_below {x y : World} {base : Nat} {e : TypeId} {size : Nat} {v : Value} {n : Nat} {xs : List Value} (h : x.ownsRow base e size v n xs) (hb : Below x.heap.size x y) : y.ownsRow base e size v n xs :=
  h.kept (row := none) ⟨hb.os, hb.tape, hb.output, hb.size, fun k hk _ => hb.block k hk⟩ (by cases hv : v.ownBlock <;> simp)
theorem owns_ge {x : World} {base : Nat} {e : TypeId} {size : Nat} {v : Value} {n : Nat} {xs : List Value} (h : x.ownsRow base e size v n xs) : ∀ k, v.ownBlock = some k → base ≤ k := fun k hk => (h.lt k hk).1
theorem new_cells (x : World) (N : Nat) (hN : N = x.heap.size) (arr : Array Value) (t : TypeId) (vs : List Value) (hv : arr.toList = vs) : ∀ j u, vs[j]? = some u → (x.alloc (.cells arr t)).cell? ((⟨N, 0, none⟩ : Addr).add j) = some u := by
  intro j u hj
  subst hN hv
  rw [Addr.add_mid, Nat.zero_add, World.cell?_alloc_new]
  simpa using hj
theorem cellsR_one (r : RunD) : ∀ u ∈ r.cells, u.oneCell' = true := fun u hu => flatR_one [r] u (by simpa [flatR] using hu)
theorem infoR : (Try.prog.info? 39).map (fun i => (i.zero, i.size, i.bytes)) = some (some (.agg #[.string ⟨#[]⟩, .int .i64 0, .string ⟨#[]⟩, .int .i64 0, .int .i64 0, .int .i64 0, .int .i64 0, .int .i64 0, .int .i64 0, .int .i64 0, .int .i64 0]), 11, 104) := by kernel_rfl
end Go.Proofs.Ytmfcnckhgeggkab
