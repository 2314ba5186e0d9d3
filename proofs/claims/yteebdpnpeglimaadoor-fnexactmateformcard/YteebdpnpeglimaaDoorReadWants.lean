/- What the reading of a list of wants says of memory. -/
import Derived.Test.YteebdpnpeglimaaDoorWRows1
import Derived.Test.YteebdpnpeglimaaDoorRead
import Derived.ChangeOld
namespace Go.Proofs.YteebdpnpeglimaaDoor.W
open Go.ChangeShapes Go.WideShapes Go.ChangeAt Go.RowKit

theorem exists_list {α : Type} (P : Nat → α → Prop) : ∀ (n : Nat), (∀ i, i < n → ∃ r, P i r) → ∃ rs : List α, rs.length = n ∧ ∀ i r, rs[i]? = some r → P i r
  | 0, _ => ⟨[], rfl, fun i r h => by simp at h⟩
  | n + 1, h => by
    obtain ⟨rs, hl, hr⟩ := exists_list P n (fun i hi => h i (by omega))
    obtain ⟨r, hp⟩ := h n (by omega)
    refine ⟨rs ++ [r], by simp [hl], fun i q hq => ?_⟩
    rcases Nat.lt_or_ge i n with hi | hi
    · rw [List.getElem?_append_left (by omega)] at hq; exact hr i q hq
    · rw [List.getElem?_append_right (by omega)] at hq
      by_cases e : i = n
      · subst e; simp [hl] at hq; subst hq; exact hp
      · rw [List.getElem?_eq_none (by simp; omega)] at hq; cases hq

section
variable {H : Type} {enc : TypeId × Value → H} {W : World} {base : Nat} {spare : Nat → Bool} {held : Bool} {fuel : Nat} {cs : List Value} {x : DataW H × List MemPlace}

/-- A list of wants that came in: it is empty, or lies in a block of old memory. -/
theorem read_wants (hx : DataW.trod enc Tryd.prog W base spare held fuel 22 cs = some x) :
    (∃ (a : Option Addr) (cap : Nat), cs = [.slice a 0 cap]) ∨
    ∃ (b off cap : Nat) (rs : List WantD), cs = [.slice (some ⟨b, off, none⟩) rs.length cap] ∧ 0 < rs.length ∧ rs.length ≤ maxLen ∧ b < W.heap.size ∧ RowsAt W b off rs ∧ ∀ r ∈ rs, r.fits := by
  rcases DataW.trod_slice Tryd.underlying22 hx with ⟨hcs, -⟩ | ⟨a, len, cap, elems, rest, n, -, hcs, -, hb, hlc, hcm, hel, hat, -⟩
  · exact Or.inl ⟨none, 0, hcs⟩
  by_cases h0 : len = 0
  · subst h0; exact Or.inl ⟨some a, cap, hcs⟩
  refine Or.inr ?_
  rw [cells_want] at hat
  have hall : ∀ i, i < len → ∃ r : WantD, W.cells? base (a.add (i * 7)) 7 = some r.cells ∧ r.fits := by
    intro i hi
    have h1 := hat i hi
    rw [List.getElem?_eq_getElem (by omega)] at h1
    obtain ⟨ws, hw, ht⟩ := Option.bind_eq_some_iff.1 h1
    obtain ⟨c, v, h, p, s, d, g, rfl, w0, w1, -⟩ := read_want ht
    exact ⟨⟨c, h, v, p, s, d, g⟩, hw, w0, w1⟩
  obtain ⟨rs, hlen, hrs⟩ := exists_list _ len hall
  have hcell : ∀ i r, rs[i]? = some r → ∀ j v, r.cells[j]? = some v → W.cell? ((a.add (i * 7)).add j) = some v := by
    intro i r hr j v hj
    obtain ⟨hw, -⟩ := hrs i r hr
    have hlt : j < 7 := by
      rcases Nat.lt_or_ge j 7 with h' | h'
      · exact h'
      · rw [List.getElem?_eq_none (by simpa [WantD.cells] using h')] at hj; cases hj
    have h2 := (World.cells?_some hw).2.2 j hlt
    rw [h2, hj]
  obtain ⟨r0, hr0⟩ : ∃ r, rs[0]? = some r := ⟨rs[0]'(by omega), List.getElem?_eq_getElem (by omega)⟩
  have hc0 := hcell 0 r0 hr0 0 (.string r0.c) rfl
  obtain ⟨b, off, spot⟩ := a
  have hspot : spot = none := by
    have := World.cell?_spot hc0
    simpa [Addr.add] using this
  subst hspot
  have hblk : b < W.heap.size := World.cells?_block (hrs 0 r0 hr0).1 (by omega)
  refine ⟨b, off, cap, rs, by rw [hlen]; exact hcs, by omega, by omega, hblk, fun i r hr j v hj => ?_, fun r hr => ?_⟩
  · have := hcell i r hr j v hj
    rw [Addr.add_mid, Addr.add_mid] at this
    exact this
  · obtain ⟨i, hi⟩ := List.getElem?_of_mem hr
    exact (hrs i r hi).2
end
end Go.Proofs.YteebdpnpeglimaaDoor.W
