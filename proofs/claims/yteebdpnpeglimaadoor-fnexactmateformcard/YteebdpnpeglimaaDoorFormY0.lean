/- A parcel's text: as the program's lines. -/
import Derived.Test.YteebdpnpeglimaaDoorFormX
import Derived.Test.YteebdpnpeglimaaDoorFormT
namespace Go.Proofs.YteebdpnpeglimaaDoor
open Go.RowKit
set_option linter.unusedVariables false

theorem ParIn.keep {w w' : World} {P : ParD} {g : Nat} (h : ParIn w P g) (hb : Below w.heap.size w w') : ParIn w' P g := ⟨h.b, h.h, h.c, h.l, h.f, h.r.keep h.g hb, Nat.lt_of_lt_of_le h.g hb.size⟩
theorem told_yes {b h c : ByteArray} {se t : Int} {ws : List W.WantD} (hh : toldB b h c se t ws = true) : formT ⟨1, b, se, ws, h, c, t⟩ = tailT ws (lineT (wd [116, 111, 108, 100]) [b, decT se]) := by
  unfold toldB noHoldB at hh
  simp only [Bool.and_eq_true, beq_iff_eq] at hh
  obtain ⟨h1, h2, h3, h4, h5, h6⟩ := hh
  rw [line2]
  simp [formT, h1, h2, h3, h4, h5, h6, wd]
theorem told_no {b h c : ByteArray} {se t : Int} {ws : List W.WantD} (hh : toldB b h c se t ws = false) : formT ⟨1, b, se, ws, h, c, t⟩ = { data := #[] } := by
  unfold toldB noHoldB at hh
  unfold formT
  cases h1 : nameB b
  · rfl
  · rw [if_neg (by simp), if_neg (by simp), if_pos rfl, if_neg]
    rintro ⟨h3, h2, h4, h5, h6⟩
    simp only at h1 h2 h3 h4 h5 h6
    rw [h1, h2, h3, h4, h5, h6] at hh
    simp at hh
theorem hold_yes {k : Int} {b h c : ByteArray} {se t : Int} {ws : List W.WantD} (hk : k = 2 ∨ k = 3 ∨ k = 4) (l : List UInt8) (hl : wordT k = wd (l ++ [32])) (hh : (namesB b h c t && noWantsB se ws.length) = true) : formT ⟨k, b, se, ws, h, c, t⟩ = lineT (wd l) [b, h, c, decT t] := by
  unfold namesB noWantsB at hh
  simp only [Bool.and_eq_true, beq_iff_eq] at hh
  obtain ⟨⟨h1, h2, h3, h4⟩, h5, h6⟩ := hh
  have hw : ws.length = 0 := by omega
  rw [line4, ← hl]
  have k1 : k ≠ 1 := by omega
  simp [formT, h1, h2, h3, h4, h5, hw, hk, k1]
theorem hold_no {k : Int} {b h c : ByteArray} {se t : Int} {ws : List W.WantD} (hk : k = 2 ∨ k = 3 ∨ k = 4) (hh : (namesB b h c t && noWantsB se ws.length) = false) : formT ⟨k, b, se, ws, h, c, t⟩ = { data := #[] } := by
  unfold namesB noWantsB at hh
  unfold formT
  have k1 : k ≠ 1 := by omega
  have k6 : k ≠ 6 := by omega
  cases h1 : nameB b
  · rfl
  · rw [if_neg (by simp)]
    by_cases h5 : (k ≠ 1 ∧ 0 < ws.length) ∨ (k ≠ 1 ∧ k ≠ 6 ∧ se ≠ 0)
    · rw [if_pos h5]
    · rw [if_neg h5, if_neg k1, if_pos hk, if_neg]
      rintro ⟨h3, h4, h2⟩
      have hw : ws.length = 0 := by
        rcases Nat.eq_zero_or_pos ws.length with e | e
        · exact e
        · exact absurd (Or.inl ⟨k1, e⟩) h5
      have hs : se = 0 := Decidable.byContradiction fun e => h5 (Or.inr ⟨k1, k6, e⟩)
      simp only at h1 h2 h3 h4
      rw [h1, h2, h3, h4, hw, hs] at hh
      simp at hh
theorem got_yes {b h c : ByteArray} {se t : Int} {ws : List W.WantD} (hh : gotB b h c se t ws.length = true) : formT ⟨5, b, se, ws, h, c, t⟩ = lineT (wd [103, 111, 116, 98, 97, 99, 107]) [b, h, decT t] := by
  unfold gotB noWantsB at hh
  simp only [Bool.and_eq_true, beq_iff_eq] at hh
  obtain ⟨h1, h2, h3, h4, h5, h6⟩ := hh
  have hw : ws.length = 0 := by omega
  rw [line3]
  simp [formT, h1, h2, h3, h4, h5, hw, wd]
theorem got_no {b h c : ByteArray} {se t : Int} {ws : List W.WantD} (hh : gotB b h c se t ws.length = false) : formT ⟨5, b, se, ws, h, c, t⟩ = { data := #[] } := by
  unfold gotB noWantsB at hh
  unfold formT
  cases h1 : nameB b
  · rfl
  · rw [if_neg (by simp)]
    by_cases h5 : ((5 : Int) ≠ 1 ∧ 0 < ws.length) ∨ ((5 : Int) ≠ 1 ∧ (5 : Int) ≠ 6 ∧ se ≠ 0)
    · rw [if_pos h5]
    · rw [if_neg h5, if_neg (by simp), if_neg (by simp), if_pos rfl, if_neg]
      rintro ⟨h3, h4, h2⟩
      have hw : ws.length = 0 := by
        rcases Nat.eq_zero_or_pos ws.length with e | e
        · exact e
        · exact absurd (Or.inl ⟨by decide, e⟩) h5
      have hs : se = 0 := Decidable.byContradiction fun e => h5 (Or.inr ⟨by decide, by decide, e⟩)
      simp only at h1 h2 h3 h4
      rw [h1, h2, h3, h4, hw, hs] at hh
      simp at hh
theorem here_yes {b h c : ByteArray} {se t : Int} {ws : List W.WantD} (hh : hereB b h c se t ws.length = true) : formT ⟨6, b, se, ws, h, c, t⟩ = lineT (wd [104, 101, 114, 101]) [b, decT se] := by
  unfold hereB noHoldB at hh
  simp only [Bool.and_eq_true, beq_iff_eq] at hh
  obtain ⟨h1, h2, h3, h4, h5, h6⟩ := hh
  have hw : ws.length = 0 := by omega
  rw [line2]
  simp [formT, h1, h2, h4, h5, h6, hw, wd]
theorem here_no {b h c : ByteArray} {se t : Int} {ws : List W.WantD} (hh : hereB b h c se t ws.length = false) : formT ⟨6, b, se, ws, h, c, t⟩ = { data := #[] } := by
  unfold hereB noHoldB at hh
  unfold formT
  cases h1 : nameB b
  · rfl
  · rw [if_neg (by simp)]
    by_cases h5 : ((6 : Int) ≠ 1 ∧ 0 < ws.length) ∨ ((6 : Int) ≠ 1 ∧ (6 : Int) ≠ 6 ∧ se ≠ 0)
    · rw [if_pos h5]
    · rw [if_neg h5, if_neg (by simp), if_neg (by simp), if_neg (by simp), if_pos rfl, if_neg]
      rintro ⟨h3, h4, h2, h6⟩
      have hw : ws.length = 0 := by
        rcases Nat.eq_zero_or_pos ws.length with e | e
        · exact e
        · exact absurd (Or.inl ⟨by decide, e⟩) h5
      simp only at h1 h2 h3 h4 h6
      rw [h1, h2, h3, h4, hw, h6] at hh
      simp at hh
theorem other_no {k : Int} {b h c : ByteArray} {se t : Int} {ws : List W.WantD} (hk : ¬ (1 ≤ k ∧ k ≤ 6)) : formT ⟨k, b, se, ws, h, c, t⟩ = { data := #[] } := by
  have e1 : k ≠ 1 := by omega
  have e2 : k ≠ 2 := by omega
  have e3 : k ≠ 3 := by omega
  have e4 : k ≠ 4 := by omega
  have e5 : k ≠ 5 := by omega
  have e6 : k ≠ 6 := by omega
  simp [formT, e1, e2, e3, e4, e5, e6]
end Go.Proofs.YteebdpnpeglimaaDoor
