/- A parcel's text: what the specification writes. -/
import Derived.Test.YteebdpnpeglimaaDoorFormC
namespace Go.Proofs.YteebdpnpeglimaaDoor
open Go.RowKit
set_option linter.unusedVariables false

set_option maxRecDepth 4000 in
set_option maxHeartbeats 4000000 in
theorem specK7 (k : Int) (b : ByteArray) (se : Int) (ws : List W.WantD) (h c : ByteArray) (t : Int) (g cap : Nat) (w : World) (hP : ParIn w ⟨k, b, se, ws, h, c, t⟩ g) (hb : nameB b = true) (h1 : k ≠ 1) (h2 : k ≠ 2) (h3 : k ≠ 3) (h4 : k ≠ 4) (h5 : k ≠ 5) (h6 : k ≠ 6) :
    Calls Tryd.prog 5 #[.agg #[.int .i64 k, .string b, .int .i64 se, .slice (some ⟨g, 0, none⟩) ws.length cap, .string h, .string c, .int .i64 t]] w fun e w' => e = .returned (.string (formT ⟨k, b, se, ws, h, c, t⟩)) ∧ Below w.heap.size w w' := by
  have HP0 : Hid (ParIn w ⟨k, b, se, ws, h, c, t⟩ g) := hP
  have zb : b.size ≤ maxLen := Nat.le_trans hP.b (by unfold maxLen; decide)
  have zh : h.size ≤ maxLen := Nat.le_trans hP.h (by unfold maxLen; decide)
  have zc : c.size ≤ maxLen := Nat.le_trans hP.c (by unfold maxLen; decide)
  clear hP
  by_cases hl : 0 < ws.length
  · have e0 : formT ⟨k, b, se, ws, h, c, t⟩ = { data := #[] } := by simp [formT, hb, h1, hl]
    have HE0 : Hid (formT ⟨k, b, se, ws, h, c, t⟩ = { data := #[] }) := e0
    clear e0
    go_enter Tryd.func5, Tryd.ntmps5
    go_wp2_with (first | (go_at_call 10; refine (specName_any _ _ (by assumption)).mono ?_; rintro e w' ⟨rfl, rfl⟩; first | rw [hb] | rw [hn] | skip) | (go_at_call 11; refine (specHold_any h _ zh).mono ?_; rintro e w' ⟨rfl, rfl⟩; first | rw [hq] | rw [hh] | skip) | (go_at_call 12; refine (specIn_any _ _ _ _).mono ?_; rintro e w' ⟨rfl, rfl⟩; try rw [ht]; try rw [hi]))
    all_goals (go_ret; exact ⟨by rw [HE0.out]; rfl, bl_alloc (Below.refl _ _) _⟩)
  · by_cases hs : se = 0
    · have e0 : formT ⟨k, b, se, ws, h, c, t⟩ = { data := #[] } := by simp [formT, hb, h1, h2, h3, h4, h5, h6, hl, hs]
      have HE0 : Hid (formT ⟨k, b, se, ws, h, c, t⟩ = { data := #[] }) := e0
      clear e0
      go_enter Tryd.func5, Tryd.ntmps5
      go_wp2_with (first | (go_at_call 10; refine (specName_any _ _ (by assumption)).mono ?_; rintro e w' ⟨rfl, rfl⟩; first | rw [hb] | rw [hn] | skip) | (go_at_call 11; refine (specHold_any h _ zh).mono ?_; rintro e w' ⟨rfl, rfl⟩; first | rw [hq] | rw [hh] | skip) | (go_at_call 12; refine (specIn_any _ _ _ _).mono ?_; rintro e w' ⟨rfl, rfl⟩; try rw [ht]; try rw [hi]))
      all_goals (go_ret; exact ⟨by rw [HE0.out]; rfl, bl_alloc (Below.refl _ _) _⟩)
    · have e0 : formT ⟨k, b, se, ws, h, c, t⟩ = { data := #[] } := by simp [formT, hb, h1, h6, hl, hs]
      have HE0 : Hid (formT ⟨k, b, se, ws, h, c, t⟩ = { data := #[] }) := e0
      clear e0
      go_enter Tryd.func5, Tryd.ntmps5
      go_wp2_with (first | (go_at_call 10; refine (specName_any _ _ (by assumption)).mono ?_; rintro e w' ⟨rfl, rfl⟩; first | rw [hb] | rw [hn] | skip) | (go_at_call 11; refine (specHold_any h _ zh).mono ?_; rintro e w' ⟨rfl, rfl⟩; first | rw [hq] | rw [hh] | skip) | (go_at_call 12; refine (specIn_any _ _ _ _).mono ?_; rintro e w' ⟨rfl, rfl⟩; try rw [ht]; try rw [hi]))
      all_goals (go_ret; exact ⟨by rw [HE0.out]; rfl, bl_alloc (Below.refl _ _) _⟩)
end Go.Proofs.YteebdpnpeglimaaDoor
