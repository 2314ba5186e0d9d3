/- A parcel's text: what the specification writes. -/
import Derived.Test.YteebdpnpeglimaaDoorFormC1
import Derived.Test.YteebdpnpeglimaaDoorFormC2
import Derived.Test.YteebdpnpeglimaaDoorFormC3
import Derived.Test.YteebdpnpeglimaaDoorFormC4
import Derived.Test.YteebdpnpeglimaaDoorFormC5
import Derived.Test.YteebdpnpeglimaaDoorFormC6
import Derived.Test.YteebdpnpeglimaaDoorFormC7
namespace Go.Proofs.YteebdpnpeglimaaDoor
open Go.RowKit
set_option linter.unusedVariables false

set_option maxRecDepth 4000 in
set_option maxHeartbeats 4000000 in
theorem specForm (k : Int) (b : ByteArray) (se : Int) (ws : List W.WantD) (h c : ByteArray) (t : Int) (g cap : Nat) (w : World) (hP : ParIn w ⟨k, b, se, ws, h, c, t⟩ g) :
    Calls Tryd.prog 5 #[.agg #[.int .i64 k, .string b, .int .i64 se, .slice (some ⟨g, 0, none⟩) ws.length cap, .string h, .string c, .int .i64 t]] w fun e w' => e = .returned (.string (formT ⟨k, b, se, ws, h, c, t⟩)) ∧ Below w.heap.size w w' := by
  cases hb : nameB b
  · have zb : b.size ≤ maxLen := Nat.le_trans hP.b (by unfold maxLen; decide)
    have e0 : formT ⟨k, b, se, ws, h, c, t⟩ = { data := #[] } := if_pos hb
    have HE0 : Hid (formT ⟨k, b, se, ws, h, c, t⟩ = { data := #[] }) := e0
    clear e0 hP
    go_enter Tryd.func5, Tryd.ntmps5
    go_wp2_with (go_at_call 10; refine (specName_any b _ zb).mono ?_; rintro e w' ⟨rfl, rfl⟩; rw [hb])
    go_ret
    exact ⟨by rw [HE0.out]; rfl, bl_alloc (Below.refl _ _) _⟩
  by_cases h1 : k = 1
  · subst h1; exact specK1 b se ws h c t g cap w hP hb
  by_cases h2 : k = 2
  · subst h2; exact specK2 b se ws h c t g cap w hP hb
  by_cases h3 : k = 3
  · subst h3; exact specK3 b se ws h c t g cap w hP hb
  by_cases h4 : k = 4
  · subst h4; exact specK4 b se ws h c t g cap w hP hb
  by_cases h5 : k = 5
  · subst h5; exact specK5 b se ws h c t g cap w hP hb
  by_cases h6 : k = 6
  · subst h6; exact specK6 b se ws h c t g cap w hP hb
  exact specK7 k b se ws h c t g cap w hP hb h1 h2 h3 h4 h5 h6
end Go.Proofs.YteebdpnpeglimaaDoor
