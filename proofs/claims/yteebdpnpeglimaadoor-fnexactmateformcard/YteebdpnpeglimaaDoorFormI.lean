/- MateForm: the program, at every parcel. -/
import Derived.Test.YteebdpnpeglimaaDoorFormY1
import Derived.Test.YteebdpnpeglimaaDoorFormY2
import Derived.Test.YteebdpnpeglimaaDoorFormY3
import Derived.Test.YteebdpnpeglimaaDoorFormY4
import Derived.Test.YteebdpnpeglimaaDoorFormY5
import Derived.Test.YteebdpnpeglimaaDoorFormY6
namespace Go.Proofs.YteebdpnpeglimaaDoor
open Go.RowKit
set_option linter.unusedVariables false

theorem implForm (k : Int) (b : ByteArray) (se : Int) (ws : List W.WantD) (h c : ByteArray) (t : Int) (g : Nat) (w : World) (hP : ParIn w ⟨k, b, se, ws, h, c, t⟩ g) (ht : Tab w) :
    Calls Tryd.prog 7 #[.agg #[.int .i64 k, .string b, .int .i64 se, .slice (some ⟨g, 0, none⟩) ws.length ws.length, .string h, .string c, .int .i64 t]] w fun e w' => e = .returned (.string (formT ⟨k, b, se, ws, h, c, t⟩)) ∧ Below w.heap.size w w' := by
  by_cases h1 : k = 1
  · subst h1; exact implF1 b se ws h c t g w hP ht
  by_cases h2 : k = 2
  · subst h2; exact implF2 b se ws h c t g w hP ht
  by_cases h3 : k = 3
  · subst h3; exact implF3 b se ws h c t g w hP ht
  by_cases h4 : k = 4
  · subst h4; exact implF4 b se ws h c t g w hP ht
  by_cases h5 : k = 5
  · subst h5; exact implF5 b se ws h c t g w hP ht
  by_cases h6 : k = 6
  · subst h6; exact implF6 b se ws h c t g w hP ht
  exact implF7 k b se ws h c t g w (by omega) hP ht
end Go.Proofs.YteebdpnpeglimaaDoor
