/- The forms of the mail: the program's table. -/
import Derived.Test.YteebdpnpeglimaaDoorFormC
namespace Go.Proofs.YteebdpnpeglimaaDoor
open Go.RowKit
set_option linter.unusedVariables false

def fnV (n : Nat) : Value := .func (.func n) #[] #[]
def formC (k : Int) (w : ByteArray) (f1 f2 f3 : Nat) : List Value := [.int .i64 k, .string w, fnV f1, fnV f2, fnV f3]
def formsL : List Value := formC 1 { data := #[116, 111, 108, 100] } 30 31 32 ++ formC 2 { data := #[97, 115, 107, 101, 100] } 33 34 35 ++ formC 3 { data := #[103, 105, 118, 101, 110] } 33 34 35 ++ formC 4 { data := #[98, 97, 99, 107] } 33 34 35 ++ formC 5 { data := #[103, 111, 116, 98, 97, 99, 107] } 36 37 38 ++ formC 6 { data := #[104, 101, 114, 101] } 39 31 32
def formsA : Array Value := formsL.toArray
set_option maxRecDepth 4000 in
set_option maxHeartbeats 2000000 in
theorem mailForms_any (w : World) : Calls Tryd.prog 25 #[] w fun e w' => e = .returned (.slice (some ⟨w.heap.size, 0, none⟩) 6 6) ∧ w' = w.alloc (.cells formsA 47) := by
  go_enter Tryd.func25, Tryd.ntmps25
  go_wp2
  go_ret
  exact ⟨rfl, rfl⟩
end Go.Proofs.YteebdpnpeglimaaDoor
