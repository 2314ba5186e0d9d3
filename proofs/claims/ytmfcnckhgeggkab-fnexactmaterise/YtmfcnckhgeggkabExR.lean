/- Rows of runs, behind a step that turns one block. -/
import Derived.Test.YtmfcnckhgeggkabRows2
import Derived.Test.YtmfcnckhgeggkabEx
namespace Go.Proofs.Ytmfcnckhgeggkab
open Go.RowKit
set_option linter.unusedVariables false

theorem RowsAt.ex {kr : Nat} {w w' : World} {b off : Nat} {rs : List RunD} (h : RowsAt w b off rs) (hb : b < w.heap.size) (hE : Ex kr w w') (hne : b ≠ kr) : RowsAt w' b off rs :=
  fun k r hk j v hj => (hE.cell (p := ⟨b, off + k * 11 + j, none⟩) hb hne).trans (h k r hk j v hj)
end Go.Proofs.Ytmfcnckhgeggkab
