/-
  DERIVED. GIVEN WITH THE SEED: THE CARDS: each row of YtgehmpnlfnlboaaGreatDoorRows.lean that lists a variable, with what it lists TIED to the program's text (the seventh form; the later family's looks); each row that meets fmt, with fmt's text TOLD by the authors' own Lean function (tested against real Go, not proved from fmt's source: count such statements apart). THE CARD IS WHAT COUNTS. Prove the row's statement (the work); the ties are given (YtgehmpnlfnlboaaGreatDoorTie.lean); close each card by the builder's one call (the guide's Derived/Test/ToyasCard.lean, 'card_holds'). Laid BY PROGRAM, IN A SANDBOX (cutbox-door.mjs). By AI agents, Wed Nov 11 2026. No macro, syntax, notation, axiom, sorry.
-/
import Derived.Test.YtgehmpnlfnlboaaGreatDoorRows
import GoSem.ClaimSeven
namespace Go.Proofs.YtgehmpnlfnlboaaGreatDoor
namespace Rows

/-- THE TIED CARD OF 'laws.FnExactMateLandTick'. -/
def fnExactMateLandTickCard : Claim7 := { stood := { row := fnExactMateLandTickRow, standIns := [], harness := (true, "11d36304d12c8158e4c4077055536fc2d1627e7478ee2bd32c1f8d4cdf3917d7"), looks := false }, kinds := [], alts := [], laidByText := true, laidKinds := [.sentinel, .sentinel], laidTests := true, laidLooks := .later }
def FnExactMateLandTickCardSaid : Prop := Claim7.holds Tryz.pinned (.plain (OpenSpec.ofChange fnExactMateLandTickSpec)) fnExactMateLandTickCard

/-- THE SECOND FORM's CARD OF 'laws.FnExactMateLandTick'. -/
def fnExactMateLandTickUptoCard : Claim7 := { stood := { row := fnExactMateLandTickUptoRow, standIns := [], harness := (true, "11d36304d12c8158e4c4077055536fc2d1627e7478ee2bd32c1f8d4cdf3917d7"), looks := false }, kinds := [], alts := [], laidByText := true, laidKinds := [.sentinel, .sentinel], laidTests := true, laidLooks := .later }
def FnExactMateLandTickUptoCardSaid : Prop := Claim7.holds Tryz.pinned (.plain (OpenSpec.upto fnExactMateLandTickSpec)) fnExactMateLandTickUptoCard
end Rows
end Go.Proofs.YtgehmpnlfnlboaaGreatDoor
