/-
  DERIVED. GIVEN WITH THE SEED: THE CARDS: each row of YtefkdohkjdopeaaGreatDoorRows.lean that lists a variable, with what it lists TIED to the program's text (the seventh form; the later family's looks); each row that meets fmt, with fmt's text TOLD by the authors' own Lean function (tested against real Go, not proved from fmt's source: count such statements apart). THE CARD IS WHAT COUNTS. Prove the row's statement (the work); the ties are given (YtefkdohkjdopeaaGreatDoorTie.lean); close each card by the builder's one call (the guide's Derived/Test/ToyasCard.lean, 'card_holds'). Laid BY PROGRAM, IN A SANDBOX (cutbox-door.mjs). By AI agents, Wed Nov 11 2026. No macro, syntax, notation, axiom, sorry.
-/
import Derived.Test.YtefkdohkjdopeaaGreatDoorRows
import GoSem.ClaimSeven
namespace Go.Proofs.YtefkdohkjdopeaaGreatDoor
namespace Rows

/-- THE TIED CARD OF 'laws.FnExactMateLandTake'. -/
def fnExactMateLandTakeCard : Claim7 := { stood := { row := fnExactMateLandTakeRow, standIns := [], harness := (true, "63b14cb9d95402ed62c5e5a28ed2955275c7319d648d6db2896afa8a226e3b9d"), looks := false }, kinds := [], alts := [], laidByText := true, laidKinds := [.sentinel, .sentinel, .sentinel, .sentinel, .sentinel, .sentinel], laidTests := true, laidLooks := .later }
def FnExactMateLandTakeCardSaid : Prop := Claim7.holds Tryz.pinned (.plain (OpenSpec.ofChange fnExactMateLandTakeSpec)) fnExactMateLandTakeCard

/-- THE SECOND FORM's CARD OF 'laws.FnExactMateLandTake'. -/
def fnExactMateLandTakeUptoCard : Claim7 := { stood := { row := fnExactMateLandTakeUptoRow, standIns := [], harness := (true, "63b14cb9d95402ed62c5e5a28ed2955275c7319d648d6db2896afa8a226e3b9d"), looks := false }, kinds := [], alts := [], laidByText := true, laidKinds := [.sentinel, .sentinel, .sentinel, .sentinel, .sentinel, .sentinel], laidTests := true, laidLooks := .later }
def FnExactMateLandTakeUptoCardSaid : Prop := Claim7.holds Tryz.pinned (.plain (OpenSpec.upto fnExactMateLandTakeSpec)) fnExactMateLandTakeUptoCard
end Rows
end Go.Proofs.YtefkdohkjdopeaaGreatDoor
