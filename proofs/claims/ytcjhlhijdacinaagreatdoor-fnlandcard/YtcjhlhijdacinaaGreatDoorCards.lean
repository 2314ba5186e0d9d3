/-
  DERIVED. GIVEN WITH THE SEED: THE CARDS: each row of YtcjhlhijdacinaaGreatDoorRows.lean that lists a variable, with what it lists TIED to the program's text (the seventh form; the later family's looks); each row that meets fmt, with fmt's text TOLD by the authors' own Lean function (tested against real Go, not proved from fmt's source: count such statements apart). THE CARD IS WHAT COUNTS. Prove the row's statement (the work); the ties are given (YtcjhlhijdacinaaGreatDoorTie.lean); close each card by the builder's one call (the guide's Derived/Test/ToyasCard.lean, 'card_holds'). Laid BY PROGRAM, IN A SANDBOX (cutbox-door.mjs). By AI agents, Wed Nov 11 2026. No macro, syntax, notation, axiom, sorry.
-/
import Derived.Test.YtcjhlhijdacinaaGreatDoorRows
import GoSem.ClaimSeven
namespace Go.Proofs.YtcjhlhijdacinaaGreatDoor
namespace Rows

/-- THE TIED CARD OF 'laws.FnLand'. -/
def fnLandCard : Claim7 := { stood := { row := fnLandRow, standIns := [], harness := (true, "8bf85f1ec11b5e47792f4ce65e12115d5a6542481f10986f1b7106cfc57baffc"), looks := true }, kinds := [], alts := [], laidByText := true, laidKinds := [.sentinel, .sentinel, .sentinel, .sentinel, .sentinel, .sentinel, .sentinel, .sentinel, .sentinel], laidTests := true, laidLooks := .later }
def FnLandCardSaid : Prop := Claim7.holds Tryz.pinned (.plain (OpenSpec.ofChange fnLandSpec)) fnLandCard

/-- THE SECOND FORM's CARD OF 'laws.FnLand'. -/
def fnLandUptoCard : Claim7 := { stood := { row := fnLandUptoRow, standIns := [], harness := (true, "8bf85f1ec11b5e47792f4ce65e12115d5a6542481f10986f1b7106cfc57baffc"), looks := true }, kinds := [], alts := [], laidByText := true, laidKinds := [.sentinel, .sentinel, .sentinel, .sentinel, .sentinel, .sentinel, .sentinel, .sentinel, .sentinel], laidTests := true, laidLooks := .later }
def FnLandUptoCardSaid : Prop := Claim7.holds Tryz.pinned (.plain (OpenSpec.upto fnLandSpec)) fnLandUptoCard
end Rows
end Go.Proofs.YtcjhlhijdacinaaGreatDoor
