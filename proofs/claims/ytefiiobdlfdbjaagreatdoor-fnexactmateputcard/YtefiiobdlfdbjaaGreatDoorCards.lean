/-
  DERIVED. GIVEN WITH THE SEED: THE CARDS: each row of YtefiiobdlfdbjaaGreatDoorRows.lean that lists a variable, with what it lists TIED to the program's text (the seventh form; the later family's looks); each row that meets fmt, with fmt's text TOLD by the authors' own Lean function (tested against real Go, not proved from fmt's source: count such statements apart). THE CARD IS WHAT COUNTS. Prove the row's statement (the work); the ties are given (YtefiiobdlfdbjaaGreatDoorTie.lean); close each card by the builder's one call (the guide's Derived/Test/ToyasCard.lean, 'card_holds'). Laid BY PROGRAM, IN A SANDBOX (cutbox-door.mjs). By AI agents, Wed Nov 11 2026. No macro, syntax, notation, axiom, sorry.
-/
import Derived.Test.YtefiiobdlfdbjaaGreatDoorRows
import GoSem.ClaimSeven
namespace Go.Proofs.YtefiiobdlfdbjaaGreatDoor
namespace Rows

/-- THE TIED CARD OF 'laws.FnExactMatePut'. -/
def fnExactMatePutCard : Claim7 := { stood := { row := fnExactMatePutRow, standIns := [], harness := (true, "ad2281464ab2050f7abd0fd1af45762fd59f62dc4284ed505087235e91476b3e"), looks := true }, kinds := [], alts := [], laidByText := true, laidKinds := [.sentinel, .sentinel, .sentinel], laidTests := true, laidLooks := .later }
def FnExactMatePutCardSaid : Prop := Claim7.holds Tryz.pinned (.plain (OpenSpec.ofChange fnExactMatePutSpec)) fnExactMatePutCard

/-- THE SECOND FORM's CARD OF 'laws.FnExactMatePut'. -/
def fnExactMatePutUptoCard : Claim7 := { stood := { row := fnExactMatePutUptoRow, standIns := [], harness := (true, "ad2281464ab2050f7abd0fd1af45762fd59f62dc4284ed505087235e91476b3e"), looks := true }, kinds := [], alts := [], laidByText := true, laidKinds := [.sentinel, .sentinel, .sentinel], laidTests := true, laidLooks := .later }
def FnExactMatePutUptoCardSaid : Prop := Claim7.holds Tryz.pinned (.plain (OpenSpec.upto fnExactMatePutSpec)) fnExactMatePutUptoCard
end Rows
end Go.Proofs.YtefiiobdlfdbjaaGreatDoor
