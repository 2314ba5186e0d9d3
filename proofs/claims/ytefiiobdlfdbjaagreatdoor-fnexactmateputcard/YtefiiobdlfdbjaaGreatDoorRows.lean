/-
  NARROWER THAN 'FOR EVERY INPUT', by the rows' own cells (each row's printed sentence says how): FnExactMatePut: ifaces, laid.
  DERIVED. THE GIVEN ROWS OF THIS SEAT. 1 by the template 'for every input the law returns true; each argument reads behind the call as it read before'; 0 by the template 'total and deterministic' (their statements: YtefiiobdlfdbjaaGreatDoorTotals.lean).
  GIVEN WITH THE SEED: the statements are not yours to turn. If you find one false, say at which input.
  Laid BY PROGRAM, IN A SANDBOX (cutbox-rows.mjs): the forced cells as the released guide's own fill.sh prints them over the translation 0c3823ab50a3c005… (all of the seat's roots in one cut). By AI agents, Wed Nov 11 2026. No macro, syntax, notation, axiom, sorry.
-/
import Derived.Test.YtefiiobdlfdbjaaGreatDoorChecked
import GoSem.Claim
import GoSem.ClaimJoined
import GoSem.ClaimMapViews
import Derived.JoinedTies
import Derived.KernelRfl
namespace Go.Proofs.YtefiiobdlfdbjaaGreatDoor
/- THE CELL 'sum', in the pinned program and in every row, IS THE sha256 OF THE DUMP (.gsa) THAT YtefiiobdlfdbjaaGreatDoorProg.lean LOADS. Nothing in Lean hashes anything: it is a label: what it is worth is what the hold of that sum in a sandbox is worth. -/
noncomputable def Tryz.pinned : Pinned := { name := "ytefiiobdlfdbjaagreatdoor", sum := "0c3823ab50a3c0057563c0f9123c877779eb2fb820c46b06907e3049962046e5", checked := Tryz.checked }
namespace Rows
def none {H : Type} : Left H := { results := [], args := [] }

/- WHAT THE LISTED PACKAGE-LEVEL VARIABLES READ AS WHEN THE CALL BEGINS. Each datum BY PROGRAM (the guide's laid-datum.mjs) off the statement by which the dump's own 'gosem.cut.vars' lays the variable. In a bare row this is a premise. The card (YtefiiobdlfdbjaaGreatDoorCards.lean) ties it to the program's text. -/
def laid_loop_example_wharfmate_impl_errNotOk {H : Type} : DataW H := .iface "*errors.errorString" (.ptr (.agg [.lit (.string [116, 104, 101, 32, 98, 111, 111, 107, 32, 105, 115, 32, 110, 111, 116, 32, 111, 107])]))
def laid_loop_example_wharfmate_impl_errNoPlace {H : Type} : DataW H := .iface "*errors.errorString" (.ptr (.agg [.lit (.string [110, 111, 32, 110, 97, 109, 101, 44, 32, 111, 114, 32, 119, 97, 110, 116, 115, 32, 116, 104, 97, 116, 32, 97, 114, 101, 32, 110, 111, 116, 32, 111, 107])]))
def laid_loop_example_wharfmate_impl_errTooMuch {H : Type} : DataW H := .iface "*errors.errorString" (.ptr (.agg [.lit (.string [116, 104, 101, 32, 98, 111, 111, 107, 32, 119, 111, 117, 108, 100, 32, 110, 111, 116, 32, 98, 101, 32, 111, 107])]))

/-- 'laws.FnExactMatePut': WHATEVER THE INPUT: true; the input reads as it did. -/
def fnExactMatePutSpec : ChangeSpec := { name := "fnExactMatePut", vars := ["loop.example/wharfmate/impl.errNoPlace", "loop.example/wharfmate/impl.errTooMuch", "loop.example/wharfmate/impl.errNotOk"], fn := fun _ => fun
  | [d1, d2, d3, g1, g2, g3] => { results := [.lit (.bool true)], args := [d1, d2, d3], vars := [g1, g2, g3] }
  | _ => none }
def fnExactMatePutRow : OpenClaim := { program := "ytefiiobdlfdbjaagreatdoor", sum := "0c3823ab50a3c0057563c0f9123c877779eb2fb820c46b06907e3049962046e5", func := "loop.example/wharfmate/laws.FnExactMatePut", spec := "fnExactMatePut", inPlace := ["internal/reflectlite.TypeOf"], unfollowed := true, recurses := true, named := ["loop.example/wharfmate/impl.errNoPlace", "loop.example/wharfmate/impl.errTooMuch", "loop.example/wharfmate/impl.errNotOk"], ifaces := true, apart := false, laid := [("loop.example/wharfmate/impl.errNotOk", laid_loop_example_wharfmate_impl_errNotOk), ("loop.example/wharfmate/impl.errNoPlace", laid_loop_example_wharfmate_impl_errNoPlace), ("loop.example/wharfmate/impl.errTooMuch", laid_loop_example_wharfmate_impl_errTooMuch)] }
def FnExactMatePutSaid : Prop := fnExactMatePutRow.holds Tryz.pinned (OpenSpec.ofChange fnExactMatePutSpec)

/-- ITS FALSE NEIGHBOUR: 'it returns false'. Refute it at one input. -/
def fnExactMatePutWrong : ChangeSpec := { name := "fnExactMatePut", vars := ["loop.example/wharfmate/impl.errNoPlace", "loop.example/wharfmate/impl.errTooMuch", "loop.example/wharfmate/impl.errNotOk"], fn := fun _ => fun
  | [d1, d2, d3, g1, g2, g3] => { results := [.lit (.bool false)], args := [d1, d2, d3], vars := [g1, g2, g3] }
  | _ => none }
def FnExactMatePutWrongFalsely : Prop := fnExactMatePutRow.holds Tryz.pinned (OpenSpec.ofChange fnExactMatePutWrong)

/- THE SECOND FORM. 'bulk': how many values and letters a reading holds, each counted each time it is reached (what is shared counts as often as it is met; a slice's spare places count too). A statement '..UptoSaid' is the law's where the arguments, and the package variables that the reading takes, are together of bulk at most 1048576: NARROWER than '..Said'. Prove '..Said' where nothing that the law and all that it calls make is longer than what came in: it says more and counts as full. Else prove '..UptoSaid'. A law counts once. -/
mutual
def uptoBulk {H : Type} : DataW H → Nat
  | .lit (.string bytes) => bytes.length + 1
  | .lit _ => 1
  | .nil => 1
  | .ptr d => uptoBulk d + 1
  | .slice elems spare => uptoBulkAll elems + uptoBulkAll spare + 1
  | .agg parts => uptoBulkAll parts + 1
  | .iface _ d => uptoBulk d + 1
  | .map entries => uptoBulkEntries entries + 1
  | .held _ => 1
def uptoBulkAll {H : Type} : List (DataW H) → Nat
  | [] => 0
  | d :: r => uptoBulk d + uptoBulkAll r
def uptoBulkEntries {H : Type} : List (Lit × DataW H) → Nat
  | [] => 0
  | x :: r => uptoBulkEntry x + uptoBulkEntries r
def uptoBulkEntry {H : Type} : Lit × DataW H → Nat
  | (.string bytes, d) => bytes.length + uptoBulk d + 1
  | (_, d) => uptoBulk d + 1
 end
def uptoSmall : (H : Type) → List (DataW H) → Bool := fun _ ds => decide (uptoBulkAll ds ≤ 1048576)
def OpenSpec.upto (s : _root_.Go.ChangeSpec) : _root_.Go.OpenSpec := { _root_.Go.OpenSpec.ofChange s with cond := some uptoSmall }

/-- 'laws.FnExactMatePut', WHERE WHAT IT READS IS OF BULK AT MOST 1048576: true; the input reads as it did. -/
def fnExactMatePutUptoRow : OpenClaim := { program := "ytefiiobdlfdbjaagreatdoor", sum := "0c3823ab50a3c0057563c0f9123c877779eb2fb820c46b06907e3049962046e5", func := "loop.example/wharfmate/laws.FnExactMatePut", spec := "fnExactMatePut", inPlace := ["internal/reflectlite.TypeOf"], unfollowed := true, recurses := true, named := ["loop.example/wharfmate/impl.errNoPlace", "loop.example/wharfmate/impl.errTooMuch", "loop.example/wharfmate/impl.errNotOk"], ifaces := true, apart := false, laid := [("loop.example/wharfmate/impl.errNotOk", laid_loop_example_wharfmate_impl_errNotOk), ("loop.example/wharfmate/impl.errNoPlace", laid_loop_example_wharfmate_impl_errNoPlace), ("loop.example/wharfmate/impl.errTooMuch", laid_loop_example_wharfmate_impl_errTooMuch)], narrowed := true }
def FnExactMatePutUptoSaid : Prop := fnExactMatePutUptoRow.holds Tryz.pinned (OpenSpec.upto fnExactMatePutSpec)

end Rows
end Go.Proofs.YtefiiobdlfdbjaaGreatDoor
