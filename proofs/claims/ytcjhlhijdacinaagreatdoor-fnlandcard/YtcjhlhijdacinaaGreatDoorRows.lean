/-
  NARROWER THAN 'FOR EVERY INPUT', by the rows' own cells (each row's printed sentence says how): FnLand: ifaces, laid.
  DERIVED. THE GIVEN ROWS OF THIS SEAT. 1 by the template 'for every input the law returns true; each argument reads behind the call as it read before'; 0 by the template 'total and deterministic' (their statements: YtcjhlhijdacinaaGreatDoorTotals.lean).
  GIVEN WITH THE SEED: the statements are not yours to turn. If you find one false, say at which input.
  Laid BY PROGRAM, IN A SANDBOX (cutbox-rows.mjs): the forced cells as the released guide's own fill.sh prints them over the translation ae2fde1d3f9a7ba1… (all of the seat's roots in one cut). By AI agents, Wed Nov 11 2026. No macro, syntax, notation, axiom, sorry.
-/
import Derived.Test.YtcjhlhijdacinaaGreatDoorChecked
import GoSem.Claim
import GoSem.ClaimJoined
import GoSem.ClaimMapViews
import Derived.JoinedTies
import Derived.KernelRfl
namespace Go.Proofs.YtcjhlhijdacinaaGreatDoor
/- THE CELL 'sum', in the pinned program and in every row, IS THE sha256 OF THE DUMP (.gsa) THAT YtcjhlhijdacinaaGreatDoorProg.lean LOADS. Nothing in Lean hashes anything: it is a label: what it is worth is what the hold of that sum in a sandbox is worth. -/
noncomputable def Tryz.pinned : Pinned := { name := "ytcjhlhijdacinaagreatdoor", sum := "ae2fde1d3f9a7ba14fba69b549d011ac816f688dd59de678c654f187df484b6e", checked := Tryz.checked }
namespace Rows
def none {H : Type} : Left H := { results := [], args := [] }

/- WHAT THE LISTED PACKAGE-LEVEL VARIABLES READ AS WHEN THE CALL BEGINS. Each datum BY PROGRAM (the guide's laid-datum.mjs) off the statement by which the dump's own 'gosem.cut.vars' lays the variable. In a bare row this is a premise. The card (YtcjhlhijdacinaaGreatDoorCards.lean) ties it to the program's text. -/
def laid_loop_example_wharfmate_impl_errNotOk {H : Type} : DataW H := .iface "*errors.errorString" (.ptr (.agg [.lit (.string [116, 104, 101, 32, 98, 111, 111, 107, 32, 105, 115, 32, 110, 111, 116, 32, 111, 107])]))
def laid_loop_example_wharfmate_impl_errNoPlace {H : Type} : DataW H := .iface "*errors.errorString" (.ptr (.agg [.lit (.string [110, 111, 32, 110, 97, 109, 101, 44, 32, 111, 114, 32, 119, 97, 110, 116, 115, 32, 116, 104, 97, 116, 32, 97, 114, 101, 32, 110, 111, 116, 32, 111, 107])]))
def laid_loop_example_wharfmate_impl_errTooMuch {H : Type} : DataW H := .iface "*errors.errorString" (.ptr (.agg [.lit (.string [116, 104, 101, 32, 98, 111, 111, 107, 32, 119, 111, 117, 108, 100, 32, 110, 111, 116, 32, 98, 101, 32, 111, 107])]))
def laid_loop_example_wharfmate_impl_errTimeOver {H : Type} : DataW H := .iface "*errors.errorString" (.ptr (.agg [.lit (.string [116, 104, 101, 32, 116, 105, 109, 101, 32, 104, 97, 115, 32, 99, 111, 109, 101, 32, 116, 111, 32, 105, 116, 115, 32, 101, 110, 100])]))
def laid_loop_example_wharfmate_impl_errNoParcel {H : Type} : DataW H := .iface "*errors.errorString" (.ptr (.agg [.lit (.string [110, 111, 32, 112, 97, 114, 99, 101, 108, 32, 111, 110, 32, 97, 32, 104, 111, 108, 100])]))
def laid_loop_example_wharfmate_impl_errNotToLand {H : Type} : DataW H := .iface "*errors.errorString" (.ptr (.agg [.lit (.string [97, 32, 112, 97, 114, 99, 101, 108, 32, 116, 104, 97, 116, 32, 105, 115, 32, 110, 111, 116, 32, 102, 111, 114, 32, 116, 104, 101, 32, 98, 111, 111, 107])]))
def laid_loop_example_wharfmate_impl_errNotWanted {H : Type} : DataW H := .iface "*errors.errorString" (.ptr (.agg [.lit (.string [116, 104, 101, 32, 104, 111, 108, 100, 32, 105, 115, 32, 110, 111, 116, 32, 119, 97, 110, 116, 101, 100, 32, 115, 111])]))
def laid_loop_example_wharfmate_impl_errTaken {H : Type} : DataW H := .iface "*errors.errorString" (.ptr (.agg [.lit (.string [97, 110, 111, 116, 104, 101, 114, 32, 104, 97, 115, 32, 116, 104, 101, 32, 104, 111, 108, 100, 44, 32, 111, 114, 32, 97, 32, 110, 101, 119, 101, 114, 32, 97, 115, 107])]))
def laid_loop_example_wharfmate_impl_errFull {H : Type} : DataW H := .iface "*errors.errorString" (.ptr (.agg [.lit (.string [110, 111, 32, 114, 111, 111, 109, 32, 102, 111, 114, 32, 97, 32, 103, 114, 97, 110, 116])]))

/-- 'laws.FnLand': WHATEVER THE INPUT: true; the input reads as it did. -/
def fnLandSpec : ChangeSpec := { name := "fnLand", vars := ["loop.example/wharfmate/impl.errNoParcel", "loop.example/wharfmate/impl.errNotToLand", "loop.example/wharfmate/impl.errNotWanted", "loop.example/wharfmate/impl.errTaken", "loop.example/wharfmate/impl.errFull", "loop.example/wharfmate/impl.errNotOk", "loop.example/wharfmate/impl.errTimeOver", "loop.example/wharfmate/impl.errNoPlace", "loop.example/wharfmate/impl.errTooMuch"], fn := fun _ => fun
  | [d, g1, g2, g3, g4, g5, g6, g7, g8, g9] => { results := [.lit (.bool true)], args := [d], vars := [g1, g2, g3, g4, g5, g6, g7, g8, g9] }
  | _ => none }
def fnLandRow : OpenClaim := { program := "ytcjhlhijdacinaagreatdoor", sum := "ae2fde1d3f9a7ba14fba69b549d011ac816f688dd59de678c654f187df484b6e", func := "loop.example/wharfmate/laws.FnLand", spec := "fnLand", inPlace := ["internal/reflectlite.TypeOf"], unfollowed := true, recurses := true, named := ["loop.example/wharfmate/impl.errNoParcel", "loop.example/wharfmate/impl.errNotToLand", "loop.example/wharfmate/impl.errNotWanted", "loop.example/wharfmate/impl.errTaken", "loop.example/wharfmate/impl.errFull", "loop.example/wharfmate/impl.errNotOk", "loop.example/wharfmate/impl.errTimeOver", "loop.example/wharfmate/impl.errNoPlace", "loop.example/wharfmate/impl.errTooMuch"], ifaces := true, apart := false, laid := [("loop.example/wharfmate/impl.errNotOk", laid_loop_example_wharfmate_impl_errNotOk), ("loop.example/wharfmate/impl.errNoPlace", laid_loop_example_wharfmate_impl_errNoPlace), ("loop.example/wharfmate/impl.errTooMuch", laid_loop_example_wharfmate_impl_errTooMuch), ("loop.example/wharfmate/impl.errTimeOver", laid_loop_example_wharfmate_impl_errTimeOver), ("loop.example/wharfmate/impl.errNoParcel", laid_loop_example_wharfmate_impl_errNoParcel), ("loop.example/wharfmate/impl.errNotToLand", laid_loop_example_wharfmate_impl_errNotToLand), ("loop.example/wharfmate/impl.errNotWanted", laid_loop_example_wharfmate_impl_errNotWanted), ("loop.example/wharfmate/impl.errTaken", laid_loop_example_wharfmate_impl_errTaken), ("loop.example/wharfmate/impl.errFull", laid_loop_example_wharfmate_impl_errFull)] }
def FnLandSaid : Prop := fnLandRow.holds Tryz.pinned (OpenSpec.ofChange fnLandSpec)

/-- ITS FALSE NEIGHBOUR: 'it returns false'. Refute it at one input. -/
def fnLandWrong : ChangeSpec := { name := "fnLand", vars := ["loop.example/wharfmate/impl.errNoParcel", "loop.example/wharfmate/impl.errNotToLand", "loop.example/wharfmate/impl.errNotWanted", "loop.example/wharfmate/impl.errTaken", "loop.example/wharfmate/impl.errFull", "loop.example/wharfmate/impl.errNotOk", "loop.example/wharfmate/impl.errTimeOver", "loop.example/wharfmate/impl.errNoPlace", "loop.example/wharfmate/impl.errTooMuch"], fn := fun _ => fun
  | [d, g1, g2, g3, g4, g5, g6, g7, g8, g9] => { results := [.lit (.bool false)], args := [d], vars := [g1, g2, g3, g4, g5, g6, g7, g8, g9] }
  | _ => none }
def FnLandWrongFalsely : Prop := fnLandRow.holds Tryz.pinned (OpenSpec.ofChange fnLandWrong)

/- THE SECOND FORM. 'bulk': how many values and letters a reading holds, each counted each time it is reached (what is shared counts as often as it is met; a slice's spare places count too). A statement '..UptoSaid' is the law's where the arguments, and the package variables that the reading takes, are together of bulk at most 1048576: NARROWER than '..Said'. Prove '..Said' where nothing that the law and all that it calls make is longer than what came in: it says more and counts as full. Else prove '..UptoSaid'. A law counts once. -/
mutual
def uptoBulk {H : Type} : DataW H → Nat
  | .lit (.string bytes) => bytes.length + 1
  | .lit _ => 1
  | .nil => 1
  | .ptr d => uptoBulk d + 1
  | .slice elems spare => uptoBulkAll elems + uptoBulkAll spare + 1
  | .agg parts => uptoBulkAll parts + 1
  | .iface _ d => uptoBulk d + 1
  | .map entries => uptoBulkEntries entries + 1
  | .held _ => 1
def uptoBulkAll {H : Type} : List (DataW H) → Nat
  | [] => 0
  | d :: r => uptoBulk d + uptoBulkAll r
def uptoBulkEntries {H : Type} : List (Lit × DataW H) → Nat
  | [] => 0
  | x :: r => uptoBulkEntry x + uptoBulkEntries r
def uptoBulkEntry {H : Type} : Lit × DataW H → Nat
  | (.string bytes, d) => bytes.length + uptoBulk d + 1
  | (_, d) => uptoBulk d + 1
 end
def uptoSmall : (H : Type) → List (DataW H) → Bool := fun _ ds => decide (uptoBulkAll ds ≤ 1048576)
def OpenSpec.upto (s : _root_.Go.ChangeSpec) : _root_.Go.OpenSpec := { _root_.Go.OpenSpec.ofChange s with cond := some uptoSmall }

/-- 'laws.FnLand', WHERE WHAT IT READS IS OF BULK AT MOST 1048576: true; the input reads as it did. -/
def fnLandUptoRow : OpenClaim := { program := "ytcjhlhijdacinaagreatdoor", sum := "ae2fde1d3f9a7ba14fba69b549d011ac816f688dd59de678c654f187df484b6e", func := "loop.example/wharfmate/laws.FnLand", spec := "fnLand", inPlace := ["internal/reflectlite.TypeOf"], unfollowed := true, recurses := true, named := ["loop.example/wharfmate/impl.errNoParcel", "loop.example/wharfmate/impl.errNotToLand", "loop.example/wharfmate/impl.errNotWanted", "loop.example/wharfmate/impl.errTaken", "loop.example/wharfmate/impl.errFull", "loop.example/wharfmate/impl.errNotOk", "loop.example/wharfmate/impl.errTimeOver", "loop.example/wharfmate/impl.errNoPlace", "loop.example/wharfmate/impl.errTooMuch"], ifaces := true, apart := false, laid := [("loop.example/wharfmate/impl.errNotOk", laid_loop_example_wharfmate_impl_errNotOk), ("loop.example/wharfmate/impl.errNoPlace", laid_loop_example_wharfmate_impl_errNoPlace), ("loop.example/wharfmate/impl.errTooMuch", laid_loop_example_wharfmate_impl_errTooMuch), ("loop.example/wharfmate/impl.errTimeOver", laid_loop_example_wharfmate_impl_errTimeOver), ("loop.example/wharfmate/impl.errNoParcel", laid_loop_example_wharfmate_impl_errNoParcel), ("loop.example/wharfmate/impl.errNotToLand", laid_loop_example_wharfmate_impl_errNotToLand), ("loop.example/wharfmate/impl.errNotWanted", laid_loop_example_wharfmate_impl_errNotWanted), ("loop.example/wharfmate/impl.errTaken", laid_loop_example_wharfmate_impl_errTaken), ("loop.example/wharfmate/impl.errFull", laid_loop_example_wharfmate_impl_errFull)], narrowed := true }
def FnLandUptoSaid : Prop := fnLandUptoRow.holds Tryz.pinned (OpenSpec.upto fnLandSpec)

end Rows
end Go.Proofs.YtcjhlhijdacinaaGreatDoor
