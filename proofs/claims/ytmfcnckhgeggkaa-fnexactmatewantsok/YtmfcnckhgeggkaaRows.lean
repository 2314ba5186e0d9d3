/-
  No cell of these rows narrows 'for every input' (looked for: loops, veiled, ifaces, maps, wideKeys, modest, calm, conditions, laid).
  DERIVED. THE GIVEN ROWS OF THIS SEAT. 4 by the template 'for every input the law returns true; each argument reads behind the call as it read before'; 0 by the template 'total and deterministic' (their statements: YtmfcnckhgeggkaaTotals.lean).
  GIVEN WITH THE SEED: the statements are not yours to turn. If you find one false, say at which input.
  Laid BY PROGRAM, IN A SANDBOX (cutbox-rows.mjs): the forced cells as the released guide's own fill.sh prints them over the translation 7038c4efaec68325… (all of the seat's roots in one cut). By AI agents, Wed Nov 11 2026. No macro, syntax, notation, axiom, sorry.
-/
import Derived.Test.YtmfcnckhgeggkaaChecked
import GoSem.Claim
import GoSem.ClaimJoined
import GoSem.ClaimMapViews
import Derived.JoinedTies
import Derived.KernelRfl
namespace Go.Proofs.Ytmfcnckhgeggkaa
/- THE CELL 'sum', in the pinned program and in every row, IS THE sha256 OF THE DUMP (.gsa) THAT YtmfcnckhgeggkaaProg.lean LOADS. Nothing in Lean hashes anything: it is a label: what it is worth is what the hold of that sum in a sandbox is worth. -/
noncomputable def Try.pinned : Pinned := { name := "ytmfcnckhgeggkaa", sum := "7038c4efaec68325c2ca9bb25f9f18c90e1eed14b16afce535472db7983fd6cb", checked := Try.checked }
namespace Rows
def none {H : Type} : Left H := { results := [], args := [] }

/-- 'laws.FnFalls': WHATEVER THE INPUT: true; the input reads as it did. -/
def fnFallsSpec : ChangeSpec := { name := "fnFalls", fn := fun _ => fun
  | [d] => { results := [.lit (.bool true)], args := [d] }
  | _ => none }
def fnFallsRow : OpenClaim := { program := "ytmfcnckhgeggkaa", sum := "7038c4efaec68325c2ca9bb25f9f18c90e1eed14b16afce535472db7983fd6cb", func := "loop.example/wharfmate/laws.FnFalls", spec := "fnFalls", unfollowed := true, recurses := true, apart := false }
def FnFallsSaid : Prop := fnFallsRow.holds Try.pinned (OpenSpec.ofChange fnFallsSpec)

/-- ITS FALSE NEIGHBOUR: 'it returns false'. Refute it at one input. -/
def fnFallsWrong : ChangeSpec := { name := "fnFalls", fn := fun _ => fun
  | [d] => { results := [.lit (.bool false)], args := [d] }
  | _ => none }
def FnFallsWrongFalsely : Prop := fnFallsRow.holds Try.pinned (OpenSpec.ofChange fnFallsWrong)

/-- 'laws.FnStops': WHATEVER THE INPUT: true; the input reads as it did. -/
def fnStopsSpec : ChangeSpec := { name := "fnStops", fn := fun _ => fun
  | [d] => { results := [.lit (.bool true)], args := [d] }
  | _ => none }
def fnStopsRow : OpenClaim := { program := "ytmfcnckhgeggkaa", sum := "7038c4efaec68325c2ca9bb25f9f18c90e1eed14b16afce535472db7983fd6cb", func := "loop.example/wharfmate/laws.FnStops", spec := "fnStops", unfollowed := true, recurses := true, apart := false }
def FnStopsSaid : Prop := fnStopsRow.holds Try.pinned (OpenSpec.ofChange fnStopsSpec)

/-- ITS FALSE NEIGHBOUR: 'it returns false'. Refute it at one input. -/
def fnStopsWrong : ChangeSpec := { name := "fnStops", fn := fun _ => fun
  | [d] => { results := [.lit (.bool false)], args := [d] }
  | _ => none }
def FnStopsWrongFalsely : Prop := fnStopsRow.holds Try.pinned (OpenSpec.ofChange fnStopsWrong)

/-- 'laws.FnExactMateWantsOk': WHATEVER THE INPUT: true; the input reads as it did. -/
def fnExactMateWantsOkSpec : ChangeSpec := { name := "fnExactMateWantsOk", fn := fun _ => fun
  | [d] => { results := [.lit (.bool true)], args := [d] }
  | _ => none }
def fnExactMateWantsOkRow : OpenClaim := { program := "ytmfcnckhgeggkaa", sum := "7038c4efaec68325c2ca9bb25f9f18c90e1eed14b16afce535472db7983fd6cb", func := "loop.example/wharfmate/laws.FnExactMateWantsOk", spec := "fnExactMateWantsOk", unfollowed := true, recurses := true, apart := false }
def FnExactMateWantsOkSaid : Prop := fnExactMateWantsOkRow.holds Try.pinned (OpenSpec.ofChange fnExactMateWantsOkSpec)

/-- ITS FALSE NEIGHBOUR: 'it returns false'. Refute it at one input. -/
def fnExactMateWantsOkWrong : ChangeSpec := { name := "fnExactMateWantsOk", fn := fun _ => fun
  | [d] => { results := [.lit (.bool false)], args := [d] }
  | _ => none }
def FnExactMateWantsOkWrongFalsely : Prop := fnExactMateWantsOkRow.holds Try.pinned (OpenSpec.ofChange fnExactMateWantsOkWrong)

/-- 'laws.FnExactMateAlive': WHATEVER THE INPUT: true; the input reads as it did. -/
def fnExactMateAliveSpec : ChangeSpec := { name := "fnExactMateAlive", fn := fun _ => fun
  | [d] => { results := [.lit (.bool true)], args := [d] }
  | _ => none }
def fnExactMateAliveRow : OpenClaim := { program := "ytmfcnckhgeggkaa", sum := "7038c4efaec68325c2ca9bb25f9f18c90e1eed14b16afce535472db7983fd6cb", func := "loop.example/wharfmate/laws.FnExactMateAlive", spec := "fnExactMateAlive", apart := false }
def FnExactMateAliveSaid : Prop := fnExactMateAliveRow.holds Try.pinned (OpenSpec.ofChange fnExactMateAliveSpec)

/-- ITS FALSE NEIGHBOUR: 'it returns false'. Refute it at one input. -/
def fnExactMateAliveWrong : ChangeSpec := { name := "fnExactMateAlive", fn := fun _ => fun
  | [d] => { results := [.lit (.bool false)], args := [d] }
  | _ => none }
def FnExactMateAliveWrongFalsely : Prop := fnExactMateAliveRow.holds Try.pinned (OpenSpec.ofChange fnExactMateAliveWrong)

/- THE SECOND FORM. 'bulk': how many values and letters a reading holds, each counted each time it is reached (what is shared counts as often as it is met; a slice's spare places count too). A statement '..UptoSaid' is the law's where the arguments, and the package variables that the reading takes, are together of bulk at most 1048576: NARROWER than '..Said'. Prove '..Said' where nothing that the law and all that it calls make is longer than what came in: it says more and counts as full. Else prove '..UptoSaid'. A law counts once. -/
mutual
def uptoBulk {H : Type} : DataW H → Nat
  | .lit (.string bytes) => bytes.length + 1
  | .lit _ => 1
  | .nil => 1
  | .ptr d => uptoBulk d + 1
  | .slice elems spare => uptoBulkAll elems + uptoBulkAll spare + 1
  | .agg parts => uptoBulkAll parts + 1
  | .iface _ d => uptoBulk d + 1
  | .map entries => uptoBulkEntries entries + 1
  | .held _ => 1
def uptoBulkAll {H : Type} : List (DataW H) → Nat
  | [] => 0
  | d :: r => uptoBulk d + uptoBulkAll r
def uptoBulkEntries {H : Type} : List (Lit × DataW H) → Nat
  | [] => 0
  | x :: r => uptoBulkEntry x + uptoBulkEntries r
def uptoBulkEntry {H : Type} : Lit × DataW H → Nat
  | (.string bytes, d) => bytes.length + uptoBulk d + 1
  | (_, d) => uptoBulk d + 1
 end
def uptoSmall : (H : Type) → List (DataW H) → Bool := fun _ ds => decide (uptoBulkAll ds ≤ 1048576)
def OpenSpec.upto (s : _root_.Go.ChangeSpec) : _root_.Go.OpenSpec := { _root_.Go.OpenSpec.ofChange s with cond := some uptoSmall }

/-- 'laws.FnFalls', WHERE WHAT IT READS IS OF BULK AT MOST 1048576: true; the input reads as it did. -/
def fnFallsUptoRow : OpenClaim := { program := "ytmfcnckhgeggkaa", sum := "7038c4efaec68325c2ca9bb25f9f18c90e1eed14b16afce535472db7983fd6cb", func := "loop.example/wharfmate/laws.FnFalls", spec := "fnFalls", unfollowed := true, recurses := true, apart := false, narrowed := true }
def FnFallsUptoSaid : Prop := fnFallsUptoRow.holds Try.pinned (OpenSpec.upto fnFallsSpec)

/-- 'laws.FnStops', WHERE WHAT IT READS IS OF BULK AT MOST 1048576: true; the input reads as it did. -/
def fnStopsUptoRow : OpenClaim := { program := "ytmfcnckhgeggkaa", sum := "7038c4efaec68325c2ca9bb25f9f18c90e1eed14b16afce535472db7983fd6cb", func := "loop.example/wharfmate/laws.FnStops", spec := "fnStops", unfollowed := true, recurses := true, apart := false, narrowed := true }
def FnStopsUptoSaid : Prop := fnStopsUptoRow.holds Try.pinned (OpenSpec.upto fnStopsSpec)

/-- 'laws.FnExactMateWantsOk', WHERE WHAT IT READS IS OF BULK AT MOST 1048576: true; the input reads as it did. -/
def fnExactMateWantsOkUptoRow : OpenClaim := { program := "ytmfcnckhgeggkaa", sum := "7038c4efaec68325c2ca9bb25f9f18c90e1eed14b16afce535472db7983fd6cb", func := "loop.example/wharfmate/laws.FnExactMateWantsOk", spec := "fnExactMateWantsOk", unfollowed := true, recurses := true, apart := false, narrowed := true }
def FnExactMateWantsOkUptoSaid : Prop := fnExactMateWantsOkUptoRow.holds Try.pinned (OpenSpec.upto fnExactMateWantsOkSpec)

/-- 'laws.FnExactMateAlive', WHERE WHAT IT READS IS OF BULK AT MOST 1048576: true; the input reads as it did. -/
def fnExactMateAliveUptoRow : OpenClaim := { program := "ytmfcnckhgeggkaa", sum := "7038c4efaec68325c2ca9bb25f9f18c90e1eed14b16afce535472db7983fd6cb", func := "loop.example/wharfmate/laws.FnExactMateAlive", spec := "fnExactMateAlive", apart := false, narrowed := true }
def FnExactMateAliveUptoSaid : Prop := fnExactMateAliveUptoRow.holds Try.pinned (OpenSpec.upto fnExactMateAliveSpec)

end Rows
end Go.Proofs.Ytmfcnckhgeggkaa
