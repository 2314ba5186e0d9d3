/-
  DERIVED. GIVEN WITH THE SEED: THE PROGRAM's TIES (one call each: nine closed facts by the kernel) AND EACH ROW's TIE, after the 31st guide's Derived/Test/Toyas{Tie, Card}.lean. No idea stands in it: it is a product of the set-up. Laid BY PROGRAM, IN A SANDBOX (cutbox-door.mjs). By AI agents, Wed Nov 11 2026. No macro, syntax, notation, axiom, sorry.
-/
import Derived.Test.YtcjhlhijdacinaaGreatDoorRows
import Derived.LaidByTextLater
import Derived.SevenTiedAt
import Derived.LaidSub
import Derived.LaidOnce
namespace Go.Proofs.YtcjhlhijdacinaaGreatDoor
open Go
set_option maxRecDepth 100000
theorem seatTie1 : Tryz.prog.laidByTextLater [("loop.example/wharfmate/impl.errNotOk", Rows.laid_loop_example_wharfmate_impl_errNotOk), ("loop.example/wharfmate/impl.errNoPlace", Rows.laid_loop_example_wharfmate_impl_errNoPlace), ("loop.example/wharfmate/impl.errTooMuch", Rows.laid_loop_example_wharfmate_impl_errTooMuch), ("loop.example/wharfmate/impl.errTimeOver", Rows.laid_loop_example_wharfmate_impl_errTimeOver), ("loop.example/wharfmate/impl.errNoParcel", Rows.laid_loop_example_wharfmate_impl_errNoParcel), ("loop.example/wharfmate/impl.errNotToLand", Rows.laid_loop_example_wharfmate_impl_errNotToLand), ("loop.example/wharfmate/impl.errNotWanted", Rows.laid_loop_example_wharfmate_impl_errNotWanted), ("loop.example/wharfmate/impl.errTaken", Rows.laid_loop_example_wharfmate_impl_errTaken), ("loop.example/wharfmate/impl.errFull", Rows.laid_loop_example_wharfmate_impl_errFull)] [.sentinel, .sentinel, .sentinel, .sentinel, .sentinel, .sentinel, .sentinel, .sentinel, .sentinel] true :=
  Program.laidByTextLater_by_one 180 8 2 (by kernel_rfl) (by kernel_rfl) (by kernel_rfl) (by kernel_rfl) (by kernel_rfl) (by kernel_rfl) (fun _ _ => by kernel_rfl)
theorem noOwnUnsafe : Tryz.pinned.checked.prog.headLifts.contains "ownunsafe" = false := by kernel_rfl
theorem tie : Tryz.prog.laidByTextLater [("loop.example/wharfmate/impl.errNotOk", Rows.laid_loop_example_wharfmate_impl_errNotOk), ("loop.example/wharfmate/impl.errNoPlace", Rows.laid_loop_example_wharfmate_impl_errNoPlace), ("loop.example/wharfmate/impl.errTooMuch", Rows.laid_loop_example_wharfmate_impl_errTooMuch), ("loop.example/wharfmate/impl.errTimeOver", Rows.laid_loop_example_wharfmate_impl_errTimeOver), ("loop.example/wharfmate/impl.errNoParcel", Rows.laid_loop_example_wharfmate_impl_errNoParcel), ("loop.example/wharfmate/impl.errNotToLand", Rows.laid_loop_example_wharfmate_impl_errNotToLand), ("loop.example/wharfmate/impl.errNotWanted", Rows.laid_loop_example_wharfmate_impl_errNotWanted), ("loop.example/wharfmate/impl.errTaken", Rows.laid_loop_example_wharfmate_impl_errTaken), ("loop.example/wharfmate/impl.errFull", Rows.laid_loop_example_wharfmate_impl_errFull)] [.sentinel, .sentinel, .sentinel, .sentinel, .sentinel, .sentinel, .sentinel, .sentinel, .sentinel] true :=
  Program.laidByTextLater.sub seatTie1 ["loop.example/wharfmate/impl.errNotOk", "loop.example/wharfmate/impl.errNoPlace", "loop.example/wharfmate/impl.errTooMuch", "loop.example/wharfmate/impl.errTimeOver", "loop.example/wharfmate/impl.errNoParcel", "loop.example/wharfmate/impl.errNotToLand", "loop.example/wharfmate/impl.errNotWanted", "loop.example/wharfmate/impl.errTaken", "loop.example/wharfmate/impl.errFull"] (by kernel_rfl) (by kernel_rfl)
theorem fnLand_row_tie : Rows.fnLandRow.laidByTextAt .later Tryz.pinned [.sentinel, .sentinel, .sentinel, .sentinel, .sentinel, .sentinel, .sentinel, .sentinel, .sentinel] true :=
  OpenClaim.laidByTextAt_later rfl rfl tie noOwnUnsafe
theorem fnLandUpto_row_tie : Rows.fnLandUptoRow.laidByTextAt .later Tryz.pinned [.sentinel, .sentinel, .sentinel, .sentinel, .sentinel, .sentinel, .sentinel, .sentinel, .sentinel] true :=
  OpenClaim.laidByTextAt_later rfl rfl tie noOwnUnsafe
end Go.Proofs.YtcjhlhijdacinaaGreatDoor
