import Derived.Test.YtefkdohkjdopeaaGreatDoorJ28
import Derived.Test.YtefkdohkjdopeaaGreatDoorRows
import Derived.Shelf.Vars
import Derived.LaidMore
import Derived.LaidOnce
import Derived.Stop.LaidErr
import Derived.Stop.LaidTwo
import Derived.Stop.Joined
import Derived.HandedShaped
import Derived.ChangeMaps5
import Derived.ChangeOld
import Derived.ProofKit
import Derived.OpenShut
import Derived.Test.YtefkdohkjdopeaaGreatDoorIter
import Derived.Test.YtefkdohkjdopeaaGreatDoorJ03
import Derived.Test.YtefkdohkjdopeaaGreatDoorJ04
namespace Go.Proofs.YtefkdohkjdopeaaGreatDoor
open Go.ChangeShapes Go.WideShapes Go.ChangeAt Go.RowKit Go.ChangeMaps
set_option linter.unusedVariables false
theorem starp : "*" ++ "errors.errorString" = "*errors.errorString" := by decide
theorem rowEp (u : TypeId) (h : Tryz.prog.typeName? 3 u = some "*errors.errorString") : u = 172 :=
 typeName_ptr_named (nm := "errors.errorString") (by rw [starp]; kernel_rfl) (by kernel_rfl) (by decide) u (by rw [starp]; exact h)
theorem er6_of {W : World} (h : laidMetH Tryz.prog Rows.fnExactMateLandTakeRow.laid W) : Er6 W := by
 rw [MakeChecks.laidMetH_plain _ _ _ (by kernel_rfl)] at h
 have h0 := h
 have h1 := laidMet.tail h0
 have h2 := laidMet.tail h1
 have h3 := laidMet.tail h2
 have h4 := laidMet.tail h3
 have h5 := laidMet.tail h4
 obtain ⟨a0, s0, v0, -, -, -⟩ := laid_sentinel h0 (g := 0) (by kernel_rfl) (by kernel_rfl) Tryz.underlying66 rowEp Tryz.underlying172 Tryz.underlying189 rfl rfl Tryz.underlying9 (by kernel_rfl) (by kernel_rfl)
 have w0 := World.var?_cell (show Tryz.prog.globalNamed "loop.example/wharfmate/impl.errNotOk" = some 0 by kernel_rfl) v0 0
 obtain ⟨a1, s1, v1, -, -, -⟩ := laid_sentinel h1 (g := 1) (by kernel_rfl) (by kernel_rfl) Tryz.underlying66 rowEp Tryz.underlying172 Tryz.underlying189 rfl rfl Tryz.underlying9 (by kernel_rfl) (by kernel_rfl)
 have w1 := World.var?_cell (show Tryz.prog.globalNamed "loop.example/wharfmate/impl.errNoParcel" = some 1 by kernel_rfl) v1 0
 obtain ⟨a2, s2, v2, -, -, -⟩ := laid_sentinel h2 (g := 2) (by kernel_rfl) (by kernel_rfl) Tryz.underlying66 rowEp Tryz.underlying172 Tryz.underlying189 rfl rfl Tryz.underlying9 (by kernel_rfl) (by kernel_rfl)
 have w2 := World.var?_cell (show Tryz.prog.globalNamed "loop.example/wharfmate/impl.errNotToLand" = some 2 by kernel_rfl) v2 0
 obtain ⟨a3, s3, v3, -, -, -⟩ := laid_sentinel h3 (g := 3) (by kernel_rfl) (by kernel_rfl) Tryz.underlying66 rowEp Tryz.underlying172 Tryz.underlying189 rfl rfl Tryz.underlying9 (by kernel_rfl) (by kernel_rfl)
 have w3 := World.var?_cell (show Tryz.prog.globalNamed "loop.example/wharfmate/impl.errNotWanted" = some 3 by kernel_rfl) v3 0
 obtain ⟨a4, s4, v4, -, -, -⟩ := laid_sentinel h4 (g := 4) (by kernel_rfl) (by kernel_rfl) Tryz.underlying66 rowEp Tryz.underlying172 Tryz.underlying189 rfl rfl Tryz.underlying9 (by kernel_rfl) (by kernel_rfl)
 have w4 := World.var?_cell (show Tryz.prog.globalNamed "loop.example/wharfmate/impl.errTaken" = some 4 by kernel_rfl) v4 0
 obtain ⟨a5, s5, v5, -, -, -⟩ := laid_sentinel h5 (g := 5) (by kernel_rfl) (by kernel_rfl) Tryz.underlying66 rowEp Tryz.underlying172 Tryz.underlying189 rfl rfl Tryz.underlying9 (by kernel_rfl) (by kernel_rfl)
 have w5 := World.var?_cell (show Tryz.prog.globalNamed "loop.example/wharfmate/impl.errFull" = some 5 by kernel_rfl) v5 0
 exact ⟨⟨⟨_, _, w0⟩, World.block_lt_of_cell? W _ w0⟩, ⟨⟨_, _, w1⟩, World.block_lt_of_cell? W _ w1⟩, ⟨⟨_, _, w2⟩, World.block_lt_of_cell? W _ w2⟩, ⟨⟨_, _, w3⟩, World.block_lt_of_cell? W _ w3⟩, ⟨⟨_, _, w4⟩, World.block_lt_of_cell? W _ w4⟩, ⟨⟨_, _, w5⟩, World.block_lt_of_cell? W _ w5⟩⟩
end Go.Proofs.YtefkdohkjdopeaaGreatDoor
namespace Go.Proofs.YtefkdohkjdopeaaGreatDoor.G
open Go.RowKit Go.Maps Go.WideMaps
theorem keysSay : KeysSay := fun mb Wo => callsIn_wide.1 (Go.Proofs.Tryz.maps_Keys_90 mb Wo)
theorem sortedSay : SortedSay := fun b nn rs w h hl => (callsIn_wide.1 (Go.Proofs.Tryz.slices_Sorted_keys_89_90 b nn (dec rs) RV w h (by rw [show size (dec rs) = rs.length from Ord.dec_size keyV rs]; unfold maxLen; omega) (by rw [show size (dec rs) = rs.length from Ord.dec_size keyV rs]; omega))).mono (by
 rintro e w' ⟨v, ss, h1, h2, h3, -, h4⟩
 exact ⟨v, ss, h1, h2, h3, h4⟩)
end Go.Proofs.YtefkdohkjdopeaaGreatDoor.G
namespace Go.Proofs.YtefkdohkjdopeaaGreatDoor.Pr
open Go.RowKit Go.Maps Go.WideMaps
theorem keysSay : KeysSay := fun mb Wo => callsIn_wide.1 (Go.Proofs.Tryz.maps_Keys_91 mb Wo)
theorem sortedSay : SortedSay := fun b nn rs w h hl => (callsIn_wide.1 (Go.Proofs.Tryz.slices_Sorted_keys_89_91 b nn (dec rs) RV w h (by rw [show size (dec rs) = rs.length from Ord.dec_size keyV rs]; unfold maxLen; omega) (by rw [show size (dec rs) = rs.length from Ord.dec_size keyV rs]; omega))).mono (by
 rintro e w' ⟨v, ss, h1, h2, h3, -, h4⟩
 exact ⟨v, ss, h1, h2, h3, h4⟩)
end Go.Proofs.YtefkdohkjdopeaaGreatDoor.Pr
