import Derived.Test.YtefkdohkjdopeaaGreatDoorJ29
import Derived.Test.YtefkdohkjdopeaaGreatDoorJ19
import Derived.Test.YtefkdohkjdopeaaGreatDoorJ33
namespace Go.Proofs.YtefkdohkjdopeaaGreatDoor
open Go.RowKit
set_option linter.unusedVariables false
def sl9 : Nat → Nat
 | 0 => 37
 | 1 => 38
 | 2 => 39
 | 3 => 40
 | 4 => 41
 | 5 => 42
 | 6 => 43
 | 7 => 44
 | 8 => 45
 | 9 => 46
 | 10 => 47
 | _ => 0
def G9 (sv : Value) (pb Z : Nat) (q : P.PlaceD) (w : World) : Nat → Value → Prop
 | 0, v => v = sv
 | 1, v => v = .pointer (some ⟨pb, 0, none⟩)
 | 2, v => v = .string q.b
 | 3, v => v = .pointer (some ⟨pb, 1, none⟩)
 | 4, v => v = .int .i64 q.s
 | 5, v => ∃ g0, v = .slice (some ⟨g0, 0, none⟩) 0 0 ∧ w.ownsRow Z 94 7 v 0 []
 | 6, v => v = .pointer (some ⟨pb, 2, none⟩)
 | 7, v => v = .slice q.a q.ws.length q.c
 | 8, v => FrV Z q.ws w v
 | 9, v => ∃ av cv, v = .agg #[.int .i64 1, .string q.b, .int .i64 q.s, .slice av q.ws.length cv, .string { data := #[] }, .string { data := #[] }, .int .i64 0] ∧ W.Sl w (.slice av q.ws.length cv) q.ws Z
 | 10, v => ∃ av cv g, v = .slice (some ⟨g, 0, none⟩) 1 1 ∧ Z ≤ g ∧ g < w.heap.size ∧ w.heap[g]? = some (.cells (arrP q av cv) 41 (0, 0)) ∧ W.Sl w (.slice av q.ws.length cv) q.ws Z
 | _, _ => True
theorem bld0C (w : World) : Sem.run Tryz.prog (Instr.buildSlice 35 0 #[]) w = .ok (.slice (some ⟨w.heap.size, 0, none⟩) 0 0) (w.alloc (.cells #[] 41)) := by kernel_rfl
theorem pco_empty {w : World} {B b : Nat} (hB : B ≤ b) (hb : b < w.heap.size) : PcO w B [] (.slice (some ⟨b, 0, none⟩) 0 0) :=
 ⟨Or.inr ⟨b, 0, rfl, hB, hb, (fun k r h => by simp at h), fun j hj => by simp at hj⟩, fun j q hq => by simp at hq, fun j q g hq => by simp at hq, fun i j q r g _ hq => by simp at hq⟩
end Go.Proofs.YtefkdohkjdopeaaGreatDoor
