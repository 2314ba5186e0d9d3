/- What fits a parcel's kind: the program. -/
import Derived.Test.YteebdpnpeglimaaDoorFormC
import Derived.Test.YteebdpnpeglimaaDoorWantsI2
namespace Go.Proofs.YteebdpnpeglimaaDoor
open Go.RowKit
set_option linter.unusedVariables false

def noHoldB (h c : ByteArray) (t : Int) : Bool := h.toList.isEmpty && (c.toList.isEmpty && (t == 0))
def noWantsB (se : Int) (n : Nat) : Bool := (se == 0) && ((n : Int) == 0)
def namesB (b h c : ByteArray) (t : Int) : Bool := nameB b && (nameB c && (holdB h && inB t 0 1000000))
set_option maxRecDepth 4000 in
set_option maxHeartbeats 2000000 in
theorem noHold_any (k : Int) (b : ByteArray) (se : Int) (v3 : Option Addr) (n cap : Nat) (h c : ByteArray) (t : Int) (w : World) :
    Calls Tryd.prog 47 #[.agg #[.int .i64 k, .string b, .int .i64 se, .slice v3 n cap, .string h, .string c, .int .i64 t]] w fun e w' => e = .returned (.bool (noHoldB h c t)) ∧ Below w.heap.size w w' := by
  go_enter Tryd.func47, Tryd.ntmps47
  go_wp2_with fail
  all_goals (go_ret; refine ⟨ret_b ?_, ?_⟩)
  all_goals first | exact bl_alloc (Below.refl _ _) _ | simp [noHoldB, *]
set_option maxRecDepth 4000 in
set_option maxHeartbeats 2000000 in
theorem noWants_any (k : Int) (b : ByteArray) (se : Int) (v3 : Option Addr) (n cap : Nat) (h c : ByteArray) (t : Int) (w : World) :
    Calls Tryd.prog 50 #[.agg #[.int .i64 k, .string b, .int .i64 se, .slice v3 n cap, .string h, .string c, .int .i64 t]] w fun e w' => e = .returned (.bool (noWantsB se n)) ∧ Below w.heap.size w w' := by
  go_enter Tryd.func50, Tryd.ntmps50
  go_wp2_with fail
  all_goals (go_ret; refine ⟨ret_b ?_, ?_⟩)
  all_goals first | exact bl_alloc (Below.refl _ _) _ | simp [noWantsB, *]
set_option maxRecDepth 4000 in
set_option maxHeartbeats 2000000 in
theorem names_any (k : Int) (b : ByteArray) (se : Int) (v3 : Option Addr) (n cap : Nat) (h c : ByteArray) (t : Int) (w : World) (zb : b.size ≤ maxLen) (zh : h.size ≤ maxLen) (zc : c.size ≤ maxLen) :
    Calls Tryd.prog 49 #[.agg #[.int .i64 k, .string b, .int .i64 se, .slice v3 n cap, .string h, .string c, .int .i64 t]] w fun e w' => e = .returned (.bool (namesB b h c t)) ∧ Below w.heap.size w w' := by
  go_enter Tryd.func49, Tryd.ntmps49
  go_wp2_with (first | (go_at_call 44; refine (implName_any _ _ (by assumption)).mono ?_; rintro e w' ⟨rfl, rfl⟩) | (go_at_call 51; refine (implHold_any _ _ (by assumption)).mono ?_; rintro e w' ⟨rfl, rfl⟩) | (go_at_call 45; refine (within_any _ _ _ _).mono ?_; rintro e w' ⟨rfl, rfl⟩))
  all_goals (go_ret; refine ⟨ret_b ?_, ?_⟩)
  all_goals first | exact bl_alloc (Below.refl _ _) _ | simp [namesB, *]
set_option maxRecDepth 4000 in
set_option maxHeartbeats 2000000 in
theorem fitsHold_any (k : Int) (b : ByteArray) (se : Int) (v3 : Option Addr) (n cap : Nat) (h c : ByteArray) (t : Int) (w : World) (zb : b.size ≤ maxLen) (zh : h.size ≤ maxLen) (zc : c.size ≤ maxLen) :
    Calls Tryd.prog 33 #[.agg #[.int .i64 k, .string b, .int .i64 se, .slice v3 n cap, .string h, .string c, .int .i64 t]] w fun e w' => e = .returned (.bool (namesB b h c t && noWantsB se n)) ∧ Below w.heap.size w w' := by
  go_enter Tryd.func33, Tryd.ntmps33
  go_wp2_with (first | (go_at_call 49; refine (names_any k b se v3 n cap h c t _ zb zh zc).mono ?_; rintro e w1 ⟨rfl, b1⟩; have kb1 := box_keep b1; have HB1 : Hid (Below w.heap.size w w1) := bl_trans (bl_alloc (Below.refl _ _) _) b1; clear b1) | (go_at_call 50; refine (noWants_any k b se v3 n cap h c t _).mono ?_; rintro e w2 ⟨rfl, b2⟩; have HB2 : Hid (Below w.heap.size w w2) := bl_trans HB1.out b2; clear b2))
  all_goals (go_ret; refine ⟨ret_b ?_, ?_⟩)
  all_goals first | exact HB2.out | exact HB1.out | simp [*]
def gotB (b h c : ByteArray) (se t : Int) (n : Nat) : Bool := nameB b && (holdB h && (inB t 0 1000000 && (c.toList.isEmpty && noWantsB se n)))
set_option maxRecDepth 4000 in
set_option maxHeartbeats 2000000 in
theorem fitsGot_any (k : Int) (b : ByteArray) (se : Int) (v3 : Option Addr) (n cap : Nat) (h c : ByteArray) (t : Int) (w : World) (zb : b.size ≤ maxLen) (zh : h.size ≤ maxLen) (zc : c.size ≤ maxLen) :
    Calls Tryd.prog 36 #[.agg #[.int .i64 k, .string b, .int .i64 se, .slice v3 n cap, .string h, .string c, .int .i64 t]] w fun e w' => e = .returned (.bool (gotB b h c se t n)) ∧ Below w.heap.size w w' := by
  go_enter Tryd.func36, Tryd.ntmps36
  go_wp2_with (first | (go_at_call 44; refine (implName_any _ _ (by assumption)).mono ?_; rintro e w' ⟨rfl, rfl⟩) | (go_at_call 51; refine (implHold_any _ _ (by assumption)).mono ?_; rintro e w' ⟨rfl, rfl⟩) | (go_at_call 45; refine (within_any _ _ _ _).mono ?_; rintro e w' ⟨rfl, rfl⟩) | (go_at_call 50; refine (noWants_any k b se v3 n cap h c t _).mono ?_; rintro e w2 ⟨rfl, b2⟩; have HB2 : Hid (Below w.heap.size w w2) := bl_trans (bl_alloc (Below.refl _ _) _) b2; clear b2))
  all_goals (go_ret; refine ⟨ret_b ?_, ?_⟩)
  all_goals first | exact HB2.out | exact bl_alloc (Below.refl _ _) _ | simp [gotB, *]
def hereB (b h c : ByteArray) (se t : Int) (n : Nat) : Bool := nameB b && (inB se 0 1000000 && (((n : Int) == 0) && noHoldB h c t))
set_option maxRecDepth 4000 in
set_option maxHeartbeats 2000000 in
theorem fitsHere_any (k : Int) (b : ByteArray) (se : Int) (v3 : Option Addr) (n cap : Nat) (h c : ByteArray) (t : Int) (w : World) (zb : b.size ≤ maxLen) (zh : h.size ≤ maxLen) (zc : c.size ≤ maxLen) :
    Calls Tryd.prog 39 #[.agg #[.int .i64 k, .string b, .int .i64 se, .slice v3 n cap, .string h, .string c, .int .i64 t]] w fun e w' => e = .returned (.bool (hereB b h c se t n)) ∧ Below w.heap.size w w' := by
  go_enter Tryd.func39, Tryd.ntmps39
  go_wp2_with (first | (go_at_call 44; refine (implName_any _ _ (by assumption)).mono ?_; rintro e w' ⟨rfl, rfl⟩) | (go_at_call 45; refine (within_any _ _ _ _).mono ?_; rintro e w' ⟨rfl, rfl⟩) | (go_at_call 47; refine (noHold_any k b se v3 _ cap h c t _).mono ?_; rintro e w2 ⟨rfl, b2⟩; have HB2 : Hid (Below w.heap.size w w2) := bl_trans (bl_alloc (Below.refl _ _) _) b2; clear b2))
  all_goals (go_ret; refine ⟨ret_b ?_, ?_⟩)
  all_goals first | exact HB2.out | exact bl_alloc (Below.refl _ _) _ | simp [hereB, *]
end Go.Proofs.YteebdpnpeglimaaDoor
