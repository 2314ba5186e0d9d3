/- What fits a parcel that tells wants: the program. -/
import Derived.Test.YteebdpnpeglimaaDoorFormF
namespace Go.Proofs.YteebdpnpeglimaaDoor
open Go.RowKit
set_option linter.unusedVariables false

noncomputable def toldB (b h c : ByteArray) (se t : Int) (ws : List W.WantD) : Bool := nameB b && (inB se 1 1000000 && (wantsB ws && noHoldB h c t))
set_option maxRecDepth 4000 in
set_option maxHeartbeats 2000000 in
theorem fitsTold_any (k : Int) (b : ByteArray) (se : Int) (ws : List W.WantD) (h c : ByteArray) (t : Int) (g : Nat) (w : World) (hP : ParIn w ⟨k, b, se, ws, h, c, t⟩ g) :
    Calls Tryd.prog 30 #[.agg #[.int .i64 k, .string b, .int .i64 se, .slice (some ⟨g, 0, none⟩) ws.length ws.length, .string h, .string c, .int .i64 t]] w fun e w' => e = .returned (.bool (toldB b h c se t ws)) ∧ Below w.heap.size w w' := by
  have HP0 : Hid (ParIn w ⟨k, b, se, ws, h, c, t⟩ g) := hP
  have zb : b.size ≤ maxLen := Nat.le_trans hP.b (by unfold maxLen; decide)
  clear hP
  have HRW : Hid (W.RowsAt (w.alloc (.cells #[.int .i64 k, .string b, .int .i64 se, .slice (some ⟨g, 0, none⟩) ws.length ws.length, .string h, .string c, .int .i64 t] 29)) g 0 ws) := HP0.out.r.keep HP0.out.g (bl_alloc (Below.refl _ _) _)
  have HGW : Hid (g < (w.alloc (.cells #[.int .i64 k, .string b, .int .i64 se, .slice (some ⟨g, 0, none⟩) ws.length ws.length, .string h, .string c, .int .i64 t] 29)).heap.size) := Nat.lt_of_lt_of_le HP0.out.g (by simp)
  go_enter Tryd.func30, Tryd.ntmps30
  go_wp2_with (first | (go_at_call 44; refine (implName_any b _ zb).mono ?_; rintro e w' ⟨rfl, rfl⟩) | (go_at_call 45; refine (within_any _ _ _ _).mono ?_; rintro e w' ⟨rfl, rfl⟩) | (go_at_call 46; refine (W.implWantsOk g 0 ws _ HRW.out HGW.out HP0.out.f HP0.out.l).mono ?_; rintro e w1 ⟨⟨q, rfl, hq⟩, b1⟩; have HQ : Hid (q = wantsB ws) := says_eq hq; have kb1 := box_keep b1; have HB1 : Hid (Below w.heap.size w w1) := bl_trans (bl_alloc (Below.refl _ _) _) b1; clear hq b1) | (go_at_call 47; refine (noHold_any k b se _ _ _ h c t _).mono ?_; rintro e w2 ⟨rfl, b2⟩; have HB2 : Hid (Below w.heap.size w w2) := bl_trans HB1.out b2; clear b2))
  all_goals (go_ret; refine ⟨ret_b ?_, ?_⟩)
  all_goals first | exact HB2.out | exact HB1.out | exact bl_alloc (Below.refl _ _) _ | (have e := HQ.out; simp [toldB, ← e, *]; done) | (simp [toldB, *]; done)
end Go.Proofs.YteebdpnpeglimaaDoor
