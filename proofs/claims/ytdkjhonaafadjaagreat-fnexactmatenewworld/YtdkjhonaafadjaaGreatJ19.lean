import Derived.Test.YtdkjhonaafadjaaGreatJ18
import Derived.Test.YtdkjhonaafadjaaGreatJ16
import Derived.Test.YtdkjhonaafadjaaGreatJ17
/- MateLandOk: the specification's side. -/
namespace Go.Proofs.YtdkjhonaafadjaaGreat.P
open Go.RowKit
set_option linter.unusedVariables false

theorem saysL_no2 {t : Int} {gs : List G.GrantD} {ps : List PlaceD} (h : LandSay t gs ps → False) : SaysL false t gs ps := ⟨fun h' => (by cases h'), fun h' => (h h').elim⟩
def EachG (t : Int) (gs : List G.GrantD) (k : Nat) : Prop := ∀ j r, j < k → gs[j]? = some r → grantB t r = true
theorem EachG.step {t : Int} {gs : List G.GrantD} {k : Nat} {r : G.GrantD} (h : EachG t gs k) (hr : gs[k]? = some r) (hs : grantB t r = true) : EachG t gs (k + 1) := by
  intro j q hj hq
  by_cases e : j = k
  · subst e; rw [hr] at hq; cases hq; exact hs
  · exact h j q (by omega) hq
theorem ml_box2 {w w' : World} {t : Int} {gs : List G.GrantD} {ps : List PlaceD} {b1 b2 : Nat} (hb : Below (w.alloc (.cells #[.int .i64 t, .slice (some ⟨b1, 0, none⟩) gs.length gs.length, .slice (some ⟨b2, 0, none⟩) ps.length ps.length] 27)).heap.size (w.alloc (.cells #[.int .i64 t, .slice (some ⟨b1, 0, none⟩) gs.length gs.length, .slice (some ⟨b2, 0, none⟩) ps.length ps.length] 27)) w') : (∀ k, w'.cell? ⟨w.heap.size, k, none⟩ = (#[.int .i64 t, .slice (some ⟨b1, 0, none⟩) gs.length gs.length, .slice (some ⟨b2, 0, none⟩) ps.length ps.length] : Array Value)[k]?) ∧ w.heap.size < w'.heap.size := by
  constructor
  · intro k
    rw [hb.cell (p := ⟨w.heap.size, k, none⟩) (by simp)]
    simp [go_sem]
  · have := hb.size; simp at this; omega

set_option maxRecDepth 4000 in
set_option maxHeartbeats 4000000 in
theorem specLandOk (t : Int) (gs : List G.GrantD) (ps : List PlaceD) (b1 b2 : Nat) (w : World) (hA : LandAt w gs ps b1 b2) (hF : Fit gs ps) :
    Calls Tryz.prog 34 #[.agg #[.int .i64 t, .slice (some ⟨b1, 0, none⟩) gs.length gs.length, .slice (some ⟨b2, 0, none⟩) ps.length ps.length]] w fun e w' => (∃ q : Bool, e = .returned (.bool q) ∧ SaysL q t gs ps) ∧ Below w.heap.size w w' := by
  have Hb0 : Hid (Below w.heap.size w (w.alloc (.cells #[.int .i64 t, .slice (some ⟨b1, 0, none⟩) gs.length gs.length, .slice (some ⟨b2, 0, none⟩) ps.length ps.length] 27))) := bl_alloc (Below.refl _ _) _
  have HA : Hid (LandAt (w.alloc (.cells #[.int .i64 t, .slice (some ⟨b1, 0, none⟩) gs.length gs.length, .slice (some ⟨b2, 0, none⟩) ps.length ps.length] 27)) gs ps b1 b2) := hA.keep Hb0.out
  have HF : Hid (Fit gs ps) := hF
  have hgl := hF.gl
  clear hA hF
  cases p1 : inB t 0 2000000
  · go_enter Tryz.func34, Tryz.ntmps34
    go_wp2_with (go_at_call 35; refine (specIn_any _ _ _ _).mono ?_; rintro e w' ⟨rfl, rfl⟩)
    go_ret
    exact ⟨⟨false, rfl, saysL_no2 (fun h => by have := h.1; simp [timeB, p1] at this)⟩, Hb0.out⟩
  have ht0 : 0 ≤ t := by simp [inB] at p1; omega
  have ht1 : t ≤ 2000000 := by simp [inB] at p1; omega
  have iw5 : IntKind.i64.wrap (t + 32) = t + 32 := by rw [IntKind.wrap_i64]; omega
  by_cases p2 : t % 2 = 0
  · by_cases h40 : gs.length ≤ 40
    · have hi40 : (gs.length : Int) ≤ 40 := by omega
      have HT : Hid (timeB t = true) := by show timeB t = true; simp [timeB, p1, p2]
      go_enter Tryz.func34, Tryz.ntmps34
      go_wp2_with (go_at_call 35; refine (specIn_any _ _ _ _).mono ?_; rintro e w' ⟨rfl, rfl⟩)
      go_loopw [3] (fun i wx => ∃ (k : Nat), k ≤ gs.length ∧ i = .int .i64 k ∧ Hid (G.AscN gs k) ∧ Hid (EachG t gs k) ∧ Hid (Below (w.alloc (.cells #[.int .i64 t, .slice (some ⟨b1, 0, none⟩) gs.length gs.length, .slice (some ⟨b2, 0, none⟩) ps.length ps.length] 27)).heap.size (w.alloc (.cells #[.int .i64 t, .slice (some ⟨b1, 0, none⟩) gs.length gs.length, .slice (some ⟨b2, 0, none⟩) ps.length ps.length] 27)) wx)) (fun i _ => gs.length - (intOf i).toNat)
      case atStart => exact ⟨0, Nat.zero_le _, rfl, (fun j q r hj _ _ => by omega), (fun j r hj _ => by omega), Below.refl _ _⟩
      case round =>
        obtain ⟨k, hk, rfl, Ha, He, HB⟩ := hrel
        obtain ⟨kb, kz⟩ := ml_box2 HB.out
        by_cases hlt : k < gs.length
        · obtain ⟨r, hr⟩ : ∃ r, gs[k]? = some r := ⟨gs[k], List.getElem?_eq_getElem hlt⟩
          obtain ⟨hf1, hf2, hf3⟩ := HF.out.g r (List.mem_of_getElem? hr)
          have Hr : Hid _ := hr
          have hA1 := HA.out.keep HB.out
          obtain ⟨c0, c1, c2, c3, c4⟩ := hA1.g.at hr
          have bz : b1 < wr.heap.size := hA1.g1
          have i0' : (0 : Int) ≤ (k : Int) := by omega
          have i1' : (k : Int) < (gs.length : Int) := by omega
          clear hr
          cases k with
          | zero =>
            simp only [Nat.zero_mul, Nat.add_zero, Nat.zero_add] at c0 c1 c2 c3 c4
            have i00 : (0 : Int) < (gs.length : Int) := by omega
            cases q1 : holdB r.h
            · go_wp2_with fail
              go_quiet (first | (go_at_call 70; refine Calls.quiet_of_same (specHold_any r.h _ hf1)) | (go_at_call 71; refine Calls.quiet_of_same (specName_any _ _ (by first | exact hf2 | exact hf3))) | (go_at_call 35; refine Calls.quiet_of_same (specIn_any _ _ _ _)))
              go_wp2
              go_ret
              exact ⟨⟨false, rfl, saysL_no2 (fun h => by have h' := h.2.1.2.2 r (List.mem_of_getElem? Hr.out); simp [grantB, *] at h')⟩, bl_trans Hb0.out (bl_dn (bl_alloc HB.out _))⟩
            cases q2 : nameB r.b
            · go_wp2_with fail
              go_quiet (first | (go_at_call 70; refine Calls.quiet_of_same (specHold_any r.h _ hf1)) | (go_at_call 71; refine Calls.quiet_of_same (specName_any _ _ (by first | exact hf2 | exact hf3))) | (go_at_call 35; refine Calls.quiet_of_same (specIn_any _ _ _ _)))
              go_wp2
              go_ret
              exact ⟨⟨false, rfl, saysL_no2 (fun h => by have h' := h.2.1.2.2 r (List.mem_of_getElem? Hr.out); simp [grantB, *] at h')⟩, bl_trans Hb0.out (bl_dn (bl_alloc HB.out _))⟩
            cases q3 : nameB r.c
            · go_wp2_with fail
              go_quiet (first | (go_at_call 70; refine Calls.quiet_of_same (specHold_any r.h _ hf1)) | (go_at_call 71; refine Calls.quiet_of_same (specName_any _ _ (by first | exact hf2 | exact hf3))) | (go_at_call 35; refine Calls.quiet_of_same (specIn_any _ _ _ _)))
              go_wp2
              go_ret
              exact ⟨⟨false, rfl, saysL_no2 (fun h => by have h' := h.2.1.2.2 r (List.mem_of_getElem? Hr.out); simp [grantB, *] at h')⟩, bl_trans Hb0.out (bl_dn (bl_alloc HB.out _))⟩
            cases q4 : inB r.t 0 1000000
            · go_wp2_with fail
              go_quiet (first | (go_at_call 70; refine Calls.quiet_of_same (specHold_any r.h _ hf1)) | (go_at_call 71; refine Calls.quiet_of_same (specName_any _ _ (by first | exact hf2 | exact hf3))) | (go_at_call 35; refine Calls.quiet_of_same (specIn_any _ _ _ _)))
              go_wp2
              go_ret
              exact ⟨⟨false, rfl, saysL_no2 (fun h => by have h' := h.2.1.2.2 r (List.mem_of_getElem? Hr.out); simp [grantB, *] at h')⟩, bl_trans Hb0.out (bl_dn (bl_alloc HB.out _))⟩
            cases q5 : inB r.u 0 (t + 32)
            · go_wp2_with fail
              go_quiet (first | (go_at_call 70; refine Calls.quiet_of_same (specHold_any r.h _ hf1)) | (go_at_call 71; refine Calls.quiet_of_same (specName_any _ _ (by first | exact hf2 | exact hf3))) | (go_at_call 35; refine Calls.quiet_of_same (specIn_any _ _ _ _)))
              go_wp2
              go_ret
              exact ⟨⟨false, rfl, saysL_no2 (fun h => by have h' := h.2.1.2.2 r (List.mem_of_getElem? Hr.out); simp [grantB, *] at h')⟩, bl_trans Hb0.out (bl_dn (bl_alloc HB.out _))⟩
            go_wp2_with fail
            go_quiet (first | (go_at_call 70; refine Calls.quiet_of_same (specHold_any r.h _ hf1)) | (go_at_call 71; refine Calls.quiet_of_same (specName_any _ _ (by first | exact hf2 | exact hf3))) | (go_at_call 35; refine Calls.quiet_of_same (specIn_any _ _ _ _)))
            go_wp2
            exact ⟨⟨0 + 1, by omega, by go_num, (fun j q r hj _ _ => by omega), He.out.step Hr.out (by simp [grantB, *]), bl_dn (bl_alloc HB.out _)⟩, by simp [intOf]; omega⟩
          | succ m =>
            simp only [Nat.zero_add] at c0 c1 c2 c3 c4
            obtain ⟨q, hq⟩ : ∃ q, gs[m]? = some q := ⟨gs[m], List.getElem?_eq_getElem (by omega)⟩
            have Hq : Hid _ := hq
            obtain ⟨e0, -⟩ := hA1.g.at hq
            simp only [Nat.zero_add] at e0
            clear hq
            have i0 : (0 : Int) ≤ (m : Int) := by omega
            have i1 : (m : Int) + 1 < (gs.length : Int) := by omega
            have i2 : (m : Int) < (gs.length : Int) := by omega
            have iw : IntKind.i64.wrap (m : Int) = (m : Int) := by rw [IntKind.wrap_i64]; omega
            clear hA1
            cases q1 : holdB r.h
            · go_wp2_with fail
              go_quiet (first | (go_at_call 70; refine Calls.quiet_of_same (specHold_any r.h _ hf1)) | (go_at_call 71; refine Calls.quiet_of_same (specName_any _ _ (by first | exact hf2 | exact hf3))) | (go_at_call 35; refine Calls.quiet_of_same (specIn_any _ _ _ _)))
              go_wp2
              go_ret
              exact ⟨⟨false, rfl, saysL_no2 (fun h => by have h' := h.2.1.2.2 r (List.mem_of_getElem? Hr.out); simp [grantB, *] at h')⟩, bl_trans Hb0.out (bl_dn (bl_alloc HB.out _))⟩
            cases q2 : nameB r.b
            · go_wp2_with fail
              go_quiet (first | (go_at_call 70; refine Calls.quiet_of_same (specHold_any r.h _ hf1)) | (go_at_call 71; refine Calls.quiet_of_same (specName_any _ _ (by first | exact hf2 | exact hf3))) | (go_at_call 35; refine Calls.quiet_of_same (specIn_any _ _ _ _)))
              go_wp2
              go_ret
              exact ⟨⟨false, rfl, saysL_no2 (fun h => by have h' := h.2.1.2.2 r (List.mem_of_getElem? Hr.out); simp [grantB, *] at h')⟩, bl_trans Hb0.out (bl_dn (bl_alloc HB.out _))⟩
            cases q3 : nameB r.c
            · go_wp2_with fail
              go_quiet (first | (go_at_call 70; refine Calls.quiet_of_same (specHold_any r.h _ hf1)) | (go_at_call 71; refine Calls.quiet_of_same (specName_any _ _ (by first | exact hf2 | exact hf3))) | (go_at_call 35; refine Calls.quiet_of_same (specIn_any _ _ _ _)))
              go_wp2
              go_ret
              exact ⟨⟨false, rfl, saysL_no2 (fun h => by have h' := h.2.1.2.2 r (List.mem_of_getElem? Hr.out); simp [grantB, *] at h')⟩, bl_trans Hb0.out (bl_dn (bl_alloc HB.out _))⟩
            cases q4 : inB r.t 0 1000000
            · go_wp2_with fail
              go_quiet (first | (go_at_call 70; refine Calls.quiet_of_same (specHold_any r.h _ hf1)) | (go_at_call 71; refine Calls.quiet_of_same (specName_any _ _ (by first | exact hf2 | exact hf3))) | (go_at_call 35; refine Calls.quiet_of_same (specIn_any _ _ _ _)))
              go_wp2
              go_ret
              exact ⟨⟨false, rfl, saysL_no2 (fun h => by have h' := h.2.1.2.2 r (List.mem_of_getElem? Hr.out); simp [grantB, *] at h')⟩, bl_trans Hb0.out (bl_dn (bl_alloc HB.out _))⟩
            cases q5 : inB r.u 0 (t + 32)
            · go_wp2_with fail
              go_quiet (first | (go_at_call 70; refine Calls.quiet_of_same (specHold_any r.h _ hf1)) | (go_at_call 71; refine Calls.quiet_of_same (specName_any _ _ (by first | exact hf2 | exact hf3))) | (go_at_call 35; refine Calls.quiet_of_same (specIn_any _ _ _ _)))
              go_wp2
              go_ret
              exact ⟨⟨false, rfl, saysL_no2 (fun h => by have h' := h.2.1.2.2 r (List.mem_of_getElem? Hr.out); simp [grantB, *] at h')⟩, bl_trans Hb0.out (bl_dn (bl_alloc HB.out _))⟩
            cases hasc : Op.bytesLess q.h.toList r.h.toList
            · go_wp2_with fail
              go_quiet (first | (go_at_call 70; refine Calls.quiet_of_same (specHold_any r.h _ hf1)) | (go_at_call 71; refine Calls.quiet_of_same (specName_any _ _ (by first | exact hf2 | exact hf3))) | (go_at_call 35; refine Calls.quiet_of_same (specIn_any _ _ _ _)))
              go_wp2
              go_ret
              exact ⟨⟨false, rfl, saysL_no2 (fun h => by have h' := h.2.1.2.1 m q r (by omega) Hq.out Hr.out; rw [hasc] at h'; cases h')⟩, bl_trans Hb0.out (bl_dn (bl_alloc HB.out _))⟩
            · go_wp2_with fail
              go_quiet (first | (go_at_call 70; refine Calls.quiet_of_same (specHold_any r.h _ hf1)) | (go_at_call 71; refine Calls.quiet_of_same (specName_any _ _ (by first | exact hf2 | exact hf3))) | (go_at_call 35; refine Calls.quiet_of_same (specIn_any _ _ _ _)))
              go_wp2
              exact ⟨⟨m + 1 + 1, by omega, by go_num, Ha.out.step Hq.out Hr.out hasc, He.out.step Hr.out (by simp [grantB, *]), bl_dn (bl_alloc HB.out _)⟩, by simp [intOf]; omega⟩
        · have HG : Hid (GrantsSay t gs) := ⟨h40, (fun j q r hj hq hr => Ha.out j q r (by omega) hq hr), fun r hr => by
            obtain ⟨j, hj⟩ := List.getElem?_of_mem hr
            have := (List.getElem?_eq_some_iff.1 hj).1
            exact He.out j r (by omega) hj⟩
          have hA1 := HA.out.keep HB.out
          go_wp2_with fail
          refine (specPlaces gs ps b1 b2 _ hA1 HF.out).mono ?_
          rintro e w2 ⟨⟨q, rfl, kq⟩, c2⟩
          have K : Hid (SaysQ q ps) := kq
          have B2 : Hid (Below w.heap.size w w2) := bl_trans Hb0.out (bl_trans HB.out c2)
          clear kq c2 hA1 kb
          go_wp2
          go_ret
          exact ⟨⟨q, rfl, ⟨fun h => ⟨HT.out, HG.out, (K.out.1 h).1, (K.out.1 h).2⟩, fun h => K.out.2 ⟨h.2.2.1, h.2.2.2⟩⟩⟩, B2.out⟩
    · have hi40 : (40 : Int) < (gs.length : Int) := by omega
      have H40 : Hid _ := h40
      clear h40
      go_enter Tryz.func34, Tryz.ntmps34
      go_wp2_with (go_at_call 35; refine (specIn_any _ _ _ _).mono ?_; rintro e w' ⟨rfl, rfl⟩)
      go_ret
      first
      | exact ⟨Or.inl ⟨rfl, saysL_no2 (fun h => absurd h.2.1.1 H40.out)⟩, Hb0.out⟩
      | exact ⟨⟨false, rfl, saysL_no2 (fun h => absurd h.2.1.1 H40.out)⟩, Hb0.out⟩
  · have HP2 : Hid _ := p2
    have p3 : (t % 2 == 0) = false := by simpa using p2
    clear p2
    go_enter Tryz.func34, Tryz.ntmps34
    go_wp2_with (go_at_call 35; refine (specIn_any _ _ _ _).mono ?_; rintro e w' ⟨rfl, rfl⟩)
    go_ret
    first
    | exact ⟨Or.inl ⟨rfl, saysL_no2 (fun h => HP2.out (by have := h.1; simp [timeB] at this; exact this.2))⟩, Hb0.out⟩
    | exact ⟨⟨false, rfl, saysL_no2 (fun h => HP2.out (by have := h.1; simp [timeB] at this; exact this.2))⟩, Hb0.out⟩
end Go.Proofs.YtdkjhonaafadjaaGreat.P
/- A book with nothing in it is ok: both sides. -/
namespace Go.Proofs.YtdkjhonaafadjaaGreat.P
open Go.RowKit
set_option linter.unusedVariables false

theorem l6Places_zero (a : Option Addr) (cap : Nat) (w : World) : Calls Tryz.prog 72 #[.slice a 0 cap] w fun e w' => e = .returned (.bool true) ∧ w' = w := by
  go_enter Tryz.func72, Tryz.ntmps72
  go_wp2
  refine wp_loop_rounds 1 ?_
  rw [rounds_succ]
  go_wp2
  go_ret
  exact ⟨rfl, rfl⟩
theorem specLand0 (w : World) : Calls Tryz.prog 34 #[.agg #[.int .i64 0, .slice none 0 0, .slice none 0 0]] w fun e w' => e = .returned (.bool true) ∧ Below w.heap.size w w' := by
  have hin : inB 0 0 2000000 = true := by decide
  go_enter Tryz.func34, Tryz.ntmps34
  go_wp2_with (go_at_call 35; refine (specIn_any _ _ _ _).mono ?_; rintro e w' ⟨rfl, hw⟩; have hw2 := hw.symm; subst hw2; clear hw)
  refine wp_loop_rounds 1 ?_
  rw [rounds_succ]
  go_wp2_with (go_at_call 72; refine (l6Places_zero _ _ _).mono ?_; rintro e w' ⟨rfl, rfl⟩)
  go_ret
  exact ⟨rfl, (by repeat (first | exact Below.refl _ _ | refine bl_alloc ?_ _))⟩
theorem gall_zero (a : Option Addr) (cap : Nat) (v : Value) (w : World) :
    Calls Tryz.prog 127 #[.slice a 0 cap, v] w fun e w' => e = .returned (.bool true) ∧ w' = w := by
  go_enter Tryz.func127, Tryz.ntmps127
  go_wp2
  refine wp_loop_rounds 1 ?_
  rw [rounds_succ]
  go_wp2
  go_ret
  exact ⟨rfl, rfl⟩
theorem gasc_zero (a : Option Addr) (cap : Nat) (v : Value) (w : World) :
    Calls Tryz.prog 125 #[.slice a 0 cap, v] w fun e w' => e = .returned (.bool true) ∧ w' = w := by
  go_enter Tryz.func125, Tryz.ntmps125
  go_wp2
  refine wp_loop_rounds 1 ?_
  rw [rounds_succ]
  go_wp2
  go_ret
  exact ⟨rfl, rfl⟩
theorem pall_zero (a : Option Addr) (cap : Nat) (v : Value) (w : World) :
    Calls Tryz.prog 131 #[.slice a 0 cap, v] w fun e w' => e = .returned (.bool true) ∧ w' = w := by
  go_enter Tryz.func131, Tryz.ntmps131
  go_wp2
  refine wp_loop_rounds 1 ?_
  rw [rounds_succ]
  go_wp2
  go_ret
  exact ⟨rfl, rfl⟩
theorem pasc_zero (a : Option Addr) (cap : Nat) (v : Value) (w : World) :
    Calls Tryz.prog 130 #[.slice a 0 cap, v] w fun e w' => e = .returned (.bool true) ∧ w' = w := by
  go_enter Tryz.func130, Tryz.ntmps130
  go_wp2
  refine wp_loop_rounds 1 ?_
  rw [rounds_succ]
  go_wp2
  go_ret
  exact ⟨rfl, rfl⟩
theorem timeOk0 (w : World) : Calls Tryz.prog 104 #[.agg #[.int .i64 0, .slice none 0 0, .slice none 0 0]] w fun e w' => e = .returned (.bool true) ∧ Below w.heap.size w w' := by
  have hin : inB 0 0 2000000 = true := by decide
  go_enter Tryz.func104, Tryz.ntmps104
  go_wp2_with (go_at_call 81; refine (within_any _ _ _ _).mono ?_; rintro e w' ⟨rfl, hw⟩; have hw2 := hw.symm; subst hw2; clear hw)
  go_ret
  exact ⟨rfl, (by repeat (first | exact Below.refl _ _ | refine bl_alloc ?_ _))⟩
theorem grantsOk0 (w : World) : Calls Tryz.prog 105 #[.agg #[.int .i64 0, .slice none 0 0, .slice none 0 0]] w fun e w' => e = .returned (.bool true) ∧ Below w.heap.size w w' := by
  go_enter Tryz.func105, Tryz.ntmps105
  go_wp2_with (first | (go_at_call 125; refine (gasc_zero _ _ _ _).mono ?_; rintro e w' ⟨rfl, rfl⟩) | (go_at_call 127; refine (gall_zero _ _ _ _).mono ?_; rintro e w' ⟨rfl, rfl⟩))
  go_ret
  exact ⟨rfl, (by repeat (first | exact Below.refl _ _ | refine bl_alloc ?_ _))⟩
theorem placesOk0 (w : World) : Calls Tryz.prog 106 #[.agg #[.int .i64 0, .slice none 0 0, .slice none 0 0]] w fun e w' => e = .returned (.bool true) ∧ Below w.heap.size w w' := by
  go_enter Tryz.func106, Tryz.ntmps106
  go_wp2_with (first | (go_at_call 130; refine (pasc_zero _ _ _ _).mono ?_; rintro e w' ⟨rfl, rfl⟩) | (go_at_call 131; refine (pall_zero _ _ _ _).mono ?_; rintro e w' ⟨rfl, rfl⟩))
  go_ret
  exact ⟨rfl, (by repeat (first | exact Below.refl _ _ | refine bl_alloc ?_ _))⟩
theorem placesHoldApart0 (w : World) : Calls Tryz.prog 107 #[.agg #[.int .i64 0, .slice none 0 0, .slice none 0 0]] w fun e w' => e = .returned (.bool true) ∧ Below w.heap.size w w' := by
  go_enter Tryz.func107, Tryz.ntmps107
  go_wp2
  refine wp_loop_rounds 1 ?_
  rw [rounds_succ]
  go_wp2_with fail
  refine (W.holdsDiffer2 none 0 [] _ (Or.inl rfl) (Nat.le_refl _) (by simp)).mono ?_
  rintro e w1 ⟨⟨q, rfl, hq⟩, c1⟩
  obtain rfl : q = true := hq.2 (fun j r hj hr => by simp at hr)
  have C1 : Hid (Below w.heap.size w w1) := bl_trans (by repeat (first | exact Below.refl _ _ | refine bl_alloc ?_ _)) c1
  clear c1 hq
  go_wp2
  go_ret
  exact ⟨rfl, C1.out⟩
theorem three_land0 {w w' : World} (hb : Below (((w.alloc (.cells #[.int .i64 0, .slice none 0 0, .slice none 0 0] 27)).alloc (.cells #[.func (.func 104) #[] #[], .func (.func 105) #[] #[], .func (.func 106) #[] #[], .func (.func 107) #[] #[]] 60)).alloc (.cells #[.int .i64 0, .slice none 0 0, .slice none 0 0] 27)).heap.size (((w.alloc (.cells #[.int .i64 0, .slice none 0 0, .slice none 0 0] 27)).alloc (.cells #[.func (.func 104) #[] #[], .func (.func 105) #[] #[], .func (.func 106) #[] #[], .func (.func 107) #[] #[]] 60)).alloc (.cells #[.int .i64 0, .slice none 0 0, .slice none 0 0] 27)) w') :
    (∀ k, w'.cell? ⟨w.heap.size + 1, k, none⟩ = (#[.func (.func 104) #[] #[], .func (.func 105) #[] #[], .func (.func 106) #[] #[], .func (.func 107) #[] #[]] : Array Value)[k]?) ∧ (∀ k, w'.cell? ⟨w.heap.size + 1 + 1, k, none⟩ = (#[.int .i64 0, .slice none 0 0, .slice none 0 0] : Array Value)[k]?) := by
  constructor
  · intro k
    rw [hb.cell (p := ⟨w.heap.size + 1, k, none⟩) (by simp)]
    simp [go_sem, World.cell?_alloc_past]
  · intro k
    rw [hb.cell (p := ⟨w.heap.size + 1 + 1, k, none⟩) (by simp)]
    simp [go_sem]

set_option maxRecDepth 4000 in
set_option maxHeartbeats 2000000 in
theorem implLand0 (w : World) : Calls Tryz.prog 80 #[.agg #[.int .i64 0, .slice none 0 0, .slice none 0 0]] w fun e w' => e = .returned (.bool true) ∧ Below w.heap.size w w' := by
  have Hx0 : Hid (Below w.heap.size w (((w.alloc (.cells #[.int .i64 0, .slice none 0 0, .slice none 0 0] 27)).alloc (.cells #[.func (.func 104) #[] #[], .func (.func 105) #[] #[], .func (.func 106) #[] #[], .func (.func 107) #[] #[]] 60)).alloc (.cells #[.int .i64 0, .slice none 0 0, .slice none 0 0] 27))) := bl_alloc (bl_alloc (bl_alloc (Below.refl _ _) _) _) _
  have hbv := build_land
  go_enter Tryz.func80, Tryz.ntmps80
  go_wp2_with go_in
  clear hbv
  refine wp_loop_rounds 5 ?_
  rw [rounds_succ]
  go_wp2_with fail
  refine (timeOk0 _).mono ?_
  rintro e w1 ⟨rfl, c1⟩
  have C1 : Hid (Below (((w.alloc (.cells #[.int .i64 0, .slice none 0 0, .slice none 0 0] 27)).alloc (.cells #[.func (.func 104) #[] #[], .func (.func 105) #[] #[], .func (.func 106) #[] #[], .func (.func 107) #[] #[]] 60)).alloc (.cells #[.int .i64 0, .slice none 0 0, .slice none 0 0] 27)).heap.size (((w.alloc (.cells #[.int .i64 0, .slice none 0 0, .slice none 0 0] 27)).alloc (.cells #[.func (.func 104) #[] #[], .func (.func 105) #[] #[], .func (.func 106) #[] #[], .func (.func 107) #[] #[]] 60)).alloc (.cells #[.int .i64 0, .slice none 0 0, .slice none 0 0] 27)) w1) := c1
  clear c1
  obtain ⟨kf1, km1⟩ := three_land0 C1.out
  go_wp2_with fail
  rw [rounds_succ]
  go_wp2_with fail
  refine (grantsOk0 _).mono ?_
  rintro e w2 ⟨rfl, c2⟩
  have C2 : Hid (Below (((w.alloc (.cells #[.int .i64 0, .slice none 0 0, .slice none 0 0] 27)).alloc (.cells #[.func (.func 104) #[] #[], .func (.func 105) #[] #[], .func (.func 106) #[] #[], .func (.func 107) #[] #[]] 60)).alloc (.cells #[.int .i64 0, .slice none 0 0, .slice none 0 0] 27)).heap.size (((w.alloc (.cells #[.int .i64 0, .slice none 0 0, .slice none 0 0] 27)).alloc (.cells #[.func (.func 104) #[] #[], .func (.func 105) #[] #[], .func (.func 106) #[] #[], .func (.func 107) #[] #[]] 60)).alloc (.cells #[.int .i64 0, .slice none 0 0, .slice none 0 0] 27)) w2) := bl_trans C1.out c2
  clear c2 kf1 km1
  obtain ⟨kf2, km2⟩ := three_land0 C2.out
  go_wp2_with fail
  rw [rounds_succ]
  go_wp2_with fail
  refine (placesOk0 _).mono ?_
  rintro e w3 ⟨rfl, c3⟩
  have C3 : Hid (Below (((w.alloc (.cells #[.int .i64 0, .slice none 0 0, .slice none 0 0] 27)).alloc (.cells #[.func (.func 104) #[] #[], .func (.func 105) #[] #[], .func (.func 106) #[] #[], .func (.func 107) #[] #[]] 60)).alloc (.cells #[.int .i64 0, .slice none 0 0, .slice none 0 0] 27)).heap.size (((w.alloc (.cells #[.int .i64 0, .slice none 0 0, .slice none 0 0] 27)).alloc (.cells #[.func (.func 104) #[] #[], .func (.func 105) #[] #[], .func (.func 106) #[] #[], .func (.func 107) #[] #[]] 60)).alloc (.cells #[.int .i64 0, .slice none 0 0, .slice none 0 0] 27)) w3) := bl_trans C2.out c3
  clear c3 kf2 km2
  obtain ⟨kf3, km3⟩ := three_land0 C3.out
  go_wp2_with fail
  rw [rounds_succ]
  go_wp2_with fail
  refine (placesHoldApart0 _).mono ?_
  rintro e w4 ⟨rfl, c4⟩
  have C4 : Hid (Below (((w.alloc (.cells #[.int .i64 0, .slice none 0 0, .slice none 0 0] 27)).alloc (.cells #[.func (.func 104) #[] #[], .func (.func 105) #[] #[], .func (.func 106) #[] #[], .func (.func 107) #[] #[]] 60)).alloc (.cells #[.int .i64 0, .slice none 0 0, .slice none 0 0] 27)).heap.size (((w.alloc (.cells #[.int .i64 0, .slice none 0 0, .slice none 0 0] 27)).alloc (.cells #[.func (.func 104) #[] #[], .func (.func 105) #[] #[], .func (.func 106) #[] #[], .func (.func 107) #[] #[]] 60)).alloc (.cells #[.int .i64 0, .slice none 0 0, .slice none 0 0] 27)) w4) := bl_trans C3.out c4
  clear c4 kf3 km3
  obtain ⟨kf4, km4⟩ := three_land0 C4.out
  go_wp2_with fail
  rw [rounds_succ]
  go_wp2
  go_ret
  exact ⟨rfl, bl_trans Hx0.out C4.out⟩
end Go.Proofs.YtdkjhonaafadjaaGreat.P
/- MateValid: the program's side, where lists may be nil. -/
namespace Go.Proofs.YtdkjhonaafadjaaGreat
open Go.RowKit
set_option linter.unusedVariables false

set_option maxRecDepth 4000 in
set_option maxHeartbeats 2000000 in
theorem partsOkX (m : MateD) (a1 a2 a3 a4 : Option Addr) (n1 n2 n3 n4 : Nat) (w : World) (hL : ListsX w m a1 a2 a3 a4) (hc : m.ws.length ≤ n1) (hf : m.fits) :
    Calls Tryz.prog 109 #[.agg #[.string m.nm, .bool m.up, .int .i64 m.ck, .bool m.kn, .int .i64 m.se, .slice a1 m.ws.length n1, .slice a2 m.rs.length n2, .slice a3 m.qs.length n3, .slice a4 m.gs.length n4]] w fun e w' => (∃ q : Bool, e = .returned (.bool q) ∧ SaysP q m) ∧ Below w.heap.size w w' := by
  have Hb0 : Hid (Below w.heap.size w (w.alloc (.cells #[.string m.nm, .bool m.up, .int .i64 m.ck, .bool m.kn, .int .i64 m.se, .slice a1 m.ws.length n1, .slice a2 m.rs.length n2, .slice a3 m.qs.length n3, .slice a4 m.gs.length n4] 52))) := bl_alloc (Below.refl _ _) _
  have HL : Hid (ListsX (w.alloc (.cells #[.string m.nm, .bool m.up, .int .i64 m.ck, .bool m.kn, .int .i64 m.se, .slice a1 m.ws.length n1, .slice a2 m.rs.length n2, .slice a3 m.qs.length n3, .slice a4 m.gs.length n4] 52)) m a1 a2 a3 a4) := hL.keep Hb0.out
  cases qn : nameB m.nm
  · go_enter Tryz.func109, Tryz.ntmps109
    go_wp2_with (first | (go_at_call 133; refine (implName_any m.nm _ hf.n).mono ?_; rintro e w' ⟨rfl, rfl⟩) | (go_at_call 81; refine (within_any _ _ _ _).mono ?_; rintro e w' ⟨rfl, rfl⟩))
    go_ret
    exact ⟨⟨false, rfl, by unfold SaysP; simp [partsB, qn]⟩, Hb0.out⟩
  cases qc : inB m.ck 0 1000000
  · go_enter Tryz.func109, Tryz.ntmps109
    go_wp2_with (first | (go_at_call 133; refine (implName_any m.nm _ hf.n).mono ?_; rintro e w' ⟨rfl, rfl⟩) | (go_at_call 81; refine (within_any _ _ _ _).mono ?_; rintro e w' ⟨rfl, rfl⟩))
    go_ret
    exact ⟨⟨false, rfl, by unfold SaysP; simp [partsB, qc]⟩, Hb0.out⟩
  cases qs : inB m.se 0 1000000
  · go_enter Tryz.func109, Tryz.ntmps109
    go_wp2_with (first | (go_at_call 133; refine (implName_any m.nm _ hf.n).mono ?_; rintro e w' ⟨rfl, rfl⟩) | (go_at_call 81; refine (within_any _ _ _ _).mono ?_; rintro e w' ⟨rfl, rfl⟩))
    go_ret
    exact ⟨⟨false, rfl, by unfold SaysP; simp [partsB, qs]⟩, Hb0.out⟩
  go_enter Tryz.func109, Tryz.ntmps109
  go_wp2_with (first | (go_at_call 133; refine (implName_any m.nm _ hf.n).mono ?_; rintro e w' ⟨rfl, rfl⟩) | (go_at_call 81; refine (within_any _ _ _ _).mono ?_; rintro e w' ⟨rfl, rfl⟩))
  go_ret
  exact ⟨⟨true, rfl, by unfold SaysP; simp [partsB, qn, qc, qs]⟩, Hb0.out⟩

set_option maxRecDepth 4000 in
set_option maxHeartbeats 2000000 in
theorem wantsHeardX (m : MateD) (a1 a2 a3 a4 : Option Addr) (n1 n2 n3 n4 : Nat) (w : World) (hL : ListsX w m a1 a2 a3 a4) (hc : m.ws.length ≤ n1) (hf : m.fits) :
    Calls Tryz.prog 110 #[.agg #[.string m.nm, .bool m.up, .int .i64 m.ck, .bool m.kn, .int .i64 m.se, .slice a1 m.ws.length n1, .slice a2 m.rs.length n2, .slice a3 m.qs.length n3, .slice a4 m.gs.length n4]] w fun e w' => (∃ q : Bool, e = .returned (.bool q) ∧ (q = true ↔ WantsSay m ∧ (m.kn = true ∨ m.ws.length = 0))) ∧ Below w.heap.size w w' := by
  have Hb0 : Hid (Below w.heap.size w (w.alloc (.cells #[.string m.nm, .bool m.up, .int .i64 m.ck, .bool m.kn, .int .i64 m.se, .slice a1 m.ws.length n1, .slice a2 m.rs.length n2, .slice a3 m.qs.length n3, .slice a4 m.gs.length n4] 52))) := bl_alloc (Below.refl _ _) _
  have HL : Hid (ListsX (w.alloc (.cells #[.string m.nm, .bool m.up, .int .i64 m.ck, .bool m.kn, .int .i64 m.se, .slice a1 m.ws.length n1, .slice a2 m.rs.length n2, .slice a3 m.qs.length n3, .slice a4 m.gs.length n4] 52)) m a1 a2 a3 a4) := hL.keep Hb0.out
  go_enter Tryz.func110, Tryz.ntmps110
  go_wp2_with fail
  refine (W.implWantsOk_gv a1 n1 m.ws _ HL.out.r1 hc hf.f1 hf.k1).mono ?_
  rintro e w1 ⟨⟨q1, rfl, h1⟩, c1⟩
  have H1 : Hid _ := h1
  have k1 := box_keep c1
  have C1 : Hid _ := bl_trans Hb0.out c1
  clear h1 c1
  cases q1
  · go_wp2
    go_ret
    exact ⟨⟨false, rfl, ⟨fun h => (by cases h), fun h => by have := H1.out.2 h.1; cases this⟩⟩, C1.out⟩
  have G1 : Hid (WantsSay m) := H1.out.1 rfl
  clear H1
  cases hk : m.kn
  · by_cases hz : m.ws.length = 0
    · have hz' : ((m.ws.length : Int) == 0) = true := by simp [hz]
      have Hz : Hid _ := hz
      clear hz
      go_wp2
      go_ret
      exact ⟨⟨true, rfl, ⟨fun _ => ⟨G1.out, Or.inr Hz.out⟩, fun _ => rfl⟩⟩, C1.out⟩
    · have hz' : ((m.ws.length : Int) == 0) = false := beq_false_of_ne (by omega)
      have Hz : Hid _ := hz
      clear hz
      go_wp2
      go_ret
      exact ⟨⟨false, rfl, ⟨fun h => (by cases h), fun h => by
        rcases h.2 with h' | h'
        · rw [hk] at h'; cases h'
        · exact absurd h' Hz.out⟩⟩, C1.out⟩
  · go_wp2
    go_ret
    exact ⟨⟨true, rfl, ⟨fun _ => ⟨G1.out, Or.inl hk⟩, fun _ => rfl⟩⟩, C1.out⟩

set_option maxRecDepth 4000 in
set_option maxHeartbeats 2000000 in
theorem runsOkNowX (m : MateD) (a1 a2 a3 a4 : Option Addr) (n1 n2 n3 n4 : Nat) (w : World) (hL : ListsX w m a1 a2 a3 a4) (hc : m.ws.length ≤ n1) (hf : m.fits) :
    Calls Tryz.prog 111 #[.agg #[.string m.nm, .bool m.up, .int .i64 m.ck, .bool m.kn, .int .i64 m.se, .slice a1 m.ws.length n1, .slice a2 m.rs.length n2, .slice a3 m.qs.length n3, .slice a4 m.gs.length n4]] w fun e w' => (∃ q : Bool, e = .returned (.bool q) ∧ (q = true ↔ RunsSay m)) ∧ Below w.heap.size w w' := by
  have Hb0 : Hid (Below w.heap.size w (w.alloc (.cells #[.string m.nm, .bool m.up, .int .i64 m.ck, .bool m.kn, .int .i64 m.se, .slice a1 m.ws.length n1, .slice a2 m.rs.length n2, .slice a3 m.qs.length n3, .slice a4 m.gs.length n4] 52))) := bl_alloc (Below.refl _ _) _
  have HL : Hid (ListsX (w.alloc (.cells #[.string m.nm, .bool m.up, .int .i64 m.ck, .bool m.kn, .int .i64 m.se, .slice a1 m.ws.length n1, .slice a2 m.rs.length n2, .slice a3 m.qs.length n3, .slice a4 m.gs.length n4] 52)) m a1 a2 a3 a4) := hL.keep Hb0.out
  go_enter Tryz.func111, Tryz.ntmps111
  go_wp2_with fail
  refine (implRunsOk_gv a2 _ m.rs m.ck _ HL.out.r2 hf.f2 hf.k2).mono ?_
  rintro e w1 ⟨⟨q1, rfl, h1⟩, c1⟩
  have H1 : Hid _ := h1
  have C1 : Hid _ := bl_trans Hb0.out c1
  clear h1 c1
  go_wp2
  go_ret
  exact ⟨⟨q1, rfl, H1.out⟩, C1.out⟩

set_option maxRecDepth 4000 in
set_option maxHeartbeats 2000000 in
theorem asksOkX (m : MateD) (a1 a2 a3 a4 : Option Addr) (n1 n2 n3 n4 : Nat) (w : World) (hL : ListsX w m a1 a2 a3 a4) (hc : m.ws.length ≤ n1) (hf : m.fits) :
    Calls Tryz.prog 112 #[.agg #[.string m.nm, .bool m.up, .int .i64 m.ck, .bool m.kn, .int .i64 m.se, .slice a1 m.ws.length n1, .slice a2 m.rs.length n2, .slice a3 m.qs.length n3, .slice a4 m.gs.length n4]] w fun e w' => (∃ q : Bool, e = .returned (.bool q) ∧ (q = true ↔ AskSay m.ck m.qs ∧ AskSay m.ck m.gs)) ∧ Below w.heap.size w w' := by
  have Hb0 : Hid (Below w.heap.size w (w.alloc (.cells #[.string m.nm, .bool m.up, .int .i64 m.ck, .bool m.kn, .int .i64 m.se, .slice a1 m.ws.length n1, .slice a2 m.rs.length n2, .slice a3 m.qs.length n3, .slice a4 m.gs.length n4] 52))) := bl_alloc (Below.refl _ _) _
  have HL : Hid (ListsX (w.alloc (.cells #[.string m.nm, .bool m.up, .int .i64 m.ck, .bool m.kn, .int .i64 m.se, .slice a1 m.ws.length n1, .slice a2 m.rs.length n2, .slice a3 m.qs.length n3, .slice a4 m.gs.length n4] 52)) m a1 a2 a3 a4) := hL.keep Hb0.out
  go_enter Tryz.func112, Tryz.ntmps112
  go_wp2_with fail
  refine (A.implAsksOk_gv a3 _ m.qs m.ck _ HL.out.r3 hf.f3 hf.k3).mono ?_
  rintro e w1 ⟨⟨q1, rfl, h1⟩, c1⟩
  have H1 : Hid _ := h1
  have k1 := box_keep c1
  have HL1 : Hid _ := HL.out.keep c1
  have C1 : Hid _ := bl_trans Hb0.out c1
  clear h1 c1
  cases q1
  · go_wp2
    go_ret
    exact ⟨⟨false, rfl, ⟨fun h => (by cases h), fun h => by have := H1.out.2 h.1; cases this⟩⟩, C1.out⟩
  have G1 : Hid (AskSay m.ck m.qs) := H1.out.1 rfl
  clear H1
  go_wp2_with fail
  refine (A.implAsksOk_gv a4 _ m.gs m.ck _ HL1.out.r4 hf.f4 hf.k4).mono ?_
  rintro e w2 ⟨⟨q2, rfl, h2⟩, c2⟩
  have H2 : Hid _ := h2
  have C2 : Hid _ := bl_trans C1.out c2
  clear h2 c2
  go_wp2
  go_ret
  exact ⟨⟨q2, rfl, ⟨fun h => ⟨G1.out, H2.out.1 h⟩, fun h => H2.out.2 h.2⟩⟩, C2.out⟩

set_option maxRecDepth 4000 in
set_option maxHeartbeats 2000000 in
theorem downOkX (m : MateD) (a1 a2 a3 a4 : Option Addr) (n1 n2 n3 n4 : Nat) (w : World) (hL : ListsX w m a1 a2 a3 a4) (hc : m.ws.length ≤ n1) (hf : m.fits) :
    Calls Tryz.prog 114 #[.agg #[.string m.nm, .bool m.up, .int .i64 m.ck, .bool m.kn, .int .i64 m.se, .slice a1 m.ws.length n1, .slice a2 m.rs.length n2, .slice a3 m.qs.length n3, .slice a4 m.gs.length n4]] w fun e w' => (∃ q : Bool, e = .returned (.bool q) ∧ (q = true ↔ m.up = true ∨ DownSay m)) ∧ Below w.heap.size w w' := by
  have Hb0 : Hid (Below w.heap.size w (w.alloc (.cells #[.string m.nm, .bool m.up, .int .i64 m.ck, .bool m.kn, .int .i64 m.se, .slice a1 m.ws.length n1, .slice a2 m.rs.length n2, .slice a3 m.qs.length n3, .slice a4 m.gs.length n4] 52))) := bl_alloc (Below.refl _ _) _
  have HL : Hid (ListsX (w.alloc (.cells #[.string m.nm, .bool m.up, .int .i64 m.ck, .bool m.kn, .int .i64 m.se, .slice a1 m.ws.length n1, .slice a2 m.rs.length n2, .slice a3 m.qs.length n3, .slice a4 m.gs.length n4] 52)) m a1 a2 a3 a4) := hL.keep Hb0.out
  obtain ⟨u, hu⟩ : ∃ u, m.up = u := ⟨_, rfl⟩
  cases u
  · obtain ⟨kk, hk⟩ : ∃ kk, m.kn = kk := ⟨_, rfl⟩
    cases kk
    · by_cases hse : m.se = 0
      · have hs' : (m.se == 0) = true := by simp [hse]
        have Hse : Hid _ := hse
        clear hse
        have k1 := hf.k1
        have k3 := hf.k3
        have k4 := hf.k4
        by_cases hz : m.ws.length + m.qs.length + m.gs.length = 0
        · have hz' : ((m.ws.length : Int) + (m.qs.length : Int) + (m.gs.length : Int) == 0) = true := by
            have : (m.ws.length : Int) + (m.qs.length : Int) + (m.gs.length : Int) = 0 := by omega
            simpa using this
          have Hz : Hid _ := hz
          clear hz
          go_enter Tryz.func114, Tryz.ntmps114
          go_wp2_with fail
          refine (allDown_gv heldB a2 _ m.rs _ (hL.keep (bl_alloc (Below.refl _ _) _)).r2 hf.k2 (fun r hr x hx => closDown r x)).mono ?_
          rintro e w1 ⟨⟨q1, rfl, h1⟩, c1⟩
          have H1 : Hid _ := h1
          have C1 : Hid _ := bl_trans (bl_alloc (Below.refl _ _) _) c1
          clear h1 c1
          go_wp2
          go_ret
          exact ⟨⟨q1, rfl, ⟨fun h => Or.inr ⟨hk, Hse.out, Hz.out, H1.out.1 h⟩, fun h => H1.out.2 (down_or h hu).2.2.2⟩⟩, C1.out⟩
        · have hz' : ((m.ws.length : Int) + (m.qs.length : Int) + (m.gs.length : Int) == 0) = false := beq_false_of_ne (by omega)
          have Hz : Hid _ := hz
          clear hz
          go_enter Tryz.func114, Tryz.ntmps114
          go_wp2
          go_ret
          exact ⟨⟨false, rfl, ⟨fun h => (by cases h), fun h => absurd (down_or h hu).2.2.1 Hz.out⟩⟩, bl_alloc (Below.refl _ _) _⟩
      · have hs' : (m.se == 0) = false := by simp [hse]
        have Hse : Hid _ := hse
        clear hse
        go_enter Tryz.func114, Tryz.ntmps114
        go_wp2
        go_ret
        exact ⟨⟨false, rfl, ⟨fun h => (by cases h), fun h => absurd (down_or h hu).2.1 Hse.out⟩⟩, bl_alloc (Below.refl _ _) _⟩
    · go_enter Tryz.func114, Tryz.ntmps114
      go_wp2
      go_ret
      exact ⟨⟨false, rfl, ⟨fun h => (by cases h), fun h => by have := (down_or h hu).1; rw [hk] at this; cases this⟩⟩, bl_alloc (Below.refl _ _) _⟩
  · go_enter Tryz.func114, Tryz.ntmps114
    go_wp2
    go_ret
    exact ⟨⟨true, rfl, ⟨fun _ => Or.inl hu, fun _ => rfl⟩⟩, bl_alloc (Below.refl _ _) _⟩
theorem three_boxesX {w w' : World} {m : MateD} {a1 a2 a3 a4 : Option Addr} {n1 n2 n3 n4 : Nat} (hb : Below (((w.alloc (.cells #[.string m.nm, .bool m.up, .int .i64 m.ck, .bool m.kn, .int .i64 m.se, .slice a1 m.ws.length n1, .slice a2 m.rs.length n2, .slice a3 m.qs.length n3, .slice a4 m.gs.length n4] 52)).alloc (.cells #[.func (.func 109) #[] #[], .func (.func 110) #[] #[], .func (.func 111) #[] #[], .func (.func 112) #[] #[], .func (.func 113) #[] #[], .func (.func 114) #[] #[]] 62)).alloc (.cells #[.string m.nm, .bool m.up, .int .i64 m.ck, .bool m.kn, .int .i64 m.se, .slice a1 m.ws.length n1, .slice a2 m.rs.length n2, .slice a3 m.qs.length n3, .slice a4 m.gs.length n4] 52)).heap.size (((w.alloc (.cells #[.string m.nm, .bool m.up, .int .i64 m.ck, .bool m.kn, .int .i64 m.se, .slice a1 m.ws.length n1, .slice a2 m.rs.length n2, .slice a3 m.qs.length n3, .slice a4 m.gs.length n4] 52)).alloc (.cells #[.func (.func 109) #[] #[], .func (.func 110) #[] #[], .func (.func 111) #[] #[], .func (.func 112) #[] #[], .func (.func 113) #[] #[], .func (.func 114) #[] #[]] 62)).alloc (.cells #[.string m.nm, .bool m.up, .int .i64 m.ck, .bool m.kn, .int .i64 m.se, .slice a1 m.ws.length n1, .slice a2 m.rs.length n2, .slice a3 m.qs.length n3, .slice a4 m.gs.length n4] 52)) w') :
    (∀ k, w'.cell? ⟨w.heap.size + 1, k, none⟩ = (#[.func (.func 109) #[] #[], .func (.func 110) #[] #[], .func (.func 111) #[] #[], .func (.func 112) #[] #[], .func (.func 113) #[] #[], .func (.func 114) #[] #[]] : Array Value)[k]?) ∧ (∀ k, w'.cell? ⟨w.heap.size + 1 + 1, k, none⟩ = (#[.string m.nm, .bool m.up, .int .i64 m.ck, .bool m.kn, .int .i64 m.se, .slice a1 m.ws.length n1, .slice a2 m.rs.length n2, .slice a3 m.qs.length n3, .slice a4 m.gs.length n4] : Array Value)[k]?) := by
  constructor
  · intro k
    rw [hb.cell (p := ⟨w.heap.size + 1, k, none⟩) (by simp)]
    simp [go_sem, World.cell?_alloc_past]
  · intro k
    rw [hb.cell (p := ⟨w.heap.size + 1 + 1, k, none⟩) (by simp)]
    simp [go_sem]

set_option maxRecDepth 4000 in
set_option maxHeartbeats 2000000 in
theorem noAskX (m : MateD) (a1 a2 a3 a4 : Option Addr) (n1 n2 n3 n4 : Nat) (w : World) (hL : ListsX w m a1 a2 a3 a4) (hc : m.ws.length ≤ n1) (hf : m.fits) :
    Calls Tryz.prog 113 #[.agg #[.string m.nm, .bool m.up, .int .i64 m.ck, .bool m.kn, .int .i64 m.se, .slice a1 m.ws.length n1, .slice a2 m.rs.length n2, .slice a3 m.qs.length n3, .slice a4 m.gs.length n4]] w fun e w' => (∃ q : Bool, e = .returned (.bool q) ∧ (q = true ↔ ∀ r ∈ m.qs, ¬ A.HasA m.gs r.h)) ∧ Below w.heap.size w w' := by
  have Hb0 : Hid (Below w.heap.size w (w.alloc (.cells #[.string m.nm, .bool m.up, .int .i64 m.ck, .bool m.kn, .int .i64 m.se, .slice a1 m.ws.length n1, .slice a2 m.rs.length n2, .slice a3 m.qs.length n3, .slice a4 m.gs.length n4] 52))) := bl_alloc (Below.refl _ _) _
  have HL : Hid (ListsX (w.alloc (.cells #[.string m.nm, .bool m.up, .int .i64 m.ck, .bool m.kn, .int .i64 m.se, .slice a1 m.ws.length n1, .slice a2 m.rs.length n2, .slice a3 m.qs.length n3, .slice a4 m.gs.length n4] 52)) m a1 a2 a3 a4) := hL.keep Hb0.out
  go_enter Tryz.func113, Tryz.ntmps113
  go_wp2_with fail
  refine (A.byName_gv a3 _ m.qs _ HL.out.r3 hf.f3 hf.k3).mono ?_
  rintro e w1 ⟨rfl, o1, c1⟩
  have k1 := box_keep c1
  have lb : w.heap.size < w1.heap.size := boxlt c1
  have HL1 : Hid _ := HL.out.keep c1
  have C1 : Hid _ := bl_trans Hb0.out c1
  have O1 : Hid (w1.ownsMap Tryz.prog 9 A.RU (w.heap.size + 1) m.qs.length (A.mapD m.qs)) := by have := o1; simp only [World.size_alloc] at this; exact this
  clear o1 c1
  go_wp2_with fail
  have hb1 : Hid (Below w1.heap.size w1 (w1.alloc (.cells #[.map (some (w.heap.size + 1))] 160))) := bl_alloc (Below.refl _ _) _
  have hck : ∀ x, Below (w1.alloc (.cells #[.map (some (w.heap.size + 1))] 160)).heap.size (w1.alloc (.cells #[.map (some (w.heap.size + 1))] 160)) x → x.cell? ⟨w1.heap.size, 0, none⟩ = some (.map (some (w.heap.size + 1))) := fun x hx => by rw [box_keep hx 0]; simp [go_sem]
  have hlk : ∀ x, Below (w1.alloc (.cells #[.map (some (w.heap.size + 1))] 160)).heap.size (w1.alloc (.cells #[.map (some (w.heap.size + 1))] 160)) x → w1.heap.size < x.heap.size := fun x hx => by have := hx.size; simp at this; omega
  have all := A.allGiven_gv w1.heap.size (fun r => !Maps.has (A.mapD m.qs) (A.keyL r.h)) a4 n4 m.gs (w1.alloc (.cells #[.map (some (w.heap.size + 1))] 160)) (HL1.out.keep hb1.out).r4 hf.k4 (fun r hr x hx => A.closGiven r w1.heap.size _ _ _ x (hck x hx) (hlk x hx) (A.owns_map_below (World.ownsMap.alloc O1.out _) hx) (hf.f4 r hr))
  have ALL : Hid _ := all
  clear all hck hlk
  first
  | refine Calls.mono ALL.out ?_
  | (have a2 := ALL.out; simp only [World.size_alloc] at a2; refine Calls.mono a2 ?_)
  rintro e w2 ⟨⟨q2, rfl, h2⟩, c2⟩
  have H2 : Hid _ := h2
  have C2 : Hid _ := bl_trans (bl_trans C1.out hb1.out) c2
  clear h2 c2
  go_wp2
  go_ret
  exact ⟨⟨q2, rfl, H2.out.trans (noboth_iff m.qs m.gs)⟩, C2.out⟩

set_option maxRecDepth 4000 in
set_option maxHeartbeats 2000000 in
theorem implValidX (m : MateD) (a1 a2 a3 a4 : Option Addr) (n1 n2 n3 n4 : Nat) (w : World) (hL : ListsX w m a1 a2 a3 a4) (hc : m.ws.length ≤ n1) (hf : m.fits) :
    Calls Tryz.prog 84 #[.agg #[.string m.nm, .bool m.up, .int .i64 m.ck, .bool m.kn, .int .i64 m.se, .slice a1 m.ws.length n1, .slice a2 m.rs.length n2, .slice a3 m.qs.length n3, .slice a4 m.gs.length n4]] w fun e w' => (∃ q : Bool, e = .returned (.bool q) ∧ SaysV q m) ∧ Below w.heap.size w w' := by
  have Hb0 : Hid (Below w.heap.size w (w.alloc (.cells #[.string m.nm, .bool m.up, .int .i64 m.ck, .bool m.kn, .int .i64 m.se, .slice a1 m.ws.length n1, .slice a2 m.rs.length n2, .slice a3 m.qs.length n3, .slice a4 m.gs.length n4] 52))) := bl_alloc (Below.refl _ _) _
  have HL : Hid (ListsX (w.alloc (.cells #[.string m.nm, .bool m.up, .int .i64 m.ck, .bool m.kn, .int .i64 m.se, .slice a1 m.ws.length n1, .slice a2 m.rs.length n2, .slice a3 m.qs.length n3, .slice a4 m.gs.length n4] 52)) m a1 a2 a3 a4) := hL.keep Hb0.out
  have hbv := build_valid
  have hx0 : Below w.heap.size w (((w.alloc (.cells #[.string m.nm, .bool m.up, .int .i64 m.ck, .bool m.kn, .int .i64 m.se, .slice a1 m.ws.length n1, .slice a2 m.rs.length n2, .slice a3 m.qs.length n3, .slice a4 m.gs.length n4] 52)).alloc (.cells #[.func (.func 109) #[] #[], .func (.func 110) #[] #[], .func (.func 111) #[] #[], .func (.func 112) #[] #[], .func (.func 113) #[] #[], .func (.func 114) #[] #[]] 62)).alloc (.cells #[.string m.nm, .bool m.up, .int .i64 m.ck, .bool m.kn, .int .i64 m.se, .slice a1 m.ws.length n1, .slice a2 m.rs.length n2, .slice a3 m.qs.length n3, .slice a4 m.gs.length n4] 52)) := bl_alloc (bl_alloc (bl_alloc (Below.refl _ _) _) _) _
  have Hx0 : Hid _ := hx0
  have HL0 : Hid _ := hL.keep hx0
  clear hx0
  go_enter Tryz.func84, Tryz.ntmps84
  go_wp2_with go_in
  clear hbv
  refine wp_loop_rounds 7 ?_
  rw [rounds_succ]
  go_wp2_with fail
  refine (partsOkX m a1 a2 a3 a4 n1 n2 n3 n4 _ HL0.out hc hf).mono ?_
  rintro e w1 ⟨⟨q1, rfl, h1⟩, c1⟩
  have H1 : Hid _ := h1
  have C1 : Hid (Below (((w.alloc (.cells #[.string m.nm, .bool m.up, .int .i64 m.ck, .bool m.kn, .int .i64 m.se, .slice a1 m.ws.length n1, .slice a2 m.rs.length n2, .slice a3 m.qs.length n3, .slice a4 m.gs.length n4] 52)).alloc (.cells #[.func (.func 109) #[] #[], .func (.func 110) #[] #[], .func (.func 111) #[] #[], .func (.func 112) #[] #[], .func (.func 113) #[] #[], .func (.func 114) #[] #[]] 62)).alloc (.cells #[.string m.nm, .bool m.up, .int .i64 m.ck, .bool m.kn, .int .i64 m.se, .slice a1 m.ws.length n1, .slice a2 m.rs.length n2, .slice a3 m.qs.length n3, .slice a4 m.gs.length n4] 52)).heap.size (((w.alloc (.cells #[.string m.nm, .bool m.up, .int .i64 m.ck, .bool m.kn, .int .i64 m.se, .slice a1 m.ws.length n1, .slice a2 m.rs.length n2, .slice a3 m.qs.length n3, .slice a4 m.gs.length n4] 52)).alloc (.cells #[.func (.func 109) #[] #[], .func (.func 110) #[] #[], .func (.func 111) #[] #[], .func (.func 112) #[] #[], .func (.func 113) #[] #[], .func (.func 114) #[] #[]] 62)).alloc (.cells #[.string m.nm, .bool m.up, .int .i64 m.ck, .bool m.kn, .int .i64 m.se, .slice a1 m.ws.length n1, .slice a2 m.rs.length n2, .slice a3 m.qs.length n3, .slice a4 m.gs.length n4] 52)) w1) := c1
  clear h1 c1
  obtain ⟨kf1, km1⟩ := three_boxesX C1.out
  cases q1
  · go_wp2
    go_ret
    exact ⟨⟨false, rfl, saysV_no (fun h => by have := H1.out.2 h.1; cases this)⟩, bl_trans Hx0.out C1.out⟩
  have G1 : Hid (partsB m = true) := H1.out.1 rfl
  clear H1
  have HL1 : Hid _ := HL0.out.keep C1.out
  go_wp2_with fail
  rw [rounds_succ]
  go_wp2_with fail
  refine (wantsHeardX m a1 a2 a3 a4 n1 n2 n3 n4 _ HL1.out hc hf).mono ?_
  rintro e w2 ⟨⟨q2, rfl, h2⟩, c2⟩
  have H2 : Hid _ := h2
  have C2 : Hid (Below (((w.alloc (.cells #[.string m.nm, .bool m.up, .int .i64 m.ck, .bool m.kn, .int .i64 m.se, .slice a1 m.ws.length n1, .slice a2 m.rs.length n2, .slice a3 m.qs.length n3, .slice a4 m.gs.length n4] 52)).alloc (.cells #[.func (.func 109) #[] #[], .func (.func 110) #[] #[], .func (.func 111) #[] #[], .func (.func 112) #[] #[], .func (.func 113) #[] #[], .func (.func 114) #[] #[]] 62)).alloc (.cells #[.string m.nm, .bool m.up, .int .i64 m.ck, .bool m.kn, .int .i64 m.se, .slice a1 m.ws.length n1, .slice a2 m.rs.length n2, .slice a3 m.qs.length n3, .slice a4 m.gs.length n4] 52)).heap.size (((w.alloc (.cells #[.string m.nm, .bool m.up, .int .i64 m.ck, .bool m.kn, .int .i64 m.se, .slice a1 m.ws.length n1, .slice a2 m.rs.length n2, .slice a3 m.qs.length n3, .slice a4 m.gs.length n4] 52)).alloc (.cells #[.func (.func 109) #[] #[], .func (.func 110) #[] #[], .func (.func 111) #[] #[], .func (.func 112) #[] #[], .func (.func 113) #[] #[], .func (.func 114) #[] #[]] 62)).alloc (.cells #[.string m.nm, .bool m.up, .int .i64 m.ck, .bool m.kn, .int .i64 m.se, .slice a1 m.ws.length n1, .slice a2 m.rs.length n2, .slice a3 m.qs.length n3, .slice a4 m.gs.length n4] 52)) w2) := bl_trans C1.out c2
  clear kf1 km1
  clear h2 c2
  obtain ⟨kf2, km2⟩ := three_boxesX C2.out
  cases q2
  · go_wp2
    go_ret
    exact ⟨⟨false, rfl, saysV_no (fun h => by have := H2.out.2 h.2.1; cases this)⟩, bl_trans Hx0.out C2.out⟩
  have G2 : Hid (WantsSay m ∧ (m.kn = true ∨ m.ws.length = 0)) := H2.out.1 rfl
  clear H2
  have HL2 : Hid _ := HL0.out.keep C2.out
  go_wp2_with fail
  rw [rounds_succ]
  go_wp2_with fail
  refine (runsOkNowX m a1 a2 a3 a4 n1 n2 n3 n4 _ HL2.out hc hf).mono ?_
  rintro e w3 ⟨⟨q3, rfl, h3⟩, c3⟩
  have H3 : Hid _ := h3
  have C3 : Hid (Below (((w.alloc (.cells #[.string m.nm, .bool m.up, .int .i64 m.ck, .bool m.kn, .int .i64 m.se, .slice a1 m.ws.length n1, .slice a2 m.rs.length n2, .slice a3 m.qs.length n3, .slice a4 m.gs.length n4] 52)).alloc (.cells #[.func (.func 109) #[] #[], .func (.func 110) #[] #[], .func (.func 111) #[] #[], .func (.func 112) #[] #[], .func (.func 113) #[] #[], .func (.func 114) #[] #[]] 62)).alloc (.cells #[.string m.nm, .bool m.up, .int .i64 m.ck, .bool m.kn, .int .i64 m.se, .slice a1 m.ws.length n1, .slice a2 m.rs.length n2, .slice a3 m.qs.length n3, .slice a4 m.gs.length n4] 52)).heap.size (((w.alloc (.cells #[.string m.nm, .bool m.up, .int .i64 m.ck, .bool m.kn, .int .i64 m.se, .slice a1 m.ws.length n1, .slice a2 m.rs.length n2, .slice a3 m.qs.length n3, .slice a4 m.gs.length n4] 52)).alloc (.cells #[.func (.func 109) #[] #[], .func (.func 110) #[] #[], .func (.func 111) #[] #[], .func (.func 112) #[] #[], .func (.func 113) #[] #[], .func (.func 114) #[] #[]] 62)).alloc (.cells #[.string m.nm, .bool m.up, .int .i64 m.ck, .bool m.kn, .int .i64 m.se, .slice a1 m.ws.length n1, .slice a2 m.rs.length n2, .slice a3 m.qs.length n3, .slice a4 m.gs.length n4] 52)) w3) := bl_trans C2.out c3
  clear kf2 km2
  clear h3 c3
  obtain ⟨kf3, km3⟩ := three_boxesX C3.out
  cases q3
  · go_wp2
    go_ret
    exact ⟨⟨false, rfl, saysV_no (fun h => by have := H3.out.2 h.2.2.1; cases this)⟩, bl_trans Hx0.out C3.out⟩
  have G3 : Hid (RunsSay m) := H3.out.1 rfl
  clear H3
  have HL3 : Hid _ := HL0.out.keep C3.out
  go_wp2_with fail
  rw [rounds_succ]
  go_wp2_with fail
  refine (asksOkX m a1 a2 a3 a4 n1 n2 n3 n4 _ HL3.out hc hf).mono ?_
  rintro e w4 ⟨⟨q4, rfl, h4⟩, c4⟩
  have H4 : Hid _ := h4
  have C4 : Hid (Below (((w.alloc (.cells #[.string m.nm, .bool m.up, .int .i64 m.ck, .bool m.kn, .int .i64 m.se, .slice a1 m.ws.length n1, .slice a2 m.rs.length n2, .slice a3 m.qs.length n3, .slice a4 m.gs.length n4] 52)).alloc (.cells #[.func (.func 109) #[] #[], .func (.func 110) #[] #[], .func (.func 111) #[] #[], .func (.func 112) #[] #[], .func (.func 113) #[] #[], .func (.func 114) #[] #[]] 62)).alloc (.cells #[.string m.nm, .bool m.up, .int .i64 m.ck, .bool m.kn, .int .i64 m.se, .slice a1 m.ws.length n1, .slice a2 m.rs.length n2, .slice a3 m.qs.length n3, .slice a4 m.gs.length n4] 52)).heap.size (((w.alloc (.cells #[.string m.nm, .bool m.up, .int .i64 m.ck, .bool m.kn, .int .i64 m.se, .slice a1 m.ws.length n1, .slice a2 m.rs.length n2, .slice a3 m.qs.length n3, .slice a4 m.gs.length n4] 52)).alloc (.cells #[.func (.func 109) #[] #[], .func (.func 110) #[] #[], .func (.func 111) #[] #[], .func (.func 112) #[] #[], .func (.func 113) #[] #[], .func (.func 114) #[] #[]] 62)).alloc (.cells #[.string m.nm, .bool m.up, .int .i64 m.ck, .bool m.kn, .int .i64 m.se, .slice a1 m.ws.length n1, .slice a2 m.rs.length n2, .slice a3 m.qs.length n3, .slice a4 m.gs.length n4] 52)) w4) := bl_trans C3.out c4
  clear kf3 km3
  clear h4 c4
  obtain ⟨kf4, km4⟩ := three_boxesX C4.out
  cases q4
  · go_wp2
    go_ret
    exact ⟨⟨false, rfl, saysV_no (fun h => by have := H4.out.2 h.2.2.2.1; cases this)⟩, bl_trans Hx0.out C4.out⟩
  have G4 : Hid (AskSay m.ck m.qs ∧ AskSay m.ck m.gs) := H4.out.1 rfl
  clear H4
  have HL4 : Hid _ := HL0.out.keep C4.out
  go_wp2_with fail
  rw [rounds_succ]
  go_wp2_with fail
  refine (noAskX m a1 a2 a3 a4 n1 n2 n3 n4 _ HL4.out hc hf).mono ?_
  rintro e w5 ⟨⟨q5, rfl, h5⟩, c5⟩
  have H5 : Hid _ := h5
  have C5 : Hid (Below (((w.alloc (.cells #[.string m.nm, .bool m.up, .int .i64 m.ck, .bool m.kn, .int .i64 m.se, .slice a1 m.ws.length n1, .slice a2 m.rs.length n2, .slice a3 m.qs.length n3, .slice a4 m.gs.length n4] 52)).alloc (.cells #[.func (.func 109) #[] #[], .func (.func 110) #[] #[], .func (.func 111) #[] #[], .func (.func 112) #[] #[], .func (.func 113) #[] #[], .func (.func 114) #[] #[]] 62)).alloc (.cells #[.string m.nm, .bool m.up, .int .i64 m.ck, .bool m.kn, .int .i64 m.se, .slice a1 m.ws.length n1, .slice a2 m.rs.length n2, .slice a3 m.qs.length n3, .slice a4 m.gs.length n4] 52)).heap.size (((w.alloc (.cells #[.string m.nm, .bool m.up, .int .i64 m.ck, .bool m.kn, .int .i64 m.se, .slice a1 m.ws.length n1, .slice a2 m.rs.length n2, .slice a3 m.qs.length n3, .slice a4 m.gs.length n4] 52)).alloc (.cells #[.func (.func 109) #[] #[], .func (.func 110) #[] #[], .func (.func 111) #[] #[], .func (.func 112) #[] #[], .func (.func 113) #[] #[], .func (.func 114) #[] #[]] 62)).alloc (.cells #[.string m.nm, .bool m.up, .int .i64 m.ck, .bool m.kn, .int .i64 m.se, .slice a1 m.ws.length n1, .slice a2 m.rs.length n2, .slice a3 m.qs.length n3, .slice a4 m.gs.length n4] 52)) w5) := bl_trans C4.out c5
  clear kf4 km4
  clear h5 c5
  obtain ⟨kf5, km5⟩ := three_boxesX C5.out
  cases q5
  · go_wp2
    go_ret
    exact ⟨⟨false, rfl, saysV_no (fun h => by have := H5.out.2 h.2.2.2.2.1; cases this)⟩, bl_trans Hx0.out C5.out⟩
  have G5 : Hid (∀ r ∈ m.qs, ¬ A.HasA m.gs r.h) := H5.out.1 rfl
  clear H5
  have HL5 : Hid _ := HL0.out.keep C5.out
  go_wp2_with fail
  rw [rounds_succ]
  go_wp2_with fail
  refine (downOkX m a1 a2 a3 a4 n1 n2 n3 n4 _ HL5.out hc hf).mono ?_
  rintro e w6 ⟨⟨q6, rfl, h6⟩, c6⟩
  have H6 : Hid _ := h6
  have C6 : Hid (Below (((w.alloc (.cells #[.string m.nm, .bool m.up, .int .i64 m.ck, .bool m.kn, .int .i64 m.se, .slice a1 m.ws.length n1, .slice a2 m.rs.length n2, .slice a3 m.qs.length n3, .slice a4 m.gs.length n4] 52)).alloc (.cells #[.func (.func 109) #[] #[], .func (.func 110) #[] #[], .func (.func 111) #[] #[], .func (.func 112) #[] #[], .func (.func 113) #[] #[], .func (.func 114) #[] #[]] 62)).alloc (.cells #[.string m.nm, .bool m.up, .int .i64 m.ck, .bool m.kn, .int .i64 m.se, .slice a1 m.ws.length n1, .slice a2 m.rs.length n2, .slice a3 m.qs.length n3, .slice a4 m.gs.length n4] 52)).heap.size (((w.alloc (.cells #[.string m.nm, .bool m.up, .int .i64 m.ck, .bool m.kn, .int .i64 m.se, .slice a1 m.ws.length n1, .slice a2 m.rs.length n2, .slice a3 m.qs.length n3, .slice a4 m.gs.length n4] 52)).alloc (.cells #[.func (.func 109) #[] #[], .func (.func 110) #[] #[], .func (.func 111) #[] #[], .func (.func 112) #[] #[], .func (.func 113) #[] #[], .func (.func 114) #[] #[]] 62)).alloc (.cells #[.string m.nm, .bool m.up, .int .i64 m.ck, .bool m.kn, .int .i64 m.se, .slice a1 m.ws.length n1, .slice a2 m.rs.length n2, .slice a3 m.qs.length n3, .slice a4 m.gs.length n4] 52)) w6) := bl_trans C5.out c6
  clear kf5 km5
  clear h6 c6
  obtain ⟨kf6, km6⟩ := three_boxesX C6.out
  cases q6
  · go_wp2
    go_ret
    exact ⟨⟨false, rfl, saysV_no (fun h => by have := H6.out.2 h.2.2.2.2.2; cases this)⟩, bl_trans Hx0.out C6.out⟩
  have G6 : Hid (m.up = true ∨ DownSay m) := H6.out.1 rfl
  clear H6
  have HL6 : Hid _ := HL0.out.keep C6.out
  go_wp2_with fail
  rw [rounds_succ]
  go_wp2
  go_ret
  exact ⟨⟨true, rfl, ⟨fun _ => ⟨G1.out, G2.out, G3.out, G4.out, G5.out, G6.out⟩, fun _ => rfl⟩⟩, bl_trans Hx0.out C6.out⟩
end Go.Proofs.YtdkjhonaafadjaaGreat
