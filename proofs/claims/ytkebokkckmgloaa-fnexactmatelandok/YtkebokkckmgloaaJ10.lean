import Derived.Test.YtkebokkckmgloaaJ09
import Derived.Test.YtkebokkckmgloaaJ04
import Derived.Test.YtkebokkckmgloaaJ07
/- MateLandOk: the specification's side. -/
namespace Go.Proofs.Ytkebokkckmgloaa.P
open Go.RowKit
set_option linter.unusedVariables false

theorem saysL_no2 {t : Int} {gs : List G.GrantD} {ps : List PlaceD} (h : LandSay t gs ps → False) : SaysL false t gs ps := ⟨fun h' => (by cases h'), fun h' => (h h').elim⟩
def EachG (t : Int) (gs : List G.GrantD) (k : Nat) : Prop := ∀ j r, j < k → gs[j]? = some r → grantB t r = true
theorem EachG.step {t : Int} {gs : List G.GrantD} {k : Nat} {r : G.GrantD} (h : EachG t gs k) (hr : gs[k]? = some r) (hs : grantB t r = true) : EachG t gs (k + 1) := by
  intro j q hj hq
  by_cases e : j = k
  · subst e; rw [hr] at hq; cases hq; exact hs
  · exact h j q (by omega) hq
theorem ml_box2 {w w' : World} {t : Int} {gs : List G.GrantD} {ps : List PlaceD} {b1 b2 : Nat} (hb : Below (w.alloc (.cells #[.int .i64 t, .slice (some ⟨b1, 0, none⟩) gs.length gs.length, .slice (some ⟨b2, 0, none⟩) ps.length ps.length] 85)).heap.size (w.alloc (.cells #[.int .i64 t, .slice (some ⟨b1, 0, none⟩) gs.length gs.length, .slice (some ⟨b2, 0, none⟩) ps.length ps.length] 85)) w') : (∀ k, w'.cell? ⟨w.heap.size, k, none⟩ = (#[.int .i64 t, .slice (some ⟨b1, 0, none⟩) gs.length gs.length, .slice (some ⟨b2, 0, none⟩) ps.length ps.length] : Array Value)[k]?) ∧ w.heap.size < w'.heap.size := by
  constructor
  · intro k
    rw [hb.cell (p := ⟨w.heap.size, k, none⟩) (by simp)]
    simp [go_sem]
  · have := hb.size; simp at this; omega

set_option maxRecDepth 4000 in
set_option maxHeartbeats 4000000 in
theorem specLandOk (t : Int) (gs : List G.GrantD) (ps : List PlaceD) (b1 b2 : Nat) (w : World) (hA : LandAt w gs ps b1 b2) (hF : Fit gs ps) :
    Calls Try.prog 53 #[.agg #[.int .i64 t, .slice (some ⟨b1, 0, none⟩) gs.length gs.length, .slice (some ⟨b2, 0, none⟩) ps.length ps.length]] w fun e w' => (∃ q : Bool, e = .returned (.bool q) ∧ SaysL q t gs ps) ∧ Below w.heap.size w w' := by
  have Hb0 : Hid (Below w.heap.size w (w.alloc (.cells #[.int .i64 t, .slice (some ⟨b1, 0, none⟩) gs.length gs.length, .slice (some ⟨b2, 0, none⟩) ps.length ps.length] 85))) := bl_alloc (Below.refl _ _) _
  have HA : Hid (LandAt (w.alloc (.cells #[.int .i64 t, .slice (some ⟨b1, 0, none⟩) gs.length gs.length, .slice (some ⟨b2, 0, none⟩) ps.length ps.length] 85)) gs ps b1 b2) := hA.keep Hb0.out
  have HF : Hid (Fit gs ps) := hF
  have hgl := hF.gl
  clear hA hF
  cases p1 : inB t 0 2000000
  · go_enter Try.func53, Try.ntmps53
    go_wp2_with (go_at_call 66; refine (specIn_any _ _ _ _).mono ?_; rintro e w' ⟨rfl, rfl⟩)
    go_ret
    exact ⟨⟨false, rfl, saysL_no2 (fun h => by have := h.1; simp [timeB, p1] at this)⟩, Hb0.out⟩
  have ht0 : 0 ≤ t := by simp [inB] at p1; omega
  have ht1 : t ≤ 2000000 := by simp [inB] at p1; omega
  have iw5 : IntKind.i64.wrap (t + 32) = t + 32 := by rw [IntKind.wrap_i64]; omega
  by_cases p2 : t % 2 = 0
  · by_cases h40 : gs.length ≤ 40
    · have hi40 : (gs.length : Int) ≤ 40 := by omega
      have HT : Hid (timeB t = true) := by show timeB t = true; simp [timeB, p1, p2]
      go_enter Try.func53, Try.ntmps53
      go_wp2_with (go_at_call 66; refine (specIn_any _ _ _ _).mono ?_; rintro e w' ⟨rfl, rfl⟩)
      go_loopw [3] (fun i wx => ∃ (k : Nat), k ≤ gs.length ∧ i = .int .i64 k ∧ Hid (G.AscN gs k) ∧ Hid (EachG t gs k) ∧ Hid (Below (w.alloc (.cells #[.int .i64 t, .slice (some ⟨b1, 0, none⟩) gs.length gs.length, .slice (some ⟨b2, 0, none⟩) ps.length ps.length] 85)).heap.size (w.alloc (.cells #[.int .i64 t, .slice (some ⟨b1, 0, none⟩) gs.length gs.length, .slice (some ⟨b2, 0, none⟩) ps.length ps.length] 85)) wx)) (fun i _ => gs.length - (intOf i).toNat)
      case atStart => exact ⟨0, Nat.zero_le _, rfl, (fun j q r hj _ _ => by omega), (fun j r hj _ => by omega), Below.refl _ _⟩
      case round =>
        obtain ⟨k, hk, rfl, Ha, He, HB⟩ := hrel
        obtain ⟨kb, kz⟩ := ml_box2 HB.out
        by_cases hlt : k < gs.length
        · obtain ⟨r, hr⟩ : ∃ r, gs[k]? = some r := ⟨gs[k], List.getElem?_eq_getElem hlt⟩
          obtain ⟨hf1, hf2, hf3⟩ := HF.out.g r (List.mem_of_getElem? hr)
          have Hr : Hid _ := hr
          have hA1 := HA.out.keep HB.out
          obtain ⟨c0, c1, c2, c3, c4⟩ := hA1.g.at hr
          have bz : b1 < wr.heap.size := hA1.g1
          have i0' : (0 : Int) ≤ (k : Int) := by omega
          have i1' : (k : Int) < (gs.length : Int) := by omega
          clear hr
          cases k with
          | zero =>
            simp only [Nat.zero_mul, Nat.add_zero, Nat.zero_add] at c0 c1 c2 c3 c4
            have i00 : (0 : Int) < (gs.length : Int) := by omega
            cases q1 : holdB r.h
            · go_wp2_with fail
              go_quiet (first | (go_at_call 110; refine Calls.quiet_of_same (specHold_any r.h _ hf1)) | (go_at_call 65; refine Calls.quiet_of_same (specName_any _ _ (by first | exact hf2 | exact hf3))) | (go_at_call 66; refine Calls.quiet_of_same (specIn_any _ _ _ _)))
              go_wp2
              go_ret
              exact ⟨⟨false, rfl, saysL_no2 (fun h => by have h' := h.2.1.2.2 r (List.mem_of_getElem? Hr.out); simp [grantB, *] at h')⟩, bl_trans Hb0.out (bl_dn (bl_alloc HB.out _))⟩
            cases q2 : nameB r.b
            · go_wp2_with fail
              go_quiet (first | (go_at_call 110; refine Calls.quiet_of_same (specHold_any r.h _ hf1)) | (go_at_call 65; refine Calls.quiet_of_same (specName_any _ _ (by first | exact hf2 | exact hf3))) | (go_at_call 66; refine Calls.quiet_of_same (specIn_any _ _ _ _)))
              go_wp2
              go_ret
              exact ⟨⟨false, rfl, saysL_no2 (fun h => by have h' := h.2.1.2.2 r (List.mem_of_getElem? Hr.out); simp [grantB, *] at h')⟩, bl_trans Hb0.out (bl_dn (bl_alloc HB.out _))⟩
            cases q3 : nameB r.c
            · go_wp2_with fail
              go_quiet (first | (go_at_call 110; refine Calls.quiet_of_same (specHold_any r.h _ hf1)) | (go_at_call 65; refine Calls.quiet_of_same (specName_any _ _ (by first | exact hf2 | exact hf3))) | (go_at_call 66; refine Calls.quiet_of_same (specIn_any _ _ _ _)))
              go_wp2
              go_ret
              exact ⟨⟨false, rfl, saysL_no2 (fun h => by have h' := h.2.1.2.2 r (List.mem_of_getElem? Hr.out); simp [grantB, *] at h')⟩, bl_trans Hb0.out (bl_dn (bl_alloc HB.out _))⟩
            cases q4 : inB r.t 0 1000000
            · go_wp2_with fail
              go_quiet (first | (go_at_call 110; refine Calls.quiet_of_same (specHold_any r.h _ hf1)) | (go_at_call 65; refine Calls.quiet_of_same (specName_any _ _ (by first | exact hf2 | exact hf3))) | (go_at_call 66; refine Calls.quiet_of_same (specIn_any _ _ _ _)))
              go_wp2
              go_ret
              exact ⟨⟨false, rfl, saysL_no2 (fun h => by have h' := h.2.1.2.2 r (List.mem_of_getElem? Hr.out); simp [grantB, *] at h')⟩, bl_trans Hb0.out (bl_dn (bl_alloc HB.out _))⟩
            cases q5 : inB r.u 0 (t + 32)
            · go_wp2_with fail
              go_quiet (first | (go_at_call 110; refine Calls.quiet_of_same (specHold_any r.h _ hf1)) | (go_at_call 65; refine Calls.quiet_of_same (specName_any _ _ (by first | exact hf2 | exact hf3))) | (go_at_call 66; refine Calls.quiet_of_same (specIn_any _ _ _ _)))
              go_wp2
              go_ret
              exact ⟨⟨false, rfl, saysL_no2 (fun h => by have h' := h.2.1.2.2 r (List.mem_of_getElem? Hr.out); simp [grantB, *] at h')⟩, bl_trans Hb0.out (bl_dn (bl_alloc HB.out _))⟩
            go_wp2_with fail
            go_quiet (first | (go_at_call 110; refine Calls.quiet_of_same (specHold_any r.h _ hf1)) | (go_at_call 65; refine Calls.quiet_of_same (specName_any _ _ (by first | exact hf2 | exact hf3))) | (go_at_call 66; refine Calls.quiet_of_same (specIn_any _ _ _ _)))
            go_wp2
            exact ⟨⟨0 + 1, by omega, by go_num, (fun j q r hj _ _ => by omega), He.out.step Hr.out (by simp [grantB, *]), bl_dn (bl_alloc HB.out _)⟩, by simp [intOf]; omega⟩
          | succ m =>
            simp only [Nat.zero_add] at c0 c1 c2 c3 c4
            obtain ⟨q, hq⟩ : ∃ q, gs[m]? = some q := ⟨gs[m], List.getElem?_eq_getElem (by omega)⟩
            have Hq : Hid _ := hq
            obtain ⟨e0, -⟩ := hA1.g.at hq
            simp only [Nat.zero_add] at e0
            clear hq
            have i0 : (0 : Int) ≤ (m : Int) := by omega
            have i1 : (m : Int) + 1 < (gs.length : Int) := by omega
            have i2 : (m : Int) < (gs.length : Int) := by omega
            have iw : IntKind.i64.wrap (m : Int) = (m : Int) := by rw [IntKind.wrap_i64]; omega
            clear hA1
            cases q1 : holdB r.h
            · go_wp2_with fail
              go_quiet (first | (go_at_call 110; refine Calls.quiet_of_same (specHold_any r.h _ hf1)) | (go_at_call 65; refine Calls.quiet_of_same (specName_any _ _ (by first | exact hf2 | exact hf3))) | (go_at_call 66; refine Calls.quiet_of_same (specIn_any _ _ _ _)))
              go_wp2
              go_ret
              exact ⟨⟨false, rfl, saysL_no2 (fun h => by have h' := h.2.1.2.2 r (List.mem_of_getElem? Hr.out); simp [grantB, *] at h')⟩, bl_trans Hb0.out (bl_dn (bl_alloc HB.out _))⟩
            cases q2 : nameB r.b
            · go_wp2_with fail
              go_quiet (first | (go_at_call 110; refine Calls.quiet_of_same (specHold_any r.h _ hf1)) | (go_at_call 65; refine Calls.quiet_of_same (specName_any _ _ (by first | exact hf2 | exact hf3))) | (go_at_call 66; refine Calls.quiet_of_same (specIn_any _ _ _ _)))
              go_wp2
              go_ret
              exact ⟨⟨false, rfl, saysL_no2 (fun h => by have h' := h.2.1.2.2 r (List.mem_of_getElem? Hr.out); simp [grantB, *] at h')⟩, bl_trans Hb0.out (bl_dn (bl_alloc HB.out _))⟩
            cases q3 : nameB r.c
            · go_wp2_with fail
              go_quiet (first | (go_at_call 110; refine Calls.quiet_of_same (specHold_any r.h _ hf1)) | (go_at_call 65; refine Calls.quiet_of_same (specName_any _ _ (by first | exact hf2 | exact hf3))) | (go_at_call 66; refine Calls.quiet_of_same (specIn_any _ _ _ _)))
              go_wp2
              go_ret
              exact ⟨⟨false, rfl, saysL_no2 (fun h => by have h' := h.2.1.2.2 r (List.mem_of_getElem? Hr.out); simp [grantB, *] at h')⟩, bl_trans Hb0.out (bl_dn (bl_alloc HB.out _))⟩
            cases q4 : inB r.t 0 1000000
            · go_wp2_with fail
              go_quiet (first | (go_at_call 110; refine Calls.quiet_of_same (specHold_any r.h _ hf1)) | (go_at_call 65; refine Calls.quiet_of_same (specName_any _ _ (by first | exact hf2 | exact hf3))) | (go_at_call 66; refine Calls.quiet_of_same (specIn_any _ _ _ _)))
              go_wp2
              go_ret
              exact ⟨⟨false, rfl, saysL_no2 (fun h => by have h' := h.2.1.2.2 r (List.mem_of_getElem? Hr.out); simp [grantB, *] at h')⟩, bl_trans Hb0.out (bl_dn (bl_alloc HB.out _))⟩
            cases q5 : inB r.u 0 (t + 32)
            · go_wp2_with fail
              go_quiet (first | (go_at_call 110; refine Calls.quiet_of_same (specHold_any r.h _ hf1)) | (go_at_call 65; refine Calls.quiet_of_same (specName_any _ _ (by first | exact hf2 | exact hf3))) | (go_at_call 66; refine Calls.quiet_of_same (specIn_any _ _ _ _)))
              go_wp2
              go_ret
              exact ⟨⟨false, rfl, saysL_no2 (fun h => by have h' := h.2.1.2.2 r (List.mem_of_getElem? Hr.out); simp [grantB, *] at h')⟩, bl_trans Hb0.out (bl_dn (bl_alloc HB.out _))⟩
            cases hasc : Op.bytesLess q.h.toList r.h.toList
            · go_wp2_with fail
              go_quiet (first | (go_at_call 110; refine Calls.quiet_of_same (specHold_any r.h _ hf1)) | (go_at_call 65; refine Calls.quiet_of_same (specName_any _ _ (by first | exact hf2 | exact hf3))) | (go_at_call 66; refine Calls.quiet_of_same (specIn_any _ _ _ _)))
              go_wp2
              go_ret
              exact ⟨⟨false, rfl, saysL_no2 (fun h => by have h' := h.2.1.2.1 m q r (by omega) Hq.out Hr.out; rw [hasc] at h'; cases h')⟩, bl_trans Hb0.out (bl_dn (bl_alloc HB.out _))⟩
            · go_wp2_with fail
              go_quiet (first | (go_at_call 110; refine Calls.quiet_of_same (specHold_any r.h _ hf1)) | (go_at_call 65; refine Calls.quiet_of_same (specName_any _ _ (by first | exact hf2 | exact hf3))) | (go_at_call 66; refine Calls.quiet_of_same (specIn_any _ _ _ _)))
              go_wp2
              exact ⟨⟨m + 1 + 1, by omega, by go_num, Ha.out.step Hq.out Hr.out hasc, He.out.step Hr.out (by simp [grantB, *]), bl_dn (bl_alloc HB.out _)⟩, by simp [intOf]; omega⟩
        · have HG : Hid (GrantsSay t gs) := ⟨h40, (fun j q r hj hq hr => Ha.out j q r (by omega) hq hr), fun r hr => by
            obtain ⟨j, hj⟩ := List.getElem?_of_mem hr
            have := (List.getElem?_eq_some_iff.1 hj).1
            exact He.out j r (by omega) hj⟩
          have hA1 := HA.out.keep HB.out
          go_wp2_with fail
          refine (specPlaces gs ps b1 b2 _ hA1 HF.out).mono ?_
          rintro e w2 ⟨⟨q, rfl, kq⟩, c2⟩
          have K : Hid (SaysQ q ps) := kq
          have B2 : Hid (Below w.heap.size w w2) := bl_trans Hb0.out (bl_trans HB.out c2)
          clear kq c2 hA1 kb
          go_wp2
          go_ret
          exact ⟨⟨q, rfl, ⟨fun h => ⟨HT.out, HG.out, (K.out.1 h).1, (K.out.1 h).2⟩, fun h => K.out.2 ⟨h.2.2.1, h.2.2.2⟩⟩⟩, B2.out⟩
    · have hi40 : (40 : Int) < (gs.length : Int) := by omega
      have H40 : Hid _ := h40
      clear h40
      go_enter Try.func53, Try.ntmps53
      go_wp2_with (go_at_call 66; refine (specIn_any _ _ _ _).mono ?_; rintro e w' ⟨rfl, rfl⟩)
      go_ret
      first
      | exact ⟨Or.inl ⟨rfl, saysL_no2 (fun h => absurd h.2.1.1 H40.out)⟩, Hb0.out⟩
      | exact ⟨⟨false, rfl, saysL_no2 (fun h => absurd h.2.1.1 H40.out)⟩, Hb0.out⟩
  · have HP2 : Hid _ := p2
    have p3 : (t % 2 == 0) = false := by simpa using p2
    clear p2
    go_enter Try.func53, Try.ntmps53
    go_wp2_with (go_at_call 66; refine (specIn_any _ _ _ _).mono ?_; rintro e w' ⟨rfl, rfl⟩)
    go_ret
    first
    | exact ⟨Or.inl ⟨rfl, saysL_no2 (fun h => HP2.out (by have := h.1; simp [timeB] at this; exact this.2))⟩, Hb0.out⟩
    | exact ⟨⟨false, rfl, saysL_no2 (fun h => HP2.out (by have := h.1; simp [timeB] at this; exact this.2))⟩, Hb0.out⟩
end Go.Proofs.Ytkebokkckmgloaa.P
/- FnExactMateLandOk: the law's walk. -/
namespace Go.Proofs.Ytkebokkckmgloaa.P
open Go.RowKit
set_option linter.unusedVariables false

theorem landK {w w5 y : World} {t : Int} {gs : List G.GrantD} {qs : List PlaceD} {v1 v2 : Value} {bx e1 e2 : Nat} (hA : ∀ k, w5.cell? ⟨w.heap.size, k, none⟩ = (#[.int .i64 t, v1, v2] : Array Value)[k]?) (hX : ∀ k, w5.cell? ⟨bx, k, none⟩ = (#[.int .i64 t, .slice (some ⟨e1, 0, none⟩) gs.length gs.length, .slice (some ⟨e2, 0, none⟩) qs.length qs.length] : Array Value)[k]?) (zA : w.heap.size < w5.heap.size) (zX : bx < w5.heap.size) (hb : Below w5.heap.size w5 y) :
    Below w5.heap.size w5 y ∧ (y.cell? ⟨w.heap.size, 0, none⟩ = some (.int .i64 t) ∧ y.cell? ⟨w.heap.size, 1, none⟩ = some (v1) ∧ y.cell? ⟨w.heap.size, 2, none⟩ = some (v2) ∧ y.cell? ⟨bx, 0, none⟩ = some (.int .i64 t) ∧ y.cell? ⟨bx, 1, none⟩ = some (.slice (some ⟨e1, 0, none⟩) gs.length gs.length) ∧ y.cell? ⟨bx, 2, none⟩ = some (.slice (some ⟨e2, 0, none⟩) qs.length qs.length)) := by
  have a : ∀ k, y.cell? ⟨w.heap.size, k, none⟩ = (#[.int .i64 t, v1, v2] : Array Value)[k]? := fun k => (hb.cell (p := ⟨w.heap.size, k, none⟩) zA).trans (hA k)
  have b : ∀ k, y.cell? ⟨bx, k, none⟩ = (#[.int .i64 t, .slice (some ⟨e1, 0, none⟩) gs.length gs.length, .slice (some ⟨e2, 0, none⟩) qs.length qs.length] : Array Value)[k]? := fun k => (hb.cell (p := ⟨bx, k, none⟩) zX).trans (hX k)
  exact ⟨hb, a 0, a 1, a 2, b 0, b 1, b 2⟩

set_option maxRecDepth 4000 in
set_option maxHeartbeats 4000000 in
theorem lawLandOk (t : Int) (gs : List G.GrantD) (ps : List PlaceD) (v1 v2 : Value) (w : World) (i1 : G.In w v1 gs) (i2 : In w v2 ps) :
    Calls Try.prog 13 #[.agg #[.int .i64 t, v1, v2]] w fun e w' => e = .returned (.bool true) ∧ Below w.heap.size w w' := by
  have Hb0 : Hid (Below w.heap.size w (w.alloc (.cells #[.int .i64 t, v1, v2] 79))) := bl_alloc (Below.refl _ _) _
  go_enter Try.func13, Try.ntmps13
  go_wp2_with fail
  refine (szLand t gs ps v1 v2 _ (i1.keep Hb0.out) (i2.keep Hb0.out)).mono ?_
  rintro e w1 ⟨hx, c1⟩
  have D1 : Hid (Below (w.alloc (.cells #[.int .i64 t, v1, v2] 79)).heap.size (w.alloc (.cells #[.int .i64 t, v1, v2] 79)) w1) := c1
  have C1 : Hid (Below w.heap.size w w1) := bl_trans Hb0.out c1
  clear c1
  have ka := land_box D1.out
  rcases hx with rfl | ⟨x, rfl, x0, l1, l2, hL⟩
  · go_wp2
    go_ret
    exact ⟨rfl, C1.out⟩
  have HL : Hid (Lns ps) := hL
  have HF : Hid (Fit gs ps) := ⟨i1.fits, fun p hp => ⟨(i2.inn p hp).1, (i2.inn p hp).2.fits⟩, l1, l2, hL⟩
  clear hL
  go_wp2_with fail
  refine (toLand t gs ps v1 v2 _ (i1.keep C1.out) (i2.keep C1.out) l1 l2 HL.out).mono ?_
  rintro e w2 ⟨⟨b1, b2, rs, rfl, hs2, hA2⟩, c2⟩
  have D2 : Hid (Below (w.alloc (.cells #[.int .i64 t, v1, v2] 79)).heap.size (w.alloc (.cells #[.int .i64 t, v1, v2] 79)) w2) := bl_trans D1.out c2
  have C2 : Hid (Below w.heap.size w w2) := bl_trans C1.out c2
  have HS2 : Hid (Like rs ps) := hs2
  clear c2 ka hs2
  go_wp2_with fail
  refine (specLandOk t gs rs b1 b2 _ hA2 (HF.out.like HS2.out)).mono ?_
  rintro e w3 ⟨⟨q1, rfl, h1⟩, c3⟩
  have H1 : Hid (SaysL q1 t gs rs) := h1
  have D3 : Hid (Below (w.alloc (.cells #[.int .i64 t, v1, v2] 79)).heap.size (w.alloc (.cells #[.int .i64 t, v1, v2] 79)) w3) := bl_trans D2.out c3
  have C3 : Hid (Below w.heap.size w w3) := bl_trans C2.out c3
  clear c3 h1 hA2
  have ka := land_box D3.out
  go_wp2_with fail
  refine (toLand t gs ps v1 v2 _ (i1.keep C3.out) (i2.keep C3.out) l1 l2 HL.out).mono ?_
  rintro e w4 ⟨⟨e1, e2, qs, rfl, hs4, hA4⟩, c4⟩
  have D4 : Hid (Below (w.alloc (.cells #[.int .i64 t, v1, v2] 79)).heap.size (w.alloc (.cells #[.int .i64 t, v1, v2] 79)) w4) := bl_trans D3.out c4
  have C4 : Hid (Below w.heap.size w w4) := bl_trans C3.out c4
  have HS4 : Hid (Like qs ps) := hs4
  clear c4 ka hs4
  have hb4 : Below w4.heap.size w4 (w4.alloc (.cells #[.int .i64 t, .slice (some ⟨e1, 0, none⟩) gs.length gs.length, .slice (some ⟨e2, 0, none⟩) qs.length qs.length] 85)) := bl_alloc (Below.refl _ _) _
  have A5 : Hid (LandAt (w4.alloc (.cells #[.int .i64 t, .slice (some ⟨e1, 0, none⟩) gs.length gs.length, .slice (some ⟨e2, 0, none⟩) qs.length qs.length] 85)) gs qs e1 e2) := hA4.keep hb4
  have D5 : Hid (Below (w.alloc (.cells #[.int .i64 t, v1, v2] 79)).heap.size (w.alloc (.cells #[.int .i64 t, v1, v2] 79)) (w4.alloc (.cells #[.int .i64 t, .slice (some ⟨e1, 0, none⟩) gs.length gs.length, .slice (some ⟨e2, 0, none⟩) qs.length qs.length] 85))) := bl_trans D4.out hb4
  have C5 : Hid (Below w.heap.size w (w4.alloc (.cells #[.int .i64 t, .slice (some ⟨e1, 0, none⟩) gs.length gs.length, .slice (some ⟨e2, 0, none⟩) qs.length qs.length] 85))) := bl_trans C4.out hb4
  clear hb4 hA4
  go_wp2_with fail
  refine (implLandOk t gs qs e1 e2 _ A5.out (HF.out.like HS4.out)).mono ?_
  rintro e w5 ⟨⟨q2, rfl, h2⟩, c5⟩
  obtain rfl : q2 = q1 := by
    have h1 := H1.out
    have : q1 = true ↔ q2 = true := Iff.trans h1 (Iff.trans (Iff.trans (like_says HS2.out) (like_says HS4.out).symm) (Iff.symm h2))
    cases q1 <;> cases q2 <;> simp_all
  clear H1 h2
  have D6 : Hid (Below (w.alloc (.cells #[.int .i64 t, v1, v2] 79)).heap.size (w.alloc (.cells #[.int .i64 t, v1, v2] 79)) w5) := bl_trans D5.out c5
  have C6 : Hid (Below w.heap.size w w5) := bl_trans C5.out c5
  have A6 : Hid (LandAt w5 gs qs e1 e2) := A5.out.keep c5
  have hA : Hid (∀ k, w5.cell? ⟨w.heap.size, k, none⟩ = (#[.int .i64 t, v1, v2] : Array Value)[k]?) := land_box D6.out
  have hX : Hid (∀ k, w5.cell? ⟨w4.heap.size, k, none⟩ = (#[.int .i64 t, .slice (some ⟨e1, 0, none⟩) gs.length gs.length, .slice (some ⟨e2, 0, none⟩) qs.length qs.length] : Array Value)[k]?) := fun k => by rw [c5.cell (p := ⟨w4.heap.size, k, none⟩) (by simp)]; simp [go_sem]
  have zA : Hid (w.heap.size < w5.heap.size) := by have := D6.out.size; simp at this; show _ < _; omega
  have zX : Hid (w4.heap.size < w5.heap.size) := by have := c5.size; simp at this; show _ < _; omega
  clear c5
  cases q2
  · go_wp2_with fail
    go_region_held3 (fun y => Below w5.heap.size w5 y ∧ (y.cell? ⟨w.heap.size, 0, none⟩ = some (.int .i64 t) ∧ y.cell? ⟨w.heap.size, 1, none⟩ = some (v1) ∧ y.cell? ⟨w.heap.size, 2, none⟩ = some (v2) ∧ y.cell? ⟨w4.heap.size, 0, none⟩ = some (.int .i64 t) ∧ y.cell? ⟨w4.heap.size, 1, none⟩ = some (.slice (some ⟨e1, 0, none⟩) gs.length gs.length) ∧ y.cell? ⟨w4.heap.size, 2, none⟩ = some (.slice (some ⟨e2, 0, none⟩) qs.length qs.length)))
      (first | exact landK hA.out hX.out zA.out zX.out (bl_drew (Below.refl _ _)) | exact landK hA.out hX.out zA.out zX.out (bl_trans (bl_drew (Below.refl _ _)) hy) | exact landK hA.out hX.out zA.out zX.out (bl_trans (bl_trans (bl_drew (Below.refl _ _)) hy) hz))
      (first | (go_at_call 54; refine (toLand t gs ps v1 v2 _ (i1.keep (bl_trans C6.out (bl_drew (Below.refl _ _)))) (i2.keep (bl_trans C6.out (bl_drew (Below.refl _ _)))) l1 l2 HL.out).mono ?_; rintro e y' ⟨⟨f1, f2, us, rfl, hs7, hA7⟩, hy⟩) | (go_at_call 56; refine (eqLand t gs qs us e1 e2 f1 f2 _ (A6.out.keep (bl_trans (bl_drew (Below.refl _ _)) hy)) hA7 (Like.trans HS4.out (Like.symm hs7)) l1 (by rw [Like.len HS4.out]; exact l2) (HF.out.like HS4.out).ln).mono ?_; rintro e y'' ⟨rfl, hz⟩))
    have C7 : Hid (Below w.heap.size w y'') := bl_trans C6.out (bl_trans (bl_trans (bl_drew (Below.refl _ w5)) hy) hz)
    clear hy hz hA7 hs7
    go_wp2
    go_ret
    exact ⟨rfl, C7.out⟩
  · go_wp2_with fail
    go_region_held3 (fun y => Below w5.heap.size w5 y ∧ (y.cell? ⟨w.heap.size, 0, none⟩ = some (.int .i64 t) ∧ y.cell? ⟨w.heap.size, 1, none⟩ = some (v1) ∧ y.cell? ⟨w.heap.size, 2, none⟩ = some (v2) ∧ y.cell? ⟨w4.heap.size, 0, none⟩ = some (.int .i64 t) ∧ y.cell? ⟨w4.heap.size, 1, none⟩ = some (.slice (some ⟨e1, 0, none⟩) gs.length gs.length) ∧ y.cell? ⟨w4.heap.size, 2, none⟩ = some (.slice (some ⟨e2, 0, none⟩) qs.length qs.length)))
      (first | exact landK hA.out hX.out zA.out zX.out (bl_drew (Below.refl _ _)) | exact landK hA.out hX.out zA.out zX.out (bl_trans (bl_drew (Below.refl _ _)) hy) | exact landK hA.out hX.out zA.out zX.out (bl_trans (bl_trans (bl_drew (Below.refl _ _)) hy) hz))
      (first | (go_at_call 54; refine (toLand t gs ps v1 v2 _ (i1.keep (bl_trans C6.out (bl_drew (Below.refl _ _)))) (i2.keep (bl_trans C6.out (bl_drew (Below.refl _ _)))) l1 l2 HL.out).mono ?_; rintro e y' ⟨⟨f1, f2, us, rfl, hs7, hA7⟩, hy⟩) | (go_at_call 56; refine (eqLand t gs qs us e1 e2 f1 f2 _ (A6.out.keep (bl_trans (bl_drew (Below.refl _ _)) hy)) hA7 (Like.trans HS4.out (Like.symm hs7)) l1 (by rw [Like.len HS4.out]; exact l2) (HF.out.like HS4.out).ln).mono ?_; rintro e y'' ⟨rfl, hz⟩))
    have C7 : Hid (Below w.heap.size w y'') := bl_trans C6.out (bl_trans (bl_trans (bl_drew (Below.refl _ w5)) hy) hz)
    clear hy hz hA7 hs7
    go_wp2
    go_ret
    exact ⟨rfl, C7.out⟩
end Go.Proofs.Ytkebokkckmgloaa.P
