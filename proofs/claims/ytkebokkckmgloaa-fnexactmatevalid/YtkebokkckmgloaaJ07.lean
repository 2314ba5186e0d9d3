import Derived.Test.YtkebokkckmgloaaJ05
import Derived.Test.YtkebokkckmgloaaJ06
/- MateValid's checks: the program's side. -/
namespace Go.Proofs.Ytkebokkckmgloaa
open Go.RowKit
set_option linter.unusedVariables false

def SaysP (q : Bool) (m : MateD) : Prop := q = true ↔ partsB m = true
theorem down_or {m : MateD} (h : m.up = true ∨ DownSay m) (hu : m.up = false) : DownSay m := by
  rcases h with h' | h'
  · rw [hu] at h'; cases h'
  · exact h'
theorem implAlive_b (r : RunD) (w : World) : Calls Try.prog 23 #[.agg #[.string r.c, .int .i64 r.v, .string r.h, .int .i64 r.p, .int .i64 r.s, .int .i64 r.d, .int .i64 r.g, .int .i64 r.a, .int .i64 r.b, .int .i64 r.i, .int .i64 r.u]] w fun e w' => e = .returned (.bool (aliveB r.a)) ∧ Below w.heap.size w w' := by
  go_enter Try.func23, Try.ntmps23
  go_wp2_with (first | (go_at_call 76; refine (alive_any r.a _).mono ?_; rintro e w' ⟨rfl, rfl⟩) | (go_at_call 80; refine (runOf_any r.c r.h r.v r.p r.s r.d r.g r.a r.b r.i r.u _).mono ?_; rintro e w' ⟨rfl, rfl⟩))
  go_ret
  exact ⟨rfl, by repeat (first | exact Below.refl _ _ | refine bl_alloc ?_ _)⟩
theorem holds_b (r : RunD) (w : World) : Calls Try.prog 125 #[.agg #[.string r.c, .int .i64 r.v, .string r.h, .int .i64 r.p, .int .i64 r.s, .int .i64 r.d, .int .i64 r.g, .int .i64 r.a, .int .i64 r.b, .int .i64 r.i, .int .i64 r.u]] w fun e w' => e = .returned (.bool (!r.h.toList.isEmpty)) ∧ Below w.heap.size w w' := by
  cases he : r.h.toList.isEmpty
  · go_enter Try.func125, Try.ntmps125
    go_wp2
    go_ret
    exact ⟨rfl, by repeat (first | exact Below.refl _ _ | refine bl_alloc ?_ _)⟩
  · go_enter Try.func125, Try.ntmps125
    go_wp2
    go_ret
    exact ⟨rfl, by repeat (first | exact Below.refl _ _ | refine bl_alloc ?_ _)⟩
theorem closDown (r : RunD) (w : World) : Calls Try.prog 136 #[.agg #[.string r.c, .int .i64 r.v, .string r.h, .int .i64 r.p, .int .i64 r.s, .int .i64 r.d, .int .i64 r.g, .int .i64 r.a, .int .i64 r.b, .int .i64 r.i, .int .i64 r.u]] w fun e w' => e = .returned (.bool (heldB r)) ∧ Below w.heap.size w w' := by
  cases ha : aliveB r.a
  · have Hh : Hid (heldB r = !r.h.toList.isEmpty) := by show heldB r = _; simp [heldB, ha]
    go_enter Try.func136, Try.ntmps136
    go_wp2_with fail
    refine (implAlive_b r _).mono ?_
    rintro e w1 ⟨rfl, c1⟩
    have k1 := box_keep c1
    have C1 : Hid _ := c1
    clear c1
    go_wp2_with fail
    refine (holds_b r _).mono ?_
    rintro e w2 ⟨rfl, c2⟩
    have C2 : Hid _ := bl_trans C1.out c2
    clear c2
    go_wp2
    go_ret
    exact ⟨by rw [Hh.out]; rfl, bl_trans (bl_alloc (Below.refl _ _) _) C2.out⟩
  · have Hh : Hid (heldB r = true) := by show heldB r = _; simp [heldB, ha]
    go_enter Try.func136, Try.ntmps136
    go_wp2_with fail
    refine (implAlive_b r _).mono ?_
    rintro e w1 ⟨rfl, c1⟩
    have C1 : Hid _ := c1
    clear c1
    go_wp2
    go_ret
    exact ⟨by rw [Hh.out]; rfl, bl_trans (bl_alloc (Below.refl _ _) _) C1.out⟩

set_option maxRecDepth 4000 in
set_option maxHeartbeats 2000000 in
theorem partsOk_any (m : MateD) (b1 b2 b3 b4 : Nat) (w : World) (hL : Lists w m b1 b2 b3 b4) (hf : m.fits) :
    Calls Try.prog 70 #[.agg #[.string m.nm, .bool m.up, .int .i64 m.ck, .bool m.kn, .int .i64 m.se, .slice (some ⟨b1, 0, none⟩) m.ws.length m.ws.length, .slice (some ⟨b2, 0, none⟩) m.rs.length m.rs.length, .slice (some ⟨b3, 0, none⟩) m.qs.length m.qs.length, .slice (some ⟨b4, 0, none⟩) m.gs.length m.gs.length]] w fun e w' => (∃ q : Bool, e = .returned (.bool q) ∧ SaysP q m) ∧ Below w.heap.size w w' := by
  have Hb0 : Hid (Below w.heap.size w (w.alloc (.cells #[.string m.nm, .bool m.up, .int .i64 m.ck, .bool m.kn, .int .i64 m.se, .slice (some ⟨b1, 0, none⟩) m.ws.length m.ws.length, .slice (some ⟨b2, 0, none⟩) m.rs.length m.rs.length, .slice (some ⟨b3, 0, none⟩) m.qs.length m.qs.length, .slice (some ⟨b4, 0, none⟩) m.gs.length m.gs.length] 27))) := bl_alloc (Below.refl _ _) _
  have HL : Hid (Lists (w.alloc (.cells #[.string m.nm, .bool m.up, .int .i64 m.ck, .bool m.kn, .int .i64 m.se, .slice (some ⟨b1, 0, none⟩) m.ws.length m.ws.length, .slice (some ⟨b2, 0, none⟩) m.rs.length m.rs.length, .slice (some ⟨b3, 0, none⟩) m.qs.length m.qs.length, .slice (some ⟨b4, 0, none⟩) m.gs.length m.gs.length] 27)) m b1 b2 b3 b4) := hL.keep Hb0.out
  cases qn : nameB m.nm
  · go_enter Try.func70, Try.ntmps70
    go_wp2_with (first | (go_at_call 129; refine (implName_any m.nm _ hf.n).mono ?_; rintro e w' ⟨rfl, rfl⟩) | (go_at_call 130; refine (within_any _ _ _ _).mono ?_; rintro e w' ⟨rfl, rfl⟩))
    go_ret
    exact ⟨⟨false, rfl, by unfold SaysP; simp [partsB, qn]⟩, Hb0.out⟩
  cases qc : inB m.ck 0 1000000
  · go_enter Try.func70, Try.ntmps70
    go_wp2_with (first | (go_at_call 129; refine (implName_any m.nm _ hf.n).mono ?_; rintro e w' ⟨rfl, rfl⟩) | (go_at_call 130; refine (within_any _ _ _ _).mono ?_; rintro e w' ⟨rfl, rfl⟩))
    go_ret
    exact ⟨⟨false, rfl, by unfold SaysP; simp [partsB, qc]⟩, Hb0.out⟩
  cases qs : inB m.se 0 1000000
  · go_enter Try.func70, Try.ntmps70
    go_wp2_with (first | (go_at_call 129; refine (implName_any m.nm _ hf.n).mono ?_; rintro e w' ⟨rfl, rfl⟩) | (go_at_call 130; refine (within_any _ _ _ _).mono ?_; rintro e w' ⟨rfl, rfl⟩))
    go_ret
    exact ⟨⟨false, rfl, by unfold SaysP; simp [partsB, qs]⟩, Hb0.out⟩
  go_enter Try.func70, Try.ntmps70
  go_wp2_with (first | (go_at_call 129; refine (implName_any m.nm _ hf.n).mono ?_; rintro e w' ⟨rfl, rfl⟩) | (go_at_call 130; refine (within_any _ _ _ _).mono ?_; rintro e w' ⟨rfl, rfl⟩))
  go_ret
  exact ⟨⟨true, rfl, by unfold SaysP; simp [partsB, qn, qc, qs]⟩, Hb0.out⟩

set_option maxRecDepth 4000 in
set_option maxHeartbeats 2000000 in
theorem wantsHeard_any (m : MateD) (b1 b2 b3 b4 : Nat) (w : World) (hL : Lists w m b1 b2 b3 b4) (hf : m.fits) :
    Calls Try.prog 71 #[.agg #[.string m.nm, .bool m.up, .int .i64 m.ck, .bool m.kn, .int .i64 m.se, .slice (some ⟨b1, 0, none⟩) m.ws.length m.ws.length, .slice (some ⟨b2, 0, none⟩) m.rs.length m.rs.length, .slice (some ⟨b3, 0, none⟩) m.qs.length m.qs.length, .slice (some ⟨b4, 0, none⟩) m.gs.length m.gs.length]] w fun e w' => (∃ q : Bool, e = .returned (.bool q) ∧ (q = true ↔ WantsSay m ∧ (m.kn = true ∨ m.ws.length = 0))) ∧ Below w.heap.size w w' := by
  have Hb0 : Hid (Below w.heap.size w (w.alloc (.cells #[.string m.nm, .bool m.up, .int .i64 m.ck, .bool m.kn, .int .i64 m.se, .slice (some ⟨b1, 0, none⟩) m.ws.length m.ws.length, .slice (some ⟨b2, 0, none⟩) m.rs.length m.rs.length, .slice (some ⟨b3, 0, none⟩) m.qs.length m.qs.length, .slice (some ⟨b4, 0, none⟩) m.gs.length m.gs.length] 27))) := bl_alloc (Below.refl _ _) _
  have HL : Hid (Lists (w.alloc (.cells #[.string m.nm, .bool m.up, .int .i64 m.ck, .bool m.kn, .int .i64 m.se, .slice (some ⟨b1, 0, none⟩) m.ws.length m.ws.length, .slice (some ⟨b2, 0, none⟩) m.rs.length m.rs.length, .slice (some ⟨b3, 0, none⟩) m.qs.length m.qs.length, .slice (some ⟨b4, 0, none⟩) m.gs.length m.gs.length] 27)) m b1 b2 b3 b4) := hL.keep Hb0.out
  go_enter Try.func71, Try.ntmps71
  go_wp2_with fail
  refine (W.implWantsOk b1 0 m.ws _ HL.out.r1 HL.out.l1 hf.f1 hf.k1).mono ?_
  rintro e w1 ⟨⟨q1, rfl, h1⟩, c1⟩
  have H1 : Hid _ := h1
  have k1 := box_keep c1
  have C1 : Hid _ := bl_trans Hb0.out c1
  clear h1 c1
  cases q1
  · go_wp2
    go_ret
    exact ⟨⟨false, rfl, ⟨fun h => (by cases h), fun h => by have := H1.out.2 h.1; cases this⟩⟩, C1.out⟩
  have G1 : Hid (WantsSay m) := H1.out.1 rfl
  clear H1
  cases hk : m.kn
  · by_cases hz : m.ws.length = 0
    · have hz' : ((m.ws.length : Int) == 0) = true := by simp [hz]
      have Hz : Hid _ := hz
      clear hz
      go_wp2
      go_ret
      exact ⟨⟨true, rfl, ⟨fun _ => ⟨G1.out, Or.inr Hz.out⟩, fun _ => rfl⟩⟩, C1.out⟩
    · have hz' : ((m.ws.length : Int) == 0) = false := beq_false_of_ne (by omega)
      have Hz : Hid _ := hz
      clear hz
      go_wp2
      go_ret
      exact ⟨⟨false, rfl, ⟨fun h => (by cases h), fun h => by
        rcases h.2 with h' | h'
        · rw [hk] at h'; cases h'
        · exact absurd h' Hz.out⟩⟩, C1.out⟩
  · go_wp2
    go_ret
    exact ⟨⟨true, rfl, ⟨fun _ => ⟨G1.out, Or.inl hk⟩, fun _ => rfl⟩⟩, C1.out⟩

set_option maxRecDepth 4000 in
set_option maxHeartbeats 2000000 in
theorem runsOkNow_any (m : MateD) (b1 b2 b3 b4 : Nat) (w : World) (hL : Lists w m b1 b2 b3 b4) (hf : m.fits) :
    Calls Try.prog 72 #[.agg #[.string m.nm, .bool m.up, .int .i64 m.ck, .bool m.kn, .int .i64 m.se, .slice (some ⟨b1, 0, none⟩) m.ws.length m.ws.length, .slice (some ⟨b2, 0, none⟩) m.rs.length m.rs.length, .slice (some ⟨b3, 0, none⟩) m.qs.length m.qs.length, .slice (some ⟨b4, 0, none⟩) m.gs.length m.gs.length]] w fun e w' => (∃ q : Bool, e = .returned (.bool q) ∧ (q = true ↔ RunsSay m)) ∧ Below w.heap.size w w' := by
  have Hb0 : Hid (Below w.heap.size w (w.alloc (.cells #[.string m.nm, .bool m.up, .int .i64 m.ck, .bool m.kn, .int .i64 m.se, .slice (some ⟨b1, 0, none⟩) m.ws.length m.ws.length, .slice (some ⟨b2, 0, none⟩) m.rs.length m.rs.length, .slice (some ⟨b3, 0, none⟩) m.qs.length m.qs.length, .slice (some ⟨b4, 0, none⟩) m.gs.length m.gs.length] 27))) := bl_alloc (Below.refl _ _) _
  have HL : Hid (Lists (w.alloc (.cells #[.string m.nm, .bool m.up, .int .i64 m.ck, .bool m.kn, .int .i64 m.se, .slice (some ⟨b1, 0, none⟩) m.ws.length m.ws.length, .slice (some ⟨b2, 0, none⟩) m.rs.length m.rs.length, .slice (some ⟨b3, 0, none⟩) m.qs.length m.qs.length, .slice (some ⟨b4, 0, none⟩) m.gs.length m.gs.length] 27)) m b1 b2 b3 b4) := hL.keep Hb0.out
  go_enter Try.func72, Try.ntmps72
  go_wp2_with fail
  refine (implRunsOk b2 0 _ m.rs m.ck _ HL.out.r2 HL.out.l2 hf.f2 hf.k2).mono ?_
  rintro e w1 ⟨⟨q1, rfl, h1⟩, c1⟩
  have H1 : Hid _ := h1
  have C1 : Hid _ := bl_trans Hb0.out c1
  clear h1 c1
  go_wp2
  go_ret
  exact ⟨⟨q1, rfl, H1.out⟩, C1.out⟩

set_option maxRecDepth 4000 in
set_option maxHeartbeats 2000000 in
theorem asksOk_any (m : MateD) (b1 b2 b3 b4 : Nat) (w : World) (hL : Lists w m b1 b2 b3 b4) (hf : m.fits) :
    Calls Try.prog 73 #[.agg #[.string m.nm, .bool m.up, .int .i64 m.ck, .bool m.kn, .int .i64 m.se, .slice (some ⟨b1, 0, none⟩) m.ws.length m.ws.length, .slice (some ⟨b2, 0, none⟩) m.rs.length m.rs.length, .slice (some ⟨b3, 0, none⟩) m.qs.length m.qs.length, .slice (some ⟨b4, 0, none⟩) m.gs.length m.gs.length]] w fun e w' => (∃ q : Bool, e = .returned (.bool q) ∧ (q = true ↔ AskSay m.ck m.qs ∧ AskSay m.ck m.gs)) ∧ Below w.heap.size w w' := by
  have Hb0 : Hid (Below w.heap.size w (w.alloc (.cells #[.string m.nm, .bool m.up, .int .i64 m.ck, .bool m.kn, .int .i64 m.se, .slice (some ⟨b1, 0, none⟩) m.ws.length m.ws.length, .slice (some ⟨b2, 0, none⟩) m.rs.length m.rs.length, .slice (some ⟨b3, 0, none⟩) m.qs.length m.qs.length, .slice (some ⟨b4, 0, none⟩) m.gs.length m.gs.length] 27))) := bl_alloc (Below.refl _ _) _
  have HL : Hid (Lists (w.alloc (.cells #[.string m.nm, .bool m.up, .int .i64 m.ck, .bool m.kn, .int .i64 m.se, .slice (some ⟨b1, 0, none⟩) m.ws.length m.ws.length, .slice (some ⟨b2, 0, none⟩) m.rs.length m.rs.length, .slice (some ⟨b3, 0, none⟩) m.qs.length m.qs.length, .slice (some ⟨b4, 0, none⟩) m.gs.length m.gs.length] 27)) m b1 b2 b3 b4) := hL.keep Hb0.out
  go_enter Try.func73, Try.ntmps73
  go_wp2_with fail
  refine (A.implAsksOk b3 0 _ m.qs m.ck _ HL.out.r3 HL.out.l3 hf.f3 hf.k3).mono ?_
  rintro e w1 ⟨⟨q1, rfl, h1⟩, c1⟩
  have H1 : Hid _ := h1
  have k1 := box_keep c1
  have HL1 : Hid _ := HL.out.keep c1
  have C1 : Hid _ := bl_trans Hb0.out c1
  clear h1 c1
  cases q1
  · go_wp2
    go_ret
    exact ⟨⟨false, rfl, ⟨fun h => (by cases h), fun h => by have := H1.out.2 h.1; cases this⟩⟩, C1.out⟩
  have G1 : Hid (AskSay m.ck m.qs) := H1.out.1 rfl
  clear H1
  go_wp2_with fail
  refine (A.implAsksOk b4 0 _ m.gs m.ck _ HL1.out.r4 HL1.out.l4 hf.f4 hf.k4).mono ?_
  rintro e w2 ⟨⟨q2, rfl, h2⟩, c2⟩
  have H2 : Hid _ := h2
  have C2 : Hid _ := bl_trans C1.out c2
  clear h2 c2
  go_wp2
  go_ret
  exact ⟨⟨q2, rfl, ⟨fun h => ⟨G1.out, H2.out.1 h⟩, fun h => H2.out.2 h.2⟩⟩, C2.out⟩

set_option maxRecDepth 4000 in
set_option maxHeartbeats 2000000 in
theorem downOk_any (m : MateD) (b1 b2 b3 b4 : Nat) (w : World) (hL : Lists w m b1 b2 b3 b4) (hf : m.fits) :
    Calls Try.prog 75 #[.agg #[.string m.nm, .bool m.up, .int .i64 m.ck, .bool m.kn, .int .i64 m.se, .slice (some ⟨b1, 0, none⟩) m.ws.length m.ws.length, .slice (some ⟨b2, 0, none⟩) m.rs.length m.rs.length, .slice (some ⟨b3, 0, none⟩) m.qs.length m.qs.length, .slice (some ⟨b4, 0, none⟩) m.gs.length m.gs.length]] w fun e w' => (∃ q : Bool, e = .returned (.bool q) ∧ (q = true ↔ m.up = true ∨ DownSay m)) ∧ Below w.heap.size w w' := by
  have Hb0 : Hid (Below w.heap.size w (w.alloc (.cells #[.string m.nm, .bool m.up, .int .i64 m.ck, .bool m.kn, .int .i64 m.se, .slice (some ⟨b1, 0, none⟩) m.ws.length m.ws.length, .slice (some ⟨b2, 0, none⟩) m.rs.length m.rs.length, .slice (some ⟨b3, 0, none⟩) m.qs.length m.qs.length, .slice (some ⟨b4, 0, none⟩) m.gs.length m.gs.length] 27))) := bl_alloc (Below.refl _ _) _
  have HL : Hid (Lists (w.alloc (.cells #[.string m.nm, .bool m.up, .int .i64 m.ck, .bool m.kn, .int .i64 m.se, .slice (some ⟨b1, 0, none⟩) m.ws.length m.ws.length, .slice (some ⟨b2, 0, none⟩) m.rs.length m.rs.length, .slice (some ⟨b3, 0, none⟩) m.qs.length m.qs.length, .slice (some ⟨b4, 0, none⟩) m.gs.length m.gs.length] 27)) m b1 b2 b3 b4) := hL.keep Hb0.out
  obtain ⟨u, hu⟩ : ∃ u, m.up = u := ⟨_, rfl⟩
  cases u
  · obtain ⟨kk, hk⟩ : ∃ kk, m.kn = kk := ⟨_, rfl⟩
    cases kk
    · by_cases hse : m.se = 0
      · have hs' : (m.se == 0) = true := by simp [hse]
        have Hse : Hid _ := hse
        clear hse
        have k1 := hf.k1
        have k3 := hf.k3
        have k4 := hf.k4
        by_cases hz : m.ws.length + m.qs.length + m.gs.length = 0
        · have hz' : ((m.ws.length : Int) + (m.qs.length : Int) + (m.gs.length : Int) == 0) = true := by
            have : (m.ws.length : Int) + (m.qs.length : Int) + (m.gs.length : Int) = 0 := by omega
            simpa using this
          have Hz : Hid _ := hz
          clear hz
          go_enter Try.func75, Try.ntmps75
          go_wp2_with fail
          refine (allDown heldB b2 0 _ m.rs _ (hL.keep (bl_alloc (Below.refl _ _) _)).r2 (hL.keep (bl_alloc (Below.refl _ _) _)).l2 hf.k2 (fun r hr x hx => closDown r x)).mono ?_
          rintro e w1 ⟨⟨q1, rfl, h1⟩, c1⟩
          have H1 : Hid _ := h1
          have C1 : Hid _ := bl_trans (bl_alloc (Below.refl _ _) _) c1
          clear h1 c1
          go_wp2
          go_ret
          exact ⟨⟨q1, rfl, ⟨fun h => Or.inr ⟨hk, Hse.out, Hz.out, H1.out.1 h⟩, fun h => H1.out.2 (down_or h hu).2.2.2⟩⟩, C1.out⟩
        · have hz' : ((m.ws.length : Int) + (m.qs.length : Int) + (m.gs.length : Int) == 0) = false := beq_false_of_ne (by omega)
          have Hz : Hid _ := hz
          clear hz
          go_enter Try.func75, Try.ntmps75
          go_wp2
          go_ret
          exact ⟨⟨false, rfl, ⟨fun h => (by cases h), fun h => absurd (down_or h hu).2.2.1 Hz.out⟩⟩, bl_alloc (Below.refl _ _) _⟩
      · have hs' : (m.se == 0) = false := by simp [hse]
        have Hse : Hid _ := hse
        clear hse
        go_enter Try.func75, Try.ntmps75
        go_wp2
        go_ret
        exact ⟨⟨false, rfl, ⟨fun h => (by cases h), fun h => absurd (down_or h hu).2.1 Hse.out⟩⟩, bl_alloc (Below.refl _ _) _⟩
    · go_enter Try.func75, Try.ntmps75
      go_wp2
      go_ret
      exact ⟨⟨false, rfl, ⟨fun h => (by cases h), fun h => by have := (down_or h hu).1; rw [hk] at this; cases this⟩⟩, bl_alloc (Below.refl _ _) _⟩
  · go_enter Try.func75, Try.ntmps75
    go_wp2
    go_ret
    exact ⟨⟨true, rfl, ⟨fun _ => Or.inl hu, fun _ => rfl⟩⟩, bl_alloc (Below.refl _ _) _⟩
end Go.Proofs.Ytkebokkckmgloaa
