import Derived.Test.YtkebokkckmgloaaJ13
import Derived.Test.YtkebokkckmgloaaJ21
import Derived.Test.YtkebokkckmgloaaJ22
import Derived.Maps.OwnSet
/- MateValid's checks: the program's side. -/
namespace Go.Proofs.Ytkebokkckmgloaa
open Go.RowKit
set_option linter.unusedVariables false

def SaysP (q : Bool) (m : MateD) : Prop := q = true ↔ partsB m = true
theorem down_or {m : MateD} (h : m.up = true ∨ DownSay m) (hu : m.up = false) : DownSay m := by
  rcases h with h' | h'
  · rw [hu] at h'; cases h'
  · exact h'
theorem implAlive_b (r : RunD) (w : World) : Calls Try.prog 23 #[.agg #[.string r.c, .int .i64 r.v, .string r.h, .int .i64 r.p, .int .i64 r.s, .int .i64 r.d, .int .i64 r.g, .int .i64 r.a, .int .i64 r.b, .int .i64 r.i, .int .i64 r.u]] w fun e w' => e = .returned (.bool (aliveB r.a)) ∧ Below w.heap.size w w' := by
  go_enter Try.func23, Try.ntmps23
  go_wp2_with (first | (go_at_call 76; refine (alive_any r.a _).mono ?_; rintro e w' ⟨rfl, rfl⟩) | (go_at_call 80; refine (runOf_any r.c r.h r.v r.p r.s r.d r.g r.a r.b r.i r.u _).mono ?_; rintro e w' ⟨rfl, rfl⟩))
  go_ret
  exact ⟨rfl, by repeat (first | exact Below.refl _ _ | refine bl_alloc ?_ _)⟩
theorem holds_b (r : RunD) (w : World) : Calls Try.prog 125 #[.agg #[.string r.c, .int .i64 r.v, .string r.h, .int .i64 r.p, .int .i64 r.s, .int .i64 r.d, .int .i64 r.g, .int .i64 r.a, .int .i64 r.b, .int .i64 r.i, .int .i64 r.u]] w fun e w' => e = .returned (.bool (!r.h.toList.isEmpty)) ∧ Below w.heap.size w w' := by
  cases he : r.h.toList.isEmpty
  · go_enter Try.func125, Try.ntmps125
    go_wp2
    go_ret
    exact ⟨rfl, by repeat (first | exact Below.refl _ _ | refine bl_alloc ?_ _)⟩
  · go_enter Try.func125, Try.ntmps125
    go_wp2
    go_ret
    exact ⟨rfl, by repeat (first | exact Below.refl _ _ | refine bl_alloc ?_ _)⟩
theorem closDown (r : RunD) (w : World) : Calls Try.prog 136 #[.agg #[.string r.c, .int .i64 r.v, .string r.h, .int .i64 r.p, .int .i64 r.s, .int .i64 r.d, .int .i64 r.g, .int .i64 r.a, .int .i64 r.b, .int .i64 r.i, .int .i64 r.u]] w fun e w' => e = .returned (.bool (heldB r)) ∧ Below w.heap.size w w' := by
  cases ha : aliveB r.a
  · have Hh : Hid (heldB r = !r.h.toList.isEmpty) := by show heldB r = _; simp [heldB, ha]
    go_enter Try.func136, Try.ntmps136
    go_wp2_with fail
    refine (implAlive_b r _).mono ?_
    rintro e w1 ⟨rfl, c1⟩
    have k1 := box_keep c1
    have C1 : Hid _ := c1
    clear c1
    go_wp2_with fail
    refine (holds_b r _).mono ?_
    rintro e w2 ⟨rfl, c2⟩
    have C2 : Hid _ := bl_trans C1.out c2
    clear c2
    go_wp2
    go_ret
    exact ⟨by rw [Hh.out]; rfl, bl_trans (bl_alloc (Below.refl _ _) _) C2.out⟩
  · have Hh : Hid (heldB r = true) := by show heldB r = _; simp [heldB, ha]
    go_enter Try.func136, Try.ntmps136
    go_wp2_with fail
    refine (implAlive_b r _).mono ?_
    rintro e w1 ⟨rfl, c1⟩
    have C1 : Hid _ := c1
    clear c1
    go_wp2
    go_ret
    exact ⟨by rw [Hh.out]; rfl, bl_trans (bl_alloc (Below.refl _ _) _) C1.out⟩

set_option maxRecDepth 4000 in
set_option maxHeartbeats 2000000 in
theorem partsOk_any (m : MateD) (b1 b2 b3 b4 : Nat) (w : World) (hL : Lists w m b1 b2 b3 b4) (hf : m.fits) :
    Calls Try.prog 70 #[.agg #[.string m.nm, .bool m.up, .int .i64 m.ck, .bool m.kn, .int .i64 m.se, .slice (some ⟨b1, 0, none⟩) m.ws.length m.ws.length, .slice (some ⟨b2, 0, none⟩) m.rs.length m.rs.length, .slice (some ⟨b3, 0, none⟩) m.qs.length m.qs.length, .slice (some ⟨b4, 0, none⟩) m.gs.length m.gs.length]] w fun e w' => (∃ q : Bool, e = .returned (.bool q) ∧ SaysP q m) ∧ Below w.heap.size w w' := by
  have Hb0 : Hid (Below w.heap.size w (w.alloc (.cells #[.string m.nm, .bool m.up, .int .i64 m.ck, .bool m.kn, .int .i64 m.se, .slice (some ⟨b1, 0, none⟩) m.ws.length m.ws.length, .slice (some ⟨b2, 0, none⟩) m.rs.length m.rs.length, .slice (some ⟨b3, 0, none⟩) m.qs.length m.qs.length, .slice (some ⟨b4, 0, none⟩) m.gs.length m.gs.length] 27))) := bl_alloc (Below.refl _ _) _
  have HL : Hid (Lists (w.alloc (.cells #[.string m.nm, .bool m.up, .int .i64 m.ck, .bool m.kn, .int .i64 m.se, .slice (some ⟨b1, 0, none⟩) m.ws.length m.ws.length, .slice (some ⟨b2, 0, none⟩) m.rs.length m.rs.length, .slice (some ⟨b3, 0, none⟩) m.qs.length m.qs.length, .slice (some ⟨b4, 0, none⟩) m.gs.length m.gs.length] 27)) m b1 b2 b3 b4) := hL.keep Hb0.out
  cases qn : nameB m.nm
  · go_enter Try.func70, Try.ntmps70
    go_wp2_with (first | (go_at_call 129; refine (implName_any m.nm _ hf.n).mono ?_; rintro e w' ⟨rfl, rfl⟩) | (go_at_call 130; refine (within_any _ _ _ _).mono ?_; rintro e w' ⟨rfl, rfl⟩))
    go_ret
    exact ⟨⟨false, rfl, by unfold SaysP; simp [partsB, qn]⟩, Hb0.out⟩
  cases qc : inB m.ck 0 1000000
  · go_enter Try.func70, Try.ntmps70
    go_wp2_with (first | (go_at_call 129; refine (implName_any m.nm _ hf.n).mono ?_; rintro e w' ⟨rfl, rfl⟩) | (go_at_call 130; refine (within_any _ _ _ _).mono ?_; rintro e w' ⟨rfl, rfl⟩))
    go_ret
    exact ⟨⟨false, rfl, by unfold SaysP; simp [partsB, qc]⟩, Hb0.out⟩
  cases qs : inB m.se 0 1000000
  · go_enter Try.func70, Try.ntmps70
    go_wp2_with (first | (go_at_call 129; refine (implName_any m.nm _ hf.n).mono ?_; rintro e w' ⟨rfl, rfl⟩) | (go_at_call 130; refine (within_any _ _ _ _).mono ?_; rintro e w' ⟨rfl, rfl⟩))
    go_ret
    exact ⟨⟨false, rfl, by unfold SaysP; simp [partsB, qs]⟩, Hb0.out⟩
  go_enter Try.func70, Try.ntmps70
  go_wp2_with (first | (go_at_call 129; refine (implName_any m.nm _ hf.n).mono ?_; rintro e w' ⟨rfl, rfl⟩) | (go_at_call 130; refine (within_any _ _ _ _).mono ?_; rintro e w' ⟨rfl, rfl⟩))
  go_ret
  exact ⟨⟨true, rfl, by unfold SaysP; simp [partsB, qn, qc, qs]⟩, Hb0.out⟩

set_option maxRecDepth 4000 in
set_option maxHeartbeats 2000000 in
theorem wantsHeard_any (m : MateD) (b1 b2 b3 b4 : Nat) (w : World) (hL : Lists w m b1 b2 b3 b4) (hf : m.fits) :
    Calls Try.prog 71 #[.agg #[.string m.nm, .bool m.up, .int .i64 m.ck, .bool m.kn, .int .i64 m.se, .slice (some ⟨b1, 0, none⟩) m.ws.length m.ws.length, .slice (some ⟨b2, 0, none⟩) m.rs.length m.rs.length, .slice (some ⟨b3, 0, none⟩) m.qs.length m.qs.length, .slice (some ⟨b4, 0, none⟩) m.gs.length m.gs.length]] w fun e w' => (∃ q : Bool, e = .returned (.bool q) ∧ (q = true ↔ WantsSay m ∧ (m.kn = true ∨ m.ws.length = 0))) ∧ Below w.heap.size w w' := by
  have Hb0 : Hid (Below w.heap.size w (w.alloc (.cells #[.string m.nm, .bool m.up, .int .i64 m.ck, .bool m.kn, .int .i64 m.se, .slice (some ⟨b1, 0, none⟩) m.ws.length m.ws.length, .slice (some ⟨b2, 0, none⟩) m.rs.length m.rs.length, .slice (some ⟨b3, 0, none⟩) m.qs.length m.qs.length, .slice (some ⟨b4, 0, none⟩) m.gs.length m.gs.length] 27))) := bl_alloc (Below.refl _ _) _
  have HL : Hid (Lists (w.alloc (.cells #[.string m.nm, .bool m.up, .int .i64 m.ck, .bool m.kn, .int .i64 m.se, .slice (some ⟨b1, 0, none⟩) m.ws.length m.ws.length, .slice (some ⟨b2, 0, none⟩) m.rs.length m.rs.length, .slice (some ⟨b3, 0, none⟩) m.qs.length m.qs.length, .slice (some ⟨b4, 0, none⟩) m.gs.length m.gs.length] 27)) m b1 b2 b3 b4) := hL.keep Hb0.out
  go_enter Try.func71, Try.ntmps71
  go_wp2_with fail
  refine (W.implWantsOk b1 0 m.ws _ HL.out.r1 HL.out.l1 hf.f1 hf.k1).mono ?_
  rintro e w1 ⟨⟨q1, rfl, h1⟩, c1⟩
  have H1 : Hid _ := h1
  have k1 := box_keep c1
  have C1 : Hid _ := bl_trans Hb0.out c1
  clear h1 c1
  cases q1
  · go_wp2
    go_ret
    exact ⟨⟨false, rfl, ⟨fun h => (by cases h), fun h => by have := H1.out.2 h.1; cases this⟩⟩, C1.out⟩
  have G1 : Hid (WantsSay m) := H1.out.1 rfl
  clear H1
  cases hk : m.kn
  · by_cases hz : m.ws.length = 0
    · have hz' : ((m.ws.length : Int) == 0) = true := by simp [hz]
      have Hz : Hid _ := hz
      clear hz
      go_wp2
      go_ret
      exact ⟨⟨true, rfl, ⟨fun _ => ⟨G1.out, Or.inr Hz.out⟩, fun _ => rfl⟩⟩, C1.out⟩
    · have hz' : ((m.ws.length : Int) == 0) = false := beq_false_of_ne (by omega)
      have Hz : Hid _ := hz
      clear hz
      go_wp2
      go_ret
      exact ⟨⟨false, rfl, ⟨fun h => (by cases h), fun h => by
        rcases h.2 with h' | h'
        · rw [hk] at h'; cases h'
        · exact absurd h' Hz.out⟩⟩, C1.out⟩
  · go_wp2
    go_ret
    exact ⟨⟨true, rfl, ⟨fun _ => ⟨G1.out, Or.inl hk⟩, fun _ => rfl⟩⟩, C1.out⟩

set_option maxRecDepth 4000 in
set_option maxHeartbeats 2000000 in
theorem runsOkNow_any (m : MateD) (b1 b2 b3 b4 : Nat) (w : World) (hL : Lists w m b1 b2 b3 b4) (hf : m.fits) :
    Calls Try.prog 72 #[.agg #[.string m.nm, .bool m.up, .int .i64 m.ck, .bool m.kn, .int .i64 m.se, .slice (some ⟨b1, 0, none⟩) m.ws.length m.ws.length, .slice (some ⟨b2, 0, none⟩) m.rs.length m.rs.length, .slice (some ⟨b3, 0, none⟩) m.qs.length m.qs.length, .slice (some ⟨b4, 0, none⟩) m.gs.length m.gs.length]] w fun e w' => (∃ q : Bool, e = .returned (.bool q) ∧ (q = true ↔ RunsSay m)) ∧ Below w.heap.size w w' := by
  have Hb0 : Hid (Below w.heap.size w (w.alloc (.cells #[.string m.nm, .bool m.up, .int .i64 m.ck, .bool m.kn, .int .i64 m.se, .slice (some ⟨b1, 0, none⟩) m.ws.length m.ws.length, .slice (some ⟨b2, 0, none⟩) m.rs.length m.rs.length, .slice (some ⟨b3, 0, none⟩) m.qs.length m.qs.length, .slice (some ⟨b4, 0, none⟩) m.gs.length m.gs.length] 27))) := bl_alloc (Below.refl _ _) _
  have HL : Hid (Lists (w.alloc (.cells #[.string m.nm, .bool m.up, .int .i64 m.ck, .bool m.kn, .int .i64 m.se, .slice (some ⟨b1, 0, none⟩) m.ws.length m.ws.length, .slice (some ⟨b2, 0, none⟩) m.rs.length m.rs.length, .slice (some ⟨b3, 0, none⟩) m.qs.length m.qs.length, .slice (some ⟨b4, 0, none⟩) m.gs.length m.gs.length] 27)) m b1 b2 b3 b4) := hL.keep Hb0.out
  go_enter Try.func72, Try.ntmps72
  go_wp2_with fail
  refine (implRunsOk b2 0 _ m.rs m.ck _ HL.out.r2 HL.out.l2 hf.f2 hf.k2).mono ?_
  rintro e w1 ⟨⟨q1, rfl, h1⟩, c1⟩
  have H1 : Hid _ := h1
  have C1 : Hid _ := bl_trans Hb0.out c1
  clear h1 c1
  go_wp2
  go_ret
  exact ⟨⟨q1, rfl, H1.out⟩, C1.out⟩

set_option maxRecDepth 4000 in
set_option maxHeartbeats 2000000 in
theorem asksOk_any (m : MateD) (b1 b2 b3 b4 : Nat) (w : World) (hL : Lists w m b1 b2 b3 b4) (hf : m.fits) :
    Calls Try.prog 73 #[.agg #[.string m.nm, .bool m.up, .int .i64 m.ck, .bool m.kn, .int .i64 m.se, .slice (some ⟨b1, 0, none⟩) m.ws.length m.ws.length, .slice (some ⟨b2, 0, none⟩) m.rs.length m.rs.length, .slice (some ⟨b3, 0, none⟩) m.qs.length m.qs.length, .slice (some ⟨b4, 0, none⟩) m.gs.length m.gs.length]] w fun e w' => (∃ q : Bool, e = .returned (.bool q) ∧ (q = true ↔ AskSay m.ck m.qs ∧ AskSay m.ck m.gs)) ∧ Below w.heap.size w w' := by
  have Hb0 : Hid (Below w.heap.size w (w.alloc (.cells #[.string m.nm, .bool m.up, .int .i64 m.ck, .bool m.kn, .int .i64 m.se, .slice (some ⟨b1, 0, none⟩) m.ws.length m.ws.length, .slice (some ⟨b2, 0, none⟩) m.rs.length m.rs.length, .slice (some ⟨b3, 0, none⟩) m.qs.length m.qs.length, .slice (some ⟨b4, 0, none⟩) m.gs.length m.gs.length] 27))) := bl_alloc (Below.refl _ _) _
  have HL : Hid (Lists (w.alloc (.cells #[.string m.nm, .bool m.up, .int .i64 m.ck, .bool m.kn, .int .i64 m.se, .slice (some ⟨b1, 0, none⟩) m.ws.length m.ws.length, .slice (some ⟨b2, 0, none⟩) m.rs.length m.rs.length, .slice (some ⟨b3, 0, none⟩) m.qs.length m.qs.length, .slice (some ⟨b4, 0, none⟩) m.gs.length m.gs.length] 27)) m b1 b2 b3 b4) := hL.keep Hb0.out
  go_enter Try.func73, Try.ntmps73
  go_wp2_with fail
  refine (A.implAsksOk b3 0 _ m.qs m.ck _ HL.out.r3 HL.out.l3 hf.f3 hf.k3).mono ?_
  rintro e w1 ⟨⟨q1, rfl, h1⟩, c1⟩
  have H1 : Hid _ := h1
  have k1 := box_keep c1
  have HL1 : Hid _ := HL.out.keep c1
  have C1 : Hid _ := bl_trans Hb0.out c1
  clear h1 c1
  cases q1
  · go_wp2
    go_ret
    exact ⟨⟨false, rfl, ⟨fun h => (by cases h), fun h => by have := H1.out.2 h.1; cases this⟩⟩, C1.out⟩
  have G1 : Hid (AskSay m.ck m.qs) := H1.out.1 rfl
  clear H1
  go_wp2_with fail
  refine (A.implAsksOk b4 0 _ m.gs m.ck _ HL1.out.r4 HL1.out.l4 hf.f4 hf.k4).mono ?_
  rintro e w2 ⟨⟨q2, rfl, h2⟩, c2⟩
  have H2 : Hid _ := h2
  have C2 : Hid _ := bl_trans C1.out c2
  clear h2 c2
  go_wp2
  go_ret
  exact ⟨⟨q2, rfl, ⟨fun h => ⟨G1.out, H2.out.1 h⟩, fun h => H2.out.2 h.2⟩⟩, C2.out⟩

set_option maxRecDepth 4000 in
set_option maxHeartbeats 2000000 in
theorem downOk_any (m : MateD) (b1 b2 b3 b4 : Nat) (w : World) (hL : Lists w m b1 b2 b3 b4) (hf : m.fits) :
    Calls Try.prog 75 #[.agg #[.string m.nm, .bool m.up, .int .i64 m.ck, .bool m.kn, .int .i64 m.se, .slice (some ⟨b1, 0, none⟩) m.ws.length m.ws.length, .slice (some ⟨b2, 0, none⟩) m.rs.length m.rs.length, .slice (some ⟨b3, 0, none⟩) m.qs.length m.qs.length, .slice (some ⟨b4, 0, none⟩) m.gs.length m.gs.length]] w fun e w' => (∃ q : Bool, e = .returned (.bool q) ∧ (q = true ↔ m.up = true ∨ DownSay m)) ∧ Below w.heap.size w w' := by
  have Hb0 : Hid (Below w.heap.size w (w.alloc (.cells #[.string m.nm, .bool m.up, .int .i64 m.ck, .bool m.kn, .int .i64 m.se, .slice (some ⟨b1, 0, none⟩) m.ws.length m.ws.length, .slice (some ⟨b2, 0, none⟩) m.rs.length m.rs.length, .slice (some ⟨b3, 0, none⟩) m.qs.length m.qs.length, .slice (some ⟨b4, 0, none⟩) m.gs.length m.gs.length] 27))) := bl_alloc (Below.refl _ _) _
  have HL : Hid (Lists (w.alloc (.cells #[.string m.nm, .bool m.up, .int .i64 m.ck, .bool m.kn, .int .i64 m.se, .slice (some ⟨b1, 0, none⟩) m.ws.length m.ws.length, .slice (some ⟨b2, 0, none⟩) m.rs.length m.rs.length, .slice (some ⟨b3, 0, none⟩) m.qs.length m.qs.length, .slice (some ⟨b4, 0, none⟩) m.gs.length m.gs.length] 27)) m b1 b2 b3 b4) := hL.keep Hb0.out
  obtain ⟨u, hu⟩ : ∃ u, m.up = u := ⟨_, rfl⟩
  cases u
  · obtain ⟨kk, hk⟩ : ∃ kk, m.kn = kk := ⟨_, rfl⟩
    cases kk
    · by_cases hse : m.se = 0
      · have hs' : (m.se == 0) = true := by simp [hse]
        have Hse : Hid _ := hse
        clear hse
        have k1 := hf.k1
        have k3 := hf.k3
        have k4 := hf.k4
        by_cases hz : m.ws.length + m.qs.length + m.gs.length = 0
        · have hz' : ((m.ws.length : Int) + (m.qs.length : Int) + (m.gs.length : Int) == 0) = true := by
            have : (m.ws.length : Int) + (m.qs.length : Int) + (m.gs.length : Int) = 0 := by omega
            simpa using this
          have Hz : Hid _ := hz
          clear hz
          go_enter Try.func75, Try.ntmps75
          go_wp2_with fail
          refine (allDown heldB b2 0 _ m.rs _ (hL.keep (bl_alloc (Below.refl _ _) _)).r2 (hL.keep (bl_alloc (Below.refl _ _) _)).l2 hf.k2 (fun r hr x hx => closDown r x)).mono ?_
          rintro e w1 ⟨⟨q1, rfl, h1⟩, c1⟩
          have H1 : Hid _ := h1
          have C1 : Hid _ := bl_trans (bl_alloc (Below.refl _ _) _) c1
          clear h1 c1
          go_wp2
          go_ret
          exact ⟨⟨q1, rfl, ⟨fun h => Or.inr ⟨hk, Hse.out, Hz.out, H1.out.1 h⟩, fun h => H1.out.2 (down_or h hu).2.2.2⟩⟩, C1.out⟩
        · have hz' : ((m.ws.length : Int) + (m.qs.length : Int) + (m.gs.length : Int) == 0) = false := beq_false_of_ne (by omega)
          have Hz : Hid _ := hz
          clear hz
          go_enter Try.func75, Try.ntmps75
          go_wp2
          go_ret
          exact ⟨⟨false, rfl, ⟨fun h => (by cases h), fun h => absurd (down_or h hu).2.2.1 Hz.out⟩⟩, bl_alloc (Below.refl _ _) _⟩
      · have hs' : (m.se == 0) = false := by simp [hse]
        have Hse : Hid _ := hse
        clear hse
        go_enter Try.func75, Try.ntmps75
        go_wp2
        go_ret
        exact ⟨⟨false, rfl, ⟨fun h => (by cases h), fun h => absurd (down_or h hu).2.1 Hse.out⟩⟩, bl_alloc (Below.refl _ _) _⟩
    · go_enter Try.func75, Try.ntmps75
      go_wp2
      go_ret
      exact ⟨⟨false, rfl, ⟨fun h => (by cases h), fun h => by have := (down_or h hu).1; rw [hk] at this; cases this⟩⟩, bl_alloc (Below.refl _ _) _⟩
  · go_enter Try.func75, Try.ntmps75
    go_wp2
    go_ret
    exact ⟨⟨true, rfl, ⟨fun _ => Or.inl hu, fun _ => rfl⟩⟩, bl_alloc (Below.refl _ _) _⟩
end Go.Proofs.Ytkebokkckmgloaa
/- A list of asks in a map by their holds. -/
namespace Go.Proofs.Ytkebokkckmgloaa.A
open Go.RowKit Go.Maps Go.WideMaps
set_option linter.unusedVariables false

theorem lawS : Keyed Try.prog 9 := string_keyed Try.underlying9
/-- An element of the map: that it is there is all that is asked. -/
def RUL (xs : List Value) : Option (DataW Unit × List MemPlace) :=
  match xs with
  | [.string _, .string _, .int .i64 _, .int .i64 _] => some (.lit (.bool true), [])
  | _ => none
def RU (v : Value) : Option (DataW Unit × List MemPlace) :=
  match v with
  | .agg xs => RUL xs.toList
  | _ => none
theorem RU_inv {v : Value} {z : DataW Unit × List MemPlace} (h : RU v = some z) : ∃ (a b : ByteArray) (c d : Int), v = .agg #[.string a, .string b, .int .i64 c, .int .i64 d] := by
  unfold RU at h
  split at h
  · rename_i xs
    obtain ⟨l⟩ := xs
    simp only at h
    unfold RUL at h
    split at h
    · exact ⟨_, _, _, _, rfl⟩
    · cases h
  · cases h
def keyL (x : ByteArray) : Lit := .string x.data.toList
def mapD (rs : List AskD) : DataW Unit := setOf (.lit (.bool true)) (rs.map (fun r => keyL r.h))
theorem mapD_step {rs : List AskD} {k : Nat} {r : AskD} (hr : rs[k]? = some r) : mapD (rs.take (k + 1)) = (mapD (rs.take k)).put (keyL r.h) (.lit (.bool true)) := by
  have hlt : k < rs.length := (List.getElem?_eq_some_iff.1 hr).1
  have he : rs[k] = r := (List.getElem?_eq_some_iff.1 hr).2
  rw [mapD, List.take_succ_eq_append_getElem hlt, List.map_append, List.map_singleton, he, setOf_snoc]
  rfl
theorem same_key (x y : ByteArray) : (keyL x).sameKey (keyL y) = (x.toList == y.toList) := by
  rw [ByteArray.toList_eq, ByteArray.toList_eq]
  by_cases h : x.data.toList = y.data.toList
  · have hk : (Lit.string y.data.toList).sameKey (Lit.string y.data.toList) = true := WideAt.sameKey_self (by exact trivial)
    rw [keyL, keyL, h, hk]; simp
  · have h1 : (keyL x).sameKey (keyL y) = false := by
      cases hs : (keyL x).sameKey (keyL y)
      · rfl
      · have := WideAt.sameKey_eq hs
        simp only [keyL, Lit.string.injEq] at this
        exact absurd this h
    rw [h1]; exact (beq_false_of_ne h).symm
theorem has_mapD (rs : List AskD) (x : ByteArray) : has (mapD rs) (keyL x) = true ↔ HasA rs x := by
  rw [mapD, has_setOf _ _ _ (by intro y hy; obtain ⟨r, -, rfl⟩ := List.mem_map.1 hy; trivial), List.any_map, List.any_eq_true]
  constructor
  · rintro ⟨r, hr, h⟩
    refine ⟨r, hr, ?_⟩
    rw [← same_key]; exact h
  · rintro ⟨r, hr, h⟩
    exact ⟨r, hr, by rw [← same_key] at h; exact h⟩
theorem owns_map_below {x y : World} {b n : Nat} {D : DataW Unit} (h : x.ownsMap Try.prog 9 RU b n D) (hb : Below x.heap.size x y) : y.ownsMap Try.prog 9 RU b n D :=
  h.kept (row := none) ⟨hb.os, hb.tape, hb.output, hb.size, fun k hk _ => hb.block k hk⟩ (by simp)

theorem map_step {w : World} (b n : Nat) (D : DataW Unit) (hown : w.ownsMap Try.prog 9 RU b n D) (hn : n < maxLen) (s : ByteArray) (val : Value) (hs : s.size ≤ maxLen) (hv : RU val = some (.lit (.bool true), [])) :
    ∃ w', Sem.run Try.prog (Instr.mapUpdate 152 (.map (some b)) (.string s) val) w = .ok () w' ∧ w'.ownsMap Try.prog 9 RU b (n + 1) (D.put (keyL s) (.lit (.bool true))) ∧ w.grownBy w' (some b) :=
  hown.update lawS (t := 152) (e := 99) Try.underlying152 hn (keyOf_string_mk Try.underlying9 hs) (val := val) (d := .lit (.bool true)) (ps := []) hv

theorem boxA {wr w' : World} {r : AskD} (hb : Below (wr.alloc (.cells #[.string r.h, .string r.c, .int .i64 r.f, .int .i64 r.t] 99)).heap.size (wr.alloc (.cells #[.string r.h, .string r.c, .int .i64 r.f, .int .i64 r.t] 99)) w') : w'.cell? ⟨wr.heap.size, 0, none⟩ = some (.string r.h) ∧ w'.cell? ⟨wr.heap.size, 1, none⟩ = some (.string r.c) ∧ w'.cell? ⟨wr.heap.size, 2, none⟩ = some (.int .i64 r.f) ∧ w'.cell? ⟨wr.heap.size, 3, none⟩ = some (.int .i64 r.t) := by
  have hk := box_keep hb
  exact ⟨by rw [hk 0]; simp [go_sem], by rw [hk 1]; simp [go_sem], by rw [hk 2]; simp [go_sem], by rw [hk 3]; simp [go_sem]⟩
theorem boxA_grown {wr w' w2 : World} {r : AskD} {B : Nat} (h : w'.cell? ⟨wr.heap.size, 0, none⟩ = some (.string r.h) ∧ w'.cell? ⟨wr.heap.size, 1, none⟩ = some (.string r.c) ∧ w'.cell? ⟨wr.heap.size, 2, none⟩ = some (.int .i64 r.f) ∧ w'.cell? ⟨wr.heap.size, 3, none⟩ = some (.int .i64 r.t)) (hg : w'.grownBy w2 (some B)) (hne : wr.heap.size ≠ B) : w2.cell? ⟨wr.heap.size, 0, none⟩ = some (.string r.h) ∧ w2.cell? ⟨wr.heap.size, 1, none⟩ = some (.string r.c) ∧ w2.cell? ⟨wr.heap.size, 2, none⟩ = some (.int .i64 r.f) ∧ w2.cell? ⟨wr.heap.size, 3, none⟩ = some (.int .i64 r.t) :=
  ⟨hg.cell h.1 (by simpa using hne), hg.cell h.2.1 (by simpa using hne), hg.cell h.2.2.1 (by simpa using hne), hg.cell h.2.2.2 (by simpa using hne)⟩
theorem make_map (n : Nat) (w : World) : Sem.run Try.prog (Instr.makeMap 152 (some (.int .i64 (n : Int)))) w = .ok (.map (some w.heap.size)) (w.alloc (.map #[] 0)) := by
  kernel_rfl

set_option maxRecDepth 4000 in
set_option maxHeartbeats 2000000 in
theorem byName (b off cap : Nat) (rs : List AskD) (w : World) (hR : RowsAt w b off rs) (l1 : b < w.heap.size) (hfit : ∀ r ∈ rs, r.fits) (hl : rs.length ≤ 1048576) :
    Calls Try.prog 132 #[.slice (some ⟨b, off, none⟩) rs.length cap, .func (.func 133) #[] #[]] w fun e w' => e = .returned (.map (some w.heap.size)) ∧ w'.ownsMap Try.prog 9 RU w.heap.size rs.length (mapD rs) ∧ Below w.heap.size w w' := by
  have hmm := make_map rs.length
  go_enter Try.func132, Try.ntmps132
  go_wp2
  clear hmm
  go_loopw [13] (fun i wx => ∃ (k : Nat), k ≤ rs.length ∧ i = .int .i64 k ∧ Hid (wx.ownsMap Try.prog 9 RU w.heap.size k (mapD (rs.take k))) ∧ Below w.heap.size w wx) (fun i _ => rs.length - (intOf i).toNat)
  case atStart => exact ⟨0, Nat.zero_le _, rfl, World.ownsMap_made _ _ _ _, bl_alloc (Below.refl _ _) _⟩
  case round =>
    obtain ⟨k, hk, rfl, Ho, hB⟩ := hrel
    by_cases hlt : k < rs.length
    · obtain ⟨r, hr⟩ : ∃ r, rs[k]? = some r := ⟨rs[k], List.getElem?_eq_getElem hlt⟩
      have Hr : Hid _ := hr
      obtain ⟨hf1, hf2⟩ := hfit r (List.mem_of_getElem? hr)
      obtain ⟨c0, c1, c2, c3⟩ := (hR.keep l1 hB).at hr
      clear hr
      have hne : wr.heap.size ≠ w.heap.size := by have := Ho.out.lt; omega
      go_wp2_with fail
      go_region_held3 (fun w' => w'.cell? ⟨wr.heap.size, 0, none⟩ = some (.string r.h) ∧ w'.cell? ⟨wr.heap.size, 1, none⟩ = some (.string r.c) ∧ w'.cell? ⟨wr.heap.size, 2, none⟩ = some (.int .i64 r.f) ∧ w'.cell? ⟨wr.heap.size, 3, none⟩ = some (.int .i64 r.t))
        (first | exact boxA (bl_drew (Below.refl _ _)) | exact boxA (bl_trans (bl_drew (Below.refl _ _)) hx) | exact boxA_grown (boxA (bl_trans (bl_drew (Below.refl _ _)) hx)) hg2 hne)
        (first | (go_at_call 133; refine (name_any r _).mono ?_; rintro e w' ⟨rfl, hx⟩) | (have hms := map_step w.heap.size k _ (owns_map_below (owns_map_below Ho.out (bl_drew (bl_alloc (Below.refl _ _) _))) hx) (by unfold maxLen; omega) r.h (.agg #[.string r.h, .string r.c, .int .i64 r.f, .int .i64 r.t]) hf1 rfl; obtain ⟨w2, hrun, ho2, hg2⟩ := hms; go_simp))
      have y1 := bl_trans (bl_trans hB (bl_alloc (Below.refl _ wr) _)) (bl_trans (bl_drew (Below.refl _ _)) hx)
      have Y2 : Hid (Below w.heap.size w w2) := Below.grown y1 hg2 y1.size (fun j hj => by cases hj; exact Nat.le_refl _)
      have O2 : Hid (w2.ownsMap Try.prog 9 RU w.heap.size (k + 1) (mapD (rs.take (k + 1)))) := by
        show World.ownsMap _ _ _ _ _ _ _
        rw [mapD_step Hr.out]; exact ho2
      clear y1 hx hg2 ho2 hrun
      go_wp2
      exact ⟨⟨k + 1, by omega, by go_num, O2.out, Y2.out⟩, by simp [intOf]; omega⟩
    · go_wp2
      go_ret
      have e : k = rs.length := by omega
      subst e
      rw [List.take_of_length_le (Nat.le_refl _)] at Ho
      exact ⟨rfl, Ho.out, hB⟩

theorem zeroA (w : World) : (zeroValue 99).run Try.prog w = .ok (.agg #[.string ⟨#[]⟩, .string ⟨#[]⟩, .int .i64 0, .int .i64 0]) w := by kernel_rfl
theorem look_step {w : World} (b n : Nat) (D : DataW Unit) (hown : w.ownsMap Try.prog 9 RU b n D) (s : ByteArray) (hs : s.size ≤ maxLen) :
    ∃ (x y : ByteArray) (z t : Int), Sem.run Try.prog (Instr.lookup 152 (.map (some b)) (.string s) true) w = .ok (.tuple #[.agg #[.string x, .string y, .int .i64 z, .int .i64 t], .bool (has D (keyL s))]) w := by
  obtain ⟨v, ps, hrun, hv⟩ := hown.look_ok lawS (t := 152) (e := 99) Try.underlying152 (zeroA w) (zd := .lit (.bool true)) (zp := []) rfl (keyOf_string_mk Try.underlying9 hs)
  obtain ⟨x, y, z, t, rfl⟩ := RU_inv hv
  exact ⟨x, y, z, t, hrun⟩

set_option maxRecDepth 4000 in
set_option maxHeartbeats 1000000 in
theorem closGiven (r : AskD) (bk b n : Nat) (D : DataW Unit) (w : World) (hc : w.cell? ⟨bk, 0, none⟩ = some (.map (some b))) (lk : bk < w.heap.size) (hown : w.ownsMap Try.prog 9 RU b n D) (hf : r.fits) :
    Calls Try.prog 135 #[.agg #[.string r.h, .string r.c, .int .i64 r.f, .int .i64 r.t], .pointer (some ⟨bk, 0, none⟩)] w fun e w' => e = .returned (.bool (!has D (keyL r.h))) ∧ Below w.heap.size w w' := by
  obtain ⟨x, y, z, t, hrun⟩ := look_step b n D (hown.alloc (.cells #[.string r.h, .string r.c, .int .i64 r.f, .int .i64 r.t] 99)) r.h hf.1
  have Ho : Hid _ := hown
  clear hown
  go_enter Try.func135, Try.ntmps135
  go_wp2
  go_ret
  exact ⟨rfl, by repeat (first | exact Below.refl _ _ | refine bl_alloc ?_ _)⟩
end Go.Proofs.Ytkebokkckmgloaa.A
