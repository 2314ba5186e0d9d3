import Derived.Test.YtkebokkckmgloaaJ25
/- MateValid: the program's side, where lists may be nil. -/
namespace Go.Proofs.Ytkebokkckmgloaa
open Go.RowKit
set_option linter.unusedVariables false

set_option maxRecDepth 4000 in
set_option maxHeartbeats 2000000 in
theorem partsOkX (m : MateD) (a1 a2 a3 a4 : Option Addr) (n1 n2 n3 n4 : Nat) (w : World) (hL : ListsX w m a1 a2 a3 a4) (hc : m.ws.length ≤ n1) (hf : m.fits) :
    Calls Try.prog 70 #[.agg #[.string m.nm, .bool m.up, .int .i64 m.ck, .bool m.kn, .int .i64 m.se, .slice a1 m.ws.length n1, .slice a2 m.rs.length n2, .slice a3 m.qs.length n3, .slice a4 m.gs.length n4]] w fun e w' => (∃ q : Bool, e = .returned (.bool q) ∧ SaysP q m) ∧ Below w.heap.size w w' := by
  have Hb0 : Hid (Below w.heap.size w (w.alloc (.cells #[.string m.nm, .bool m.up, .int .i64 m.ck, .bool m.kn, .int .i64 m.se, .slice a1 m.ws.length n1, .slice a2 m.rs.length n2, .slice a3 m.qs.length n3, .slice a4 m.gs.length n4] 27))) := bl_alloc (Below.refl _ _) _
  have HL : Hid (ListsX (w.alloc (.cells #[.string m.nm, .bool m.up, .int .i64 m.ck, .bool m.kn, .int .i64 m.se, .slice a1 m.ws.length n1, .slice a2 m.rs.length n2, .slice a3 m.qs.length n3, .slice a4 m.gs.length n4] 27)) m a1 a2 a3 a4) := hL.keep Hb0.out
  cases qn : nameB m.nm
  · go_enter Try.func70, Try.ntmps70
    go_wp2_with (first | (go_at_call 129; refine (implName_any m.nm _ hf.n).mono ?_; rintro e w' ⟨rfl, rfl⟩) | (go_at_call 130; refine (within_any _ _ _ _).mono ?_; rintro e w' ⟨rfl, rfl⟩))
    go_ret
    exact ⟨⟨false, rfl, by unfold SaysP; simp [partsB, qn]⟩, Hb0.out⟩
  cases qc : inB m.ck 0 1000000
  · go_enter Try.func70, Try.ntmps70
    go_wp2_with (first | (go_at_call 129; refine (implName_any m.nm _ hf.n).mono ?_; rintro e w' ⟨rfl, rfl⟩) | (go_at_call 130; refine (within_any _ _ _ _).mono ?_; rintro e w' ⟨rfl, rfl⟩))
    go_ret
    exact ⟨⟨false, rfl, by unfold SaysP; simp [partsB, qc]⟩, Hb0.out⟩
  cases qs : inB m.se 0 1000000
  · go_enter Try.func70, Try.ntmps70
    go_wp2_with (first | (go_at_call 129; refine (implName_any m.nm _ hf.n).mono ?_; rintro e w' ⟨rfl, rfl⟩) | (go_at_call 130; refine (within_any _ _ _ _).mono ?_; rintro e w' ⟨rfl, rfl⟩))
    go_ret
    exact ⟨⟨false, rfl, by unfold SaysP; simp [partsB, qs]⟩, Hb0.out⟩
  go_enter Try.func70, Try.ntmps70
  go_wp2_with (first | (go_at_call 129; refine (implName_any m.nm _ hf.n).mono ?_; rintro e w' ⟨rfl, rfl⟩) | (go_at_call 130; refine (within_any _ _ _ _).mono ?_; rintro e w' ⟨rfl, rfl⟩))
  go_ret
  exact ⟨⟨true, rfl, by unfold SaysP; simp [partsB, qn, qc, qs]⟩, Hb0.out⟩

set_option maxRecDepth 4000 in
set_option maxHeartbeats 2000000 in
theorem wantsHeardX (m : MateD) (a1 a2 a3 a4 : Option Addr) (n1 n2 n3 n4 : Nat) (w : World) (hL : ListsX w m a1 a2 a3 a4) (hc : m.ws.length ≤ n1) (hf : m.fits) :
    Calls Try.prog 71 #[.agg #[.string m.nm, .bool m.up, .int .i64 m.ck, .bool m.kn, .int .i64 m.se, .slice a1 m.ws.length n1, .slice a2 m.rs.length n2, .slice a3 m.qs.length n3, .slice a4 m.gs.length n4]] w fun e w' => (∃ q : Bool, e = .returned (.bool q) ∧ (q = true ↔ WantsSay m ∧ (m.kn = true ∨ m.ws.length = 0))) ∧ Below w.heap.size w w' := by
  have Hb0 : Hid (Below w.heap.size w (w.alloc (.cells #[.string m.nm, .bool m.up, .int .i64 m.ck, .bool m.kn, .int .i64 m.se, .slice a1 m.ws.length n1, .slice a2 m.rs.length n2, .slice a3 m.qs.length n3, .slice a4 m.gs.length n4] 27))) := bl_alloc (Below.refl _ _) _
  have HL : Hid (ListsX (w.alloc (.cells #[.string m.nm, .bool m.up, .int .i64 m.ck, .bool m.kn, .int .i64 m.se, .slice a1 m.ws.length n1, .slice a2 m.rs.length n2, .slice a3 m.qs.length n3, .slice a4 m.gs.length n4] 27)) m a1 a2 a3 a4) := hL.keep Hb0.out
  go_enter Try.func71, Try.ntmps71
  go_wp2_with fail
  refine (W.implWantsOk_gv a1 n1 m.ws _ HL.out.r1 hc hf.f1 hf.k1).mono ?_
  rintro e w1 ⟨⟨q1, rfl, h1⟩, c1⟩
  have H1 : Hid _ := h1
  have k1 := box_keep c1
  have C1 : Hid _ := bl_trans Hb0.out c1
  clear h1 c1
  cases q1
  · go_wp2
    go_ret
    exact ⟨⟨false, rfl, ⟨fun h => (by cases h), fun h => by have := H1.out.2 h.1; cases this⟩⟩, C1.out⟩
  have G1 : Hid (WantsSay m) := H1.out.1 rfl
  clear H1
  cases hk : m.kn
  · by_cases hz : m.ws.length = 0
    · have hz' : ((m.ws.length : Int) == 0) = true := by simp [hz]
      have Hz : Hid _ := hz
      clear hz
      go_wp2
      go_ret
      exact ⟨⟨true, rfl, ⟨fun _ => ⟨G1.out, Or.inr Hz.out⟩, fun _ => rfl⟩⟩, C1.out⟩
    · have hz' : ((m.ws.length : Int) == 0) = false := beq_false_of_ne (by omega)
      have Hz : Hid _ := hz
      clear hz
      go_wp2
      go_ret
      exact ⟨⟨false, rfl, ⟨fun h => (by cases h), fun h => by
        rcases h.2 with h' | h'
        · rw [hk] at h'; cases h'
        · exact absurd h' Hz.out⟩⟩, C1.out⟩
  · go_wp2
    go_ret
    exact ⟨⟨true, rfl, ⟨fun _ => ⟨G1.out, Or.inl hk⟩, fun _ => rfl⟩⟩, C1.out⟩

set_option maxRecDepth 4000 in
set_option maxHeartbeats 2000000 in
theorem runsOkNowX (m : MateD) (a1 a2 a3 a4 : Option Addr) (n1 n2 n3 n4 : Nat) (w : World) (hL : ListsX w m a1 a2 a3 a4) (hc : m.ws.length ≤ n1) (hf : m.fits) :
    Calls Try.prog 72 #[.agg #[.string m.nm, .bool m.up, .int .i64 m.ck, .bool m.kn, .int .i64 m.se, .slice a1 m.ws.length n1, .slice a2 m.rs.length n2, .slice a3 m.qs.length n3, .slice a4 m.gs.length n4]] w fun e w' => (∃ q : Bool, e = .returned (.bool q) ∧ (q = true ↔ RunsSay m)) ∧ Below w.heap.size w w' := by
  have Hb0 : Hid (Below w.heap.size w (w.alloc (.cells #[.string m.nm, .bool m.up, .int .i64 m.ck, .bool m.kn, .int .i64 m.se, .slice a1 m.ws.length n1, .slice a2 m.rs.length n2, .slice a3 m.qs.length n3, .slice a4 m.gs.length n4] 27))) := bl_alloc (Below.refl _ _) _
  have HL : Hid (ListsX (w.alloc (.cells #[.string m.nm, .bool m.up, .int .i64 m.ck, .bool m.kn, .int .i64 m.se, .slice a1 m.ws.length n1, .slice a2 m.rs.length n2, .slice a3 m.qs.length n3, .slice a4 m.gs.length n4] 27)) m a1 a2 a3 a4) := hL.keep Hb0.out
  go_enter Try.func72, Try.ntmps72
  go_wp2_with fail
  refine (implRunsOk_gv a2 _ m.rs m.ck _ HL.out.r2 hf.f2 hf.k2).mono ?_
  rintro e w1 ⟨⟨q1, rfl, h1⟩, c1⟩
  have H1 : Hid _ := h1
  have C1 : Hid _ := bl_trans Hb0.out c1
  clear h1 c1
  go_wp2
  go_ret
  exact ⟨⟨q1, rfl, H1.out⟩, C1.out⟩

set_option maxRecDepth 4000 in
set_option maxHeartbeats 2000000 in
theorem asksOkX (m : MateD) (a1 a2 a3 a4 : Option Addr) (n1 n2 n3 n4 : Nat) (w : World) (hL : ListsX w m a1 a2 a3 a4) (hc : m.ws.length ≤ n1) (hf : m.fits) :
    Calls Try.prog 73 #[.agg #[.string m.nm, .bool m.up, .int .i64 m.ck, .bool m.kn, .int .i64 m.se, .slice a1 m.ws.length n1, .slice a2 m.rs.length n2, .slice a3 m.qs.length n3, .slice a4 m.gs.length n4]] w fun e w' => (∃ q : Bool, e = .returned (.bool q) ∧ (q = true ↔ AskSay m.ck m.qs ∧ AskSay m.ck m.gs)) ∧ Below w.heap.size w w' := by
  have Hb0 : Hid (Below w.heap.size w (w.alloc (.cells #[.string m.nm, .bool m.up, .int .i64 m.ck, .bool m.kn, .int .i64 m.se, .slice a1 m.ws.length n1, .slice a2 m.rs.length n2, .slice a3 m.qs.length n3, .slice a4 m.gs.length n4] 27))) := bl_alloc (Below.refl _ _) _
  have HL : Hid (ListsX (w.alloc (.cells #[.string m.nm, .bool m.up, .int .i64 m.ck, .bool m.kn, .int .i64 m.se, .slice a1 m.ws.length n1, .slice a2 m.rs.length n2, .slice a3 m.qs.length n3, .slice a4 m.gs.length n4] 27)) m a1 a2 a3 a4) := hL.keep Hb0.out
  go_enter Try.func73, Try.ntmps73
  go_wp2_with fail
  refine (A.implAsksOk_gv a3 _ m.qs m.ck _ HL.out.r3 hf.f3 hf.k3).mono ?_
  rintro e w1 ⟨⟨q1, rfl, h1⟩, c1⟩
  have H1 : Hid _ := h1
  have k1 := box_keep c1
  have HL1 : Hid _ := HL.out.keep c1
  have C1 : Hid _ := bl_trans Hb0.out c1
  clear h1 c1
  cases q1
  · go_wp2
    go_ret
    exact ⟨⟨false, rfl, ⟨fun h => (by cases h), fun h => by have := H1.out.2 h.1; cases this⟩⟩, C1.out⟩
  have G1 : Hid (AskSay m.ck m.qs) := H1.out.1 rfl
  clear H1
  go_wp2_with fail
  refine (A.implAsksOk_gv a4 _ m.gs m.ck _ HL1.out.r4 hf.f4 hf.k4).mono ?_
  rintro e w2 ⟨⟨q2, rfl, h2⟩, c2⟩
  have H2 : Hid _ := h2
  have C2 : Hid _ := bl_trans C1.out c2
  clear h2 c2
  go_wp2
  go_ret
  exact ⟨⟨q2, rfl, ⟨fun h => ⟨G1.out, H2.out.1 h⟩, fun h => H2.out.2 h.2⟩⟩, C2.out⟩

set_option maxRecDepth 4000 in
set_option maxHeartbeats 2000000 in
theorem downOkX (m : MateD) (a1 a2 a3 a4 : Option Addr) (n1 n2 n3 n4 : Nat) (w : World) (hL : ListsX w m a1 a2 a3 a4) (hc : m.ws.length ≤ n1) (hf : m.fits) :
    Calls Try.prog 75 #[.agg #[.string m.nm, .bool m.up, .int .i64 m.ck, .bool m.kn, .int .i64 m.se, .slice a1 m.ws.length n1, .slice a2 m.rs.length n2, .slice a3 m.qs.length n3, .slice a4 m.gs.length n4]] w fun e w' => (∃ q : Bool, e = .returned (.bool q) ∧ (q = true ↔ m.up = true ∨ DownSay m)) ∧ Below w.heap.size w w' := by
  have Hb0 : Hid (Below w.heap.size w (w.alloc (.cells #[.string m.nm, .bool m.up, .int .i64 m.ck, .bool m.kn, .int .i64 m.se, .slice a1 m.ws.length n1, .slice a2 m.rs.length n2, .slice a3 m.qs.length n3, .slice a4 m.gs.length n4] 27))) := bl_alloc (Below.refl _ _) _
  have HL : Hid (ListsX (w.alloc (.cells #[.string m.nm, .bool m.up, .int .i64 m.ck, .bool m.kn, .int .i64 m.se, .slice a1 m.ws.length n1, .slice a2 m.rs.length n2, .slice a3 m.qs.length n3, .slice a4 m.gs.length n4] 27)) m a1 a2 a3 a4) := hL.keep Hb0.out
  obtain ⟨u, hu⟩ : ∃ u, m.up = u := ⟨_, rfl⟩
  cases u
  · obtain ⟨kk, hk⟩ : ∃ kk, m.kn = kk := ⟨_, rfl⟩
    cases kk
    · by_cases hse : m.se = 0
      · have hs' : (m.se == 0) = true := by simp [hse]
        have Hse : Hid _ := hse
        clear hse
        have k1 := hf.k1
        have k3 := hf.k3
        have k4 := hf.k4
        by_cases hz : m.ws.length + m.qs.length + m.gs.length = 0
        · have hz' : ((m.ws.length : Int) + (m.qs.length : Int) + (m.gs.length : Int) == 0) = true := by
            have : (m.ws.length : Int) + (m.qs.length : Int) + (m.gs.length : Int) = 0 := by omega
            simpa using this
          have Hz : Hid _ := hz
          clear hz
          go_enter Try.func75, Try.ntmps75
          go_wp2_with fail
          refine (allDown_gv heldB a2 _ m.rs _ (hL.keep (bl_alloc (Below.refl _ _) _)).r2 hf.k2 (fun r hr x hx => closDown r x)).mono ?_
          rintro e w1 ⟨⟨q1, rfl, h1⟩, c1⟩
          have H1 : Hid _ := h1
          have C1 : Hid _ := bl_trans (bl_alloc (Below.refl _ _) _) c1
          clear h1 c1
          go_wp2
          go_ret
          exact ⟨⟨q1, rfl, ⟨fun h => Or.inr ⟨hk, Hse.out, Hz.out, H1.out.1 h⟩, fun h => H1.out.2 (down_or h hu).2.2.2⟩⟩, C1.out⟩
        · have hz' : ((m.ws.length : Int) + (m.qs.length : Int) + (m.gs.length : Int) == 0) = false := beq_false_of_ne (by omega)
          have Hz : Hid _ := hz
          clear hz
          go_enter Try.func75, Try.ntmps75
          go_wp2
          go_ret
          exact ⟨⟨false, rfl, ⟨fun h => (by cases h), fun h => absurd (down_or h hu).2.2.1 Hz.out⟩⟩, bl_alloc (Below.refl _ _) _⟩
      · have hs' : (m.se == 0) = false := by simp [hse]
        have Hse : Hid _ := hse
        clear hse
        go_enter Try.func75, Try.ntmps75
        go_wp2
        go_ret
        exact ⟨⟨false, rfl, ⟨fun h => (by cases h), fun h => absurd (down_or h hu).2.1 Hse.out⟩⟩, bl_alloc (Below.refl _ _) _⟩
    · go_enter Try.func75, Try.ntmps75
      go_wp2
      go_ret
      exact ⟨⟨false, rfl, ⟨fun h => (by cases h), fun h => by have := (down_or h hu).1; rw [hk] at this; cases this⟩⟩, bl_alloc (Below.refl _ _) _⟩
  · go_enter Try.func75, Try.ntmps75
    go_wp2
    go_ret
    exact ⟨⟨true, rfl, ⟨fun _ => Or.inl hu, fun _ => rfl⟩⟩, bl_alloc (Below.refl _ _) _⟩
theorem three_boxesX {w w' : World} {m : MateD} {a1 a2 a3 a4 : Option Addr} {n1 n2 n3 n4 : Nat} (hb : Below (((w.alloc (.cells #[.string m.nm, .bool m.up, .int .i64 m.ck, .bool m.kn, .int .i64 m.se, .slice a1 m.ws.length n1, .slice a2 m.rs.length n2, .slice a3 m.qs.length n3, .slice a4 m.gs.length n4] 27)).alloc (.cells #[.func (.func 70) #[] #[], .func (.func 71) #[] #[], .func (.func 72) #[] #[], .func (.func 73) #[] #[], .func (.func 74) #[] #[], .func (.func 75) #[] #[]] 33)).alloc (.cells #[.string m.nm, .bool m.up, .int .i64 m.ck, .bool m.kn, .int .i64 m.se, .slice a1 m.ws.length n1, .slice a2 m.rs.length n2, .slice a3 m.qs.length n3, .slice a4 m.gs.length n4] 27)).heap.size (((w.alloc (.cells #[.string m.nm, .bool m.up, .int .i64 m.ck, .bool m.kn, .int .i64 m.se, .slice a1 m.ws.length n1, .slice a2 m.rs.length n2, .slice a3 m.qs.length n3, .slice a4 m.gs.length n4] 27)).alloc (.cells #[.func (.func 70) #[] #[], .func (.func 71) #[] #[], .func (.func 72) #[] #[], .func (.func 73) #[] #[], .func (.func 74) #[] #[], .func (.func 75) #[] #[]] 33)).alloc (.cells #[.string m.nm, .bool m.up, .int .i64 m.ck, .bool m.kn, .int .i64 m.se, .slice a1 m.ws.length n1, .slice a2 m.rs.length n2, .slice a3 m.qs.length n3, .slice a4 m.gs.length n4] 27)) w') :
    (∀ k, w'.cell? ⟨w.heap.size + 1, k, none⟩ = (#[.func (.func 70) #[] #[], .func (.func 71) #[] #[], .func (.func 72) #[] #[], .func (.func 73) #[] #[], .func (.func 74) #[] #[], .func (.func 75) #[] #[]] : Array Value)[k]?) ∧ (∀ k, w'.cell? ⟨w.heap.size + 1 + 1, k, none⟩ = (#[.string m.nm, .bool m.up, .int .i64 m.ck, .bool m.kn, .int .i64 m.se, .slice a1 m.ws.length n1, .slice a2 m.rs.length n2, .slice a3 m.qs.length n3, .slice a4 m.gs.length n4] : Array Value)[k]?) := by
  constructor
  · intro k
    rw [hb.cell (p := ⟨w.heap.size + 1, k, none⟩) (by simp)]
    simp [go_sem, World.cell?_alloc_past]
  · intro k
    rw [hb.cell (p := ⟨w.heap.size + 1 + 1, k, none⟩) (by simp)]
    simp [go_sem]

set_option maxRecDepth 4000 in
set_option maxHeartbeats 2000000 in
theorem noAskX (m : MateD) (a1 a2 a3 a4 : Option Addr) (n1 n2 n3 n4 : Nat) (w : World) (hL : ListsX w m a1 a2 a3 a4) (hc : m.ws.length ≤ n1) (hf : m.fits) :
    Calls Try.prog 74 #[.agg #[.string m.nm, .bool m.up, .int .i64 m.ck, .bool m.kn, .int .i64 m.se, .slice a1 m.ws.length n1, .slice a2 m.rs.length n2, .slice a3 m.qs.length n3, .slice a4 m.gs.length n4]] w fun e w' => (∃ q : Bool, e = .returned (.bool q) ∧ (q = true ↔ ∀ r ∈ m.qs, ¬ A.HasA m.gs r.h)) ∧ Below w.heap.size w w' := by
  have Hb0 : Hid (Below w.heap.size w (w.alloc (.cells #[.string m.nm, .bool m.up, .int .i64 m.ck, .bool m.kn, .int .i64 m.se, .slice a1 m.ws.length n1, .slice a2 m.rs.length n2, .slice a3 m.qs.length n3, .slice a4 m.gs.length n4] 27))) := bl_alloc (Below.refl _ _) _
  have HL : Hid (ListsX (w.alloc (.cells #[.string m.nm, .bool m.up, .int .i64 m.ck, .bool m.kn, .int .i64 m.se, .slice a1 m.ws.length n1, .slice a2 m.rs.length n2, .slice a3 m.qs.length n3, .slice a4 m.gs.length n4] 27)) m a1 a2 a3 a4) := hL.keep Hb0.out
  go_enter Try.func74, Try.ntmps74
  go_wp2_with fail
  refine (A.byName_gv a3 _ m.qs _ HL.out.r3 hf.f3 hf.k3).mono ?_
  rintro e w1 ⟨rfl, o1, c1⟩
  have k1 := box_keep c1
  have lb : w.heap.size < w1.heap.size := boxlt c1
  have HL1 : Hid _ := HL.out.keep c1
  have C1 : Hid _ := bl_trans Hb0.out c1
  have O1 : Hid (w1.ownsMap Try.prog 9 A.RU (w.heap.size + 1) m.qs.length (A.mapD m.qs)) := by have := o1; simp only [World.size_alloc] at this; exact this
  clear o1 c1
  go_wp2_with fail
  have hb1 : Hid (Below w1.heap.size w1 (w1.alloc (.cells #[.map (some (w.heap.size + 1))] 152))) := bl_alloc (Below.refl _ _) _
  have hck : ∀ x, Below (w1.alloc (.cells #[.map (some (w.heap.size + 1))] 152)).heap.size (w1.alloc (.cells #[.map (some (w.heap.size + 1))] 152)) x → x.cell? ⟨w1.heap.size, 0, none⟩ = some (.map (some (w.heap.size + 1))) := fun x hx => by rw [box_keep hx 0]; simp [go_sem]
  have hlk : ∀ x, Below (w1.alloc (.cells #[.map (some (w.heap.size + 1))] 152)).heap.size (w1.alloc (.cells #[.map (some (w.heap.size + 1))] 152)) x → w1.heap.size < x.heap.size := fun x hx => by have := hx.size; simp at this; omega
  have all := A.allGiven_gv w1.heap.size (fun r => !Maps.has (A.mapD m.qs) (A.keyL r.h)) a4 n4 m.gs (w1.alloc (.cells #[.map (some (w.heap.size + 1))] 152)) (HL1.out.keep hb1.out).r4 hf.k4 (fun r hr x hx => A.closGiven r w1.heap.size _ _ _ x (hck x hx) (hlk x hx) (A.owns_map_below (World.ownsMap.alloc O1.out _) hx) (hf.f4 r hr))
  have ALL : Hid _ := all
  clear all hck hlk
  first
  | refine Calls.mono ALL.out ?_
  | (have a2 := ALL.out; simp only [World.size_alloc] at a2; refine Calls.mono a2 ?_)
  rintro e w2 ⟨⟨q2, rfl, h2⟩, c2⟩
  have H2 : Hid _ := h2
  have C2 : Hid _ := bl_trans (bl_trans C1.out hb1.out) c2
  clear h2 c2
  go_wp2
  go_ret
  exact ⟨⟨q2, rfl, H2.out.trans (noboth_iff m.qs m.gs)⟩, C2.out⟩

set_option maxRecDepth 4000 in
set_option maxHeartbeats 2000000 in
theorem implValidX (m : MateD) (a1 a2 a3 a4 : Option Addr) (n1 n2 n3 n4 : Nat) (w : World) (hL : ListsX w m a1 a2 a3 a4) (hc : m.ws.length ≤ n1) (hf : m.fits) :
    Calls Try.prog 21 #[.agg #[.string m.nm, .bool m.up, .int .i64 m.ck, .bool m.kn, .int .i64 m.se, .slice a1 m.ws.length n1, .slice a2 m.rs.length n2, .slice a3 m.qs.length n3, .slice a4 m.gs.length n4]] w fun e w' => (∃ q : Bool, e = .returned (.bool q) ∧ SaysV q m) ∧ Below w.heap.size w w' := by
  have Hb0 : Hid (Below w.heap.size w (w.alloc (.cells #[.string m.nm, .bool m.up, .int .i64 m.ck, .bool m.kn, .int .i64 m.se, .slice a1 m.ws.length n1, .slice a2 m.rs.length n2, .slice a3 m.qs.length n3, .slice a4 m.gs.length n4] 27))) := bl_alloc (Below.refl _ _) _
  have HL : Hid (ListsX (w.alloc (.cells #[.string m.nm, .bool m.up, .int .i64 m.ck, .bool m.kn, .int .i64 m.se, .slice a1 m.ws.length n1, .slice a2 m.rs.length n2, .slice a3 m.qs.length n3, .slice a4 m.gs.length n4] 27)) m a1 a2 a3 a4) := hL.keep Hb0.out
  have hbv := build_valid
  have hx0 : Below w.heap.size w (((w.alloc (.cells #[.string m.nm, .bool m.up, .int .i64 m.ck, .bool m.kn, .int .i64 m.se, .slice a1 m.ws.length n1, .slice a2 m.rs.length n2, .slice a3 m.qs.length n3, .slice a4 m.gs.length n4] 27)).alloc (.cells #[.func (.func 70) #[] #[], .func (.func 71) #[] #[], .func (.func 72) #[] #[], .func (.func 73) #[] #[], .func (.func 74) #[] #[], .func (.func 75) #[] #[]] 33)).alloc (.cells #[.string m.nm, .bool m.up, .int .i64 m.ck, .bool m.kn, .int .i64 m.se, .slice a1 m.ws.length n1, .slice a2 m.rs.length n2, .slice a3 m.qs.length n3, .slice a4 m.gs.length n4] 27)) := bl_alloc (bl_alloc (bl_alloc (Below.refl _ _) _) _) _
  have Hx0 : Hid _ := hx0
  have HL0 : Hid _ := hL.keep hx0
  clear hx0
  go_enter Try.func21, Try.ntmps21
  go_wp2_with go_in
  clear hbv
  refine wp_loop_rounds 7 ?_
  rw [rounds_succ]
  go_wp2_with fail
  refine (partsOkX m a1 a2 a3 a4 n1 n2 n3 n4 _ HL0.out hc hf).mono ?_
  rintro e w1 ⟨⟨q1, rfl, h1⟩, c1⟩
  have H1 : Hid _ := h1
  have C1 : Hid (Below (((w.alloc (.cells #[.string m.nm, .bool m.up, .int .i64 m.ck, .bool m.kn, .int .i64 m.se, .slice a1 m.ws.length n1, .slice a2 m.rs.length n2, .slice a3 m.qs.length n3, .slice a4 m.gs.length n4] 27)).alloc (.cells #[.func (.func 70) #[] #[], .func (.func 71) #[] #[], .func (.func 72) #[] #[], .func (.func 73) #[] #[], .func (.func 74) #[] #[], .func (.func 75) #[] #[]] 33)).alloc (.cells #[.string m.nm, .bool m.up, .int .i64 m.ck, .bool m.kn, .int .i64 m.se, .slice a1 m.ws.length n1, .slice a2 m.rs.length n2, .slice a3 m.qs.length n3, .slice a4 m.gs.length n4] 27)).heap.size (((w.alloc (.cells #[.string m.nm, .bool m.up, .int .i64 m.ck, .bool m.kn, .int .i64 m.se, .slice a1 m.ws.length n1, .slice a2 m.rs.length n2, .slice a3 m.qs.length n3, .slice a4 m.gs.length n4] 27)).alloc (.cells #[.func (.func 70) #[] #[], .func (.func 71) #[] #[], .func (.func 72) #[] #[], .func (.func 73) #[] #[], .func (.func 74) #[] #[], .func (.func 75) #[] #[]] 33)).alloc (.cells #[.string m.nm, .bool m.up, .int .i64 m.ck, .bool m.kn, .int .i64 m.se, .slice a1 m.ws.length n1, .slice a2 m.rs.length n2, .slice a3 m.qs.length n3, .slice a4 m.gs.length n4] 27)) w1) := c1
  clear h1 c1
  obtain ⟨kf1, km1⟩ := three_boxesX C1.out
  cases q1
  · go_wp2
    go_ret
    exact ⟨⟨false, rfl, saysV_no (fun h => by have := H1.out.2 h.1; cases this)⟩, bl_trans Hx0.out C1.out⟩
  have G1 : Hid (partsB m = true) := H1.out.1 rfl
  clear H1
  have HL1 : Hid _ := HL0.out.keep C1.out
  go_wp2_with fail
  rw [rounds_succ]
  go_wp2_with fail
  refine (wantsHeardX m a1 a2 a3 a4 n1 n2 n3 n4 _ HL1.out hc hf).mono ?_
  rintro e w2 ⟨⟨q2, rfl, h2⟩, c2⟩
  have H2 : Hid _ := h2
  have C2 : Hid (Below (((w.alloc (.cells #[.string m.nm, .bool m.up, .int .i64 m.ck, .bool m.kn, .int .i64 m.se, .slice a1 m.ws.length n1, .slice a2 m.rs.length n2, .slice a3 m.qs.length n3, .slice a4 m.gs.length n4] 27)).alloc (.cells #[.func (.func 70) #[] #[], .func (.func 71) #[] #[], .func (.func 72) #[] #[], .func (.func 73) #[] #[], .func (.func 74) #[] #[], .func (.func 75) #[] #[]] 33)).alloc (.cells #[.string m.nm, .bool m.up, .int .i64 m.ck, .bool m.kn, .int .i64 m.se, .slice a1 m.ws.length n1, .slice a2 m.rs.length n2, .slice a3 m.qs.length n3, .slice a4 m.gs.length n4] 27)).heap.size (((w.alloc (.cells #[.string m.nm, .bool m.up, .int .i64 m.ck, .bool m.kn, .int .i64 m.se, .slice a1 m.ws.length n1, .slice a2 m.rs.length n2, .slice a3 m.qs.length n3, .slice a4 m.gs.length n4] 27)).alloc (.cells #[.func (.func 70) #[] #[], .func (.func 71) #[] #[], .func (.func 72) #[] #[], .func (.func 73) #[] #[], .func (.func 74) #[] #[], .func (.func 75) #[] #[]] 33)).alloc (.cells #[.string m.nm, .bool m.up, .int .i64 m.ck, .bool m.kn, .int .i64 m.se, .slice a1 m.ws.length n1, .slice a2 m.rs.length n2, .slice a3 m.qs.length n3, .slice a4 m.gs.length n4] 27)) w2) := bl_trans C1.out c2
  clear kf1 km1
  clear h2 c2
  obtain ⟨kf2, km2⟩ := three_boxesX C2.out
  cases q2
  · go_wp2
    go_ret
    exact ⟨⟨false, rfl, saysV_no (fun h => by have := H2.out.2 h.2.1; cases this)⟩, bl_trans Hx0.out C2.out⟩
  have G2 : Hid (WantsSay m ∧ (m.kn = true ∨ m.ws.length = 0)) := H2.out.1 rfl
  clear H2
  have HL2 : Hid _ := HL0.out.keep C2.out
  go_wp2_with fail
  rw [rounds_succ]
  go_wp2_with fail
  refine (runsOkNowX m a1 a2 a3 a4 n1 n2 n3 n4 _ HL2.out hc hf).mono ?_
  rintro e w3 ⟨⟨q3, rfl, h3⟩, c3⟩
  have H3 : Hid _ := h3
  have C3 : Hid (Below (((w.alloc (.cells #[.string m.nm, .bool m.up, .int .i64 m.ck, .bool m.kn, .int .i64 m.se, .slice a1 m.ws.length n1, .slice a2 m.rs.length n2, .slice a3 m.qs.length n3, .slice a4 m.gs.length n4] 27)).alloc (.cells #[.func (.func 70) #[] #[], .func (.func 71) #[] #[], .func (.func 72) #[] #[], .func (.func 73) #[] #[], .func (.func 74) #[] #[], .func (.func 75) #[] #[]] 33)).alloc (.cells #[.string m.nm, .bool m.up, .int .i64 m.ck, .bool m.kn, .int .i64 m.se, .slice a1 m.ws.length n1, .slice a2 m.rs.length n2, .slice a3 m.qs.length n3, .slice a4 m.gs.length n4] 27)).heap.size (((w.alloc (.cells #[.string m.nm, .bool m.up, .int .i64 m.ck, .bool m.kn, .int .i64 m.se, .slice a1 m.ws.length n1, .slice a2 m.rs.length n2, .slice a3 m.qs.length n3, .slice a4 m.gs.length n4] 27)).alloc (.cells #[.func (.func 70) #[] #[], .func (.func 71) #[] #[], .func (.func 72) #[] #[], .func (.func 73) #[] #[], .func (.func 74) #[] #[], .func (.func 75) #[] #[]] 33)).alloc (.cells #[.string m.nm, .bool m.up, .int .i64 m.ck, .bool m.kn, .int .i64 m.se, .slice a1 m.ws.length n1, .slice a2 m.rs.length n2, .slice a3 m.qs.length n3, .slice a4 m.gs.length n4] 27)) w3) := bl_trans C2.out c3
  clear kf2 km2
  clear h3 c3
  obtain ⟨kf3, km3⟩ := three_boxesX C3.out
  cases q3
  · go_wp2
    go_ret
    exact ⟨⟨false, rfl, saysV_no (fun h => by have := H3.out.2 h.2.2.1; cases this)⟩, bl_trans Hx0.out C3.out⟩
  have G3 : Hid (RunsSay m) := H3.out.1 rfl
  clear H3
  have HL3 : Hid _ := HL0.out.keep C3.out
  go_wp2_with fail
  rw [rounds_succ]
  go_wp2_with fail
  refine (asksOkX m a1 a2 a3 a4 n1 n2 n3 n4 _ HL3.out hc hf).mono ?_
  rintro e w4 ⟨⟨q4, rfl, h4⟩, c4⟩
  have H4 : Hid _ := h4
  have C4 : Hid (Below (((w.alloc (.cells #[.string m.nm, .bool m.up, .int .i64 m.ck, .bool m.kn, .int .i64 m.se, .slice a1 m.ws.length n1, .slice a2 m.rs.length n2, .slice a3 m.qs.length n3, .slice a4 m.gs.length n4] 27)).alloc (.cells #[.func (.func 70) #[] #[], .func (.func 71) #[] #[], .func (.func 72) #[] #[], .func (.func 73) #[] #[], .func (.func 74) #[] #[], .func (.func 75) #[] #[]] 33)).alloc (.cells #[.string m.nm, .bool m.up, .int .i64 m.ck, .bool m.kn, .int .i64 m.se, .slice a1 m.ws.length n1, .slice a2 m.rs.length n2, .slice a3 m.qs.length n3, .slice a4 m.gs.length n4] 27)).heap.size (((w.alloc (.cells #[.string m.nm, .bool m.up, .int .i64 m.ck, .bool m.kn, .int .i64 m.se, .slice a1 m.ws.length n1, .slice a2 m.rs.length n2, .slice a3 m.qs.length n3, .slice a4 m.gs.length n4] 27)).alloc (.cells #[.func (.func 70) #[] #[], .func (.func 71) #[] #[], .func (.func 72) #[] #[], .func (.func 73) #[] #[], .func (.func 74) #[] #[], .func (.func 75) #[] #[]] 33)).alloc (.cells #[.string m.nm, .bool m.up, .int .i64 m.ck, .bool m.kn, .int .i64 m.se, .slice a1 m.ws.length n1, .slice a2 m.rs.length n2, .slice a3 m.qs.length n3, .slice a4 m.gs.length n4] 27)) w4) := bl_trans C3.out c4
  clear kf3 km3
  clear h4 c4
  obtain ⟨kf4, km4⟩ := three_boxesX C4.out
  cases q4
  · go_wp2
    go_ret
    exact ⟨⟨false, rfl, saysV_no (fun h => by have := H4.out.2 h.2.2.2.1; cases this)⟩, bl_trans Hx0.out C4.out⟩
  have G4 : Hid (AskSay m.ck m.qs ∧ AskSay m.ck m.gs) := H4.out.1 rfl
  clear H4
  have HL4 : Hid _ := HL0.out.keep C4.out
  go_wp2_with fail
  rw [rounds_succ]
  go_wp2_with fail
  refine (noAskX m a1 a2 a3 a4 n1 n2 n3 n4 _ HL4.out hc hf).mono ?_
  rintro e w5 ⟨⟨q5, rfl, h5⟩, c5⟩
  have H5 : Hid _ := h5
  have C5 : Hid (Below (((w.alloc (.cells #[.string m.nm, .bool m.up, .int .i64 m.ck, .bool m.kn, .int .i64 m.se, .slice a1 m.ws.length n1, .slice a2 m.rs.length n2, .slice a3 m.qs.length n3, .slice a4 m.gs.length n4] 27)).alloc (.cells #[.func (.func 70) #[] #[], .func (.func 71) #[] #[], .func (.func 72) #[] #[], .func (.func 73) #[] #[], .func (.func 74) #[] #[], .func (.func 75) #[] #[]] 33)).alloc (.cells #[.string m.nm, .bool m.up, .int .i64 m.ck, .bool m.kn, .int .i64 m.se, .slice a1 m.ws.length n1, .slice a2 m.rs.length n2, .slice a3 m.qs.length n3, .slice a4 m.gs.length n4] 27)).heap.size (((w.alloc (.cells #[.string m.nm, .bool m.up, .int .i64 m.ck, .bool m.kn, .int .i64 m.se, .slice a1 m.ws.length n1, .slice a2 m.rs.length n2, .slice a3 m.qs.length n3, .slice a4 m.gs.length n4] 27)).alloc (.cells #[.func (.func 70) #[] #[], .func (.func 71) #[] #[], .func (.func 72) #[] #[], .func (.func 73) #[] #[], .func (.func 74) #[] #[], .func (.func 75) #[] #[]] 33)).alloc (.cells #[.string m.nm, .bool m.up, .int .i64 m.ck, .bool m.kn, .int .i64 m.se, .slice a1 m.ws.length n1, .slice a2 m.rs.length n2, .slice a3 m.qs.length n3, .slice a4 m.gs.length n4] 27)) w5) := bl_trans C4.out c5
  clear kf4 km4
  clear h5 c5
  obtain ⟨kf5, km5⟩ := three_boxesX C5.out
  cases q5
  · go_wp2
    go_ret
    exact ⟨⟨false, rfl, saysV_no (fun h => by have := H5.out.2 h.2.2.2.2.1; cases this)⟩, bl_trans Hx0.out C5.out⟩
  have G5 : Hid (∀ r ∈ m.qs, ¬ A.HasA m.gs r.h) := H5.out.1 rfl
  clear H5
  have HL5 : Hid _ := HL0.out.keep C5.out
  go_wp2_with fail
  rw [rounds_succ]
  go_wp2_with fail
  refine (downOkX m a1 a2 a3 a4 n1 n2 n3 n4 _ HL5.out hc hf).mono ?_
  rintro e w6 ⟨⟨q6, rfl, h6⟩, c6⟩
  have H6 : Hid _ := h6
  have C6 : Hid (Below (((w.alloc (.cells #[.string m.nm, .bool m.up, .int .i64 m.ck, .bool m.kn, .int .i64 m.se, .slice a1 m.ws.length n1, .slice a2 m.rs.length n2, .slice a3 m.qs.length n3, .slice a4 m.gs.length n4] 27)).alloc (.cells #[.func (.func 70) #[] #[], .func (.func 71) #[] #[], .func (.func 72) #[] #[], .func (.func 73) #[] #[], .func (.func 74) #[] #[], .func (.func 75) #[] #[]] 33)).alloc (.cells #[.string m.nm, .bool m.up, .int .i64 m.ck, .bool m.kn, .int .i64 m.se, .slice a1 m.ws.length n1, .slice a2 m.rs.length n2, .slice a3 m.qs.length n3, .slice a4 m.gs.length n4] 27)).heap.size (((w.alloc (.cells #[.string m.nm, .bool m.up, .int .i64 m.ck, .bool m.kn, .int .i64 m.se, .slice a1 m.ws.length n1, .slice a2 m.rs.length n2, .slice a3 m.qs.length n3, .slice a4 m.gs.length n4] 27)).alloc (.cells #[.func (.func 70) #[] #[], .func (.func 71) #[] #[], .func (.func 72) #[] #[], .func (.func 73) #[] #[], .func (.func 74) #[] #[], .func (.func 75) #[] #[]] 33)).alloc (.cells #[.string m.nm, .bool m.up, .int .i64 m.ck, .bool m.kn, .int .i64 m.se, .slice a1 m.ws.length n1, .slice a2 m.rs.length n2, .slice a3 m.qs.length n3, .slice a4 m.gs.length n4] 27)) w6) := bl_trans C5.out c6
  clear kf5 km5
  clear h6 c6
  obtain ⟨kf6, km6⟩ := three_boxesX C6.out
  cases q6
  · go_wp2
    go_ret
    exact ⟨⟨false, rfl, saysV_no (fun h => by have := H6.out.2 h.2.2.2.2.2; cases this)⟩, bl_trans Hx0.out C6.out⟩
  have G6 : Hid (m.up = true ∨ DownSay m) := H6.out.1 rfl
  clear H6
  have HL6 : Hid _ := HL0.out.keep C6.out
  go_wp2_with fail
  rw [rounds_succ]
  go_wp2
  go_ret
  exact ⟨⟨true, rfl, ⟨fun _ => ⟨G1.out, G2.out, G3.out, G4.out, G5.out, G6.out⟩, fun _ => rfl⟩⟩, bl_trans Hx0.out C6.out⟩
end Go.Proofs.Ytkebokkckmgloaa
