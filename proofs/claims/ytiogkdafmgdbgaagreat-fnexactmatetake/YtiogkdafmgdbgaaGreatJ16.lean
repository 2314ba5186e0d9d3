import Derived.Test.YtiogkdafmgdbgaaGreatJ05
import Derived.Test.YtiogkdafmgdbgaaGreatJ15
import Derived.Maps.OwnSet
import Derived.Test.YtiogkdafmgdbgaaGreatJ14
/- MateValid: the specification's side. -/
namespace Go.Proofs.YtiogkdafmgdbgaaGreat
open Go.RowKit
set_option linter.unusedVariables false

def SaysV (q : Bool) (m : MateD) : Prop := q = true ↔ Valid m
theorem saysV_no {m : MateD} (h : Valid m → False) : SaysV false m := ⟨fun h' => (by cases h'), fun h' => (h h').elim⟩
theorem kn_no {k : Bool} {n : Nat} (h1 : k = false) (h2 : 0 < n) (h : k = true ∨ n = 0) : False := by
  rcases h with h | h
  · rw [h1] at h; cases h
  · omega
theorem kn_yes {k : Bool} {n : Nat} (h : ¬ (k = false ∧ 0 < n)) : k = true ∨ n = 0 := by
  cases hk : k
  · exact Or.inr (Nat.eq_zero_of_not_pos (fun h' => h ⟨hk, h'⟩))
  · exact Or.inl rfl
theorem kn_part {k : Bool} {n : Nat} (h : k = true ∨ n = 0) : (k = true ∧ (0 : Int) < (n : Int)) ∨ n = 0 := by
  rcases Nat.eq_zero_or_pos n with h' | h'
  · exact Or.inr h'
  · rcases h with h | h
    · exact Or.inl ⟨h, by omega⟩
    · omega
theorem none_step {qs gs : List A.AskD} {k : Nat} {r : A.AskD} (h : ∀ j r, j < k → qs[j]? = some r → ¬ A.HasA gs r.h) (hr : qs[k]? = some r) (hn : ¬ A.HasA gs r.h) : ∀ j r, j < k + 1 → qs[j]? = some r → ¬ A.HasA gs r.h := by
  intro j q hj hq
  by_cases e : j = k
  · subst e; rw [hr] at hq; cases hq; exact hn
  · exact h j q (by omega) hq
theorem none_all {qs gs : List A.AskD} (h : ∀ j r, j < qs.length → qs[j]? = some r → ¬ A.HasA gs r.h) : ∀ r ∈ qs, ¬ A.HasA gs r.h := by
  intro r hr
  obtain ⟨j, hj⟩ := List.getElem?_of_mem hr
  exact h j r (List.getElem?_eq_some_iff.1 hj).1 hj
theorem each_step {rs : List RunD} {k : Nat} {r : RunD} (h : ∀ j r, j < k → rs[j]? = some r → heldB r = true) (hr : rs[k]? = some r) (hn : heldB r = true) : ∀ j r, j < k + 1 → rs[j]? = some r → heldB r = true := by
  intro j q hj hq
  by_cases e : j = k
  · subst e; rw [hr] at hq; cases hq; exact hn
  · exact h j q (by omega) hq
theorem each_all {rs : List RunD} (h : ∀ j r, j < rs.length → rs[j]? = some r → heldB r = true) : ∀ r ∈ rs, heldB r = true := by
  intro r hr
  obtain ⟨j, hj⟩ := List.getElem?_of_mem hr
  exact h j r (List.getElem?_eq_some_iff.1 hj).1 hj
theorem drewN_top {B : Nat} {w w' : World} (h : Below B w w') {n : Nat} : Below B w (w'.drewN n) := ⟨h.os, h.tape, h.output, h.size, h.block⟩
theorem down_of {m : MateD} (h : Valid m) (hu : m.up = false) : DownSay m := by
  rcases h.2.2.2.2.2 with h' | h'
  · rw [hu] at h'; cases h'
  · exact h'
theorem down_len {k : Bool} {a b c : Nat} (h : k = true ∨ a = 0) (hk : k = false) (hl : b + c = 0) : a + b + c = 0 := by
  rcases h with h | h
  · rw [hk] at h; cases h
  · omega
theorem held_at {m : MateD} {k : Nat} {r : RunD} (hr : m.rs[k]? = some r) (hh : heldB r = false) (h : Valid m) (hu : m.up = false) : False := by
  have := (down_of h hu).2.2.2 r (List.mem_of_getElem? hr); rw [hh] at this; cases this

set_option maxRecDepth 4000 in
set_option maxHeartbeats 8000000 in
theorem specValid (m : MateD) (b1 b2 b3 b4 : Nat) (w : World) (hL : Lists w m b1 b2 b3 b4) (hf : m.fits) :
    Calls Tryz.prog 18 #[.agg #[.string m.nm, .bool m.up, .int .i64 m.ck, .bool m.kn, .int .i64 m.se, .slice (some ⟨b1, 0, none⟩) m.ws.length m.ws.length, .slice (some ⟨b2, 0, none⟩) m.rs.length m.rs.length, .slice (some ⟨b3, 0, none⟩) m.qs.length m.qs.length, .slice (some ⟨b4, 0, none⟩) m.gs.length m.gs.length]] w fun e w' => (∃ q : Bool, e = .returned (.bool q) ∧ SaysV q m) ∧ Below w.heap.size w w' := by
  have hb0 : Below w.heap.size w (w.alloc (.cells #[.string m.nm, .bool m.up, .int .i64 m.ck, .bool m.kn, .int .i64 m.se, .slice (some ⟨b1, 0, none⟩) m.ws.length m.ws.length, .slice (some ⟨b2, 0, none⟩) m.rs.length m.rs.length, .slice (some ⟨b3, 0, none⟩) m.qs.length m.qs.length, .slice (some ⟨b4, 0, none⟩) m.gs.length m.gs.length] 35)) := bl_alloc (Below.refl _ _) _
  have L0 := hL.keep hb0
  cases qn : nameB m.nm
  · go_enter Tryz.func18, Tryz.ntmps18
    go_wp2_with (first | (go_at_call 46; refine (specName_any m.nm _ hf.n).mono ?_; rintro e w' ⟨rfl, rfl⟩) | (go_at_call 21; refine (specIn_any _ _ _ _).mono ?_; rintro e w' ⟨rfl, rfl⟩))
    go_ret
    exact ⟨⟨false, rfl, saysV_no (fun h => by have := h.1; simp [partsB, qn] at this)⟩, hb0⟩
  cases qc : inB m.ck 0 1000000
  · go_enter Tryz.func18, Tryz.ntmps18
    go_wp2_with (first | (go_at_call 46; refine (specName_any m.nm _ hf.n).mono ?_; rintro e w' ⟨rfl, rfl⟩) | (go_at_call 21; refine (specIn_any _ _ _ _).mono ?_; rintro e w' ⟨rfl, rfl⟩))
    go_ret
    exact ⟨⟨false, rfl, saysV_no (fun h => by have := h.1; simp [partsB, qc] at this)⟩, hb0⟩
  cases qs : inB m.se 0 1000000
  · go_enter Tryz.func18, Tryz.ntmps18
    go_wp2_with (first | (go_at_call 46; refine (specName_any m.nm _ hf.n).mono ?_; rintro e w' ⟨rfl, rfl⟩) | (go_at_call 21; refine (specIn_any _ _ _ _).mono ?_; rintro e w' ⟨rfl, rfl⟩))
    go_ret
    exact ⟨⟨false, rfl, saysV_no (fun h => by have := h.1; simp [partsB, qs] at this)⟩, hb0⟩
  have Hp : Hid (partsB m = true) := by show partsB m = true; simp [partsB, qn, qc, qs]
  have HL : Hid _ := L0
  have Hb0 : Hid _ := hb0
  clear L0 hb0
  go_enter Tryz.func18, Tryz.ntmps18
  go_wp2_with (first | (go_at_call 46; refine (specName_any m.nm _ hf.n).mono ?_; rintro e w' ⟨rfl, rfl⟩) | (go_at_call 21; refine (specIn_any _ _ _ _).mono ?_; rintro e w' ⟨rfl, rfl⟩))
  refine (W.specWantsOk b1 0 _ m.ws _ HL.out.r1 HL.out.l1 hf.f1 hf.k1).mono ?_
  rintro e w1 ⟨⟨q1, rfl, h1⟩, c1⟩
  have H1 : Hid _ := h1
  clear h1
  have k1 := box_keep c1
  cases q1
  · have C1 : Hid _ := bl_trans Hb0.out c1
    clear c1
    go_wp2
    go_ret
    exact ⟨⟨false, rfl, saysV_no (fun h => by have := H1.out.2 h.2.1.1; cases this)⟩, C1.out⟩
  have G1 : Hid (WantsSay m) := H1.out.1 rfl
  clear H1
  have L1 := HL.out.keep c1
  have HL1 : Hid _ := L1
  have C1 : Hid _ := c1
  clear c1 L1
  by_cases hkn : m.kn = false ∧ 0 < m.ws.length
  · obtain ⟨g1, g2⟩ := hkn
    have g3 : (0 : Int) < (m.ws.length : Int) := by omega
    go_wp2
    go_ret
    exact ⟨⟨false, rfl, saysV_no (fun h => kn_no g1 g2 h.2.1.2)⟩, bl_trans Hb0.out C1.out⟩
  have Hk : Hid (m.kn = true ∨ m.ws.length = 0) := kn_yes hkn
  clear hkn
  rcases kn_part Hk.out with ⟨hk, hw0⟩ | hk
  · go_wp2_with fail
    refine (specRunsOk b2 0 _ m.rs m.ck _ HL1.out.r2 HL1.out.l2 hf.f2 hf.k2).mono ?_
    rintro e w2 ⟨⟨q2, rfl, h2⟩, c2⟩
    have H2 : Hid _ := h2
    have C2 : Hid _ := bl_trans C1.out c2
    have k2 := box_keep C2.out
    clear k1 h2 c2
    cases q2
    · go_wp2
      go_ret
      exact ⟨⟨false, rfl, saysV_no (fun h => by have := H2.out.2 h.2.2.1; cases this)⟩, bl_trans Hb0.out C2.out⟩
    have G2 : Hid (RunsSay m) := H2.out.1 rfl
    clear H2
    have HL2 : Hid _ := HL.out.keep C2.out
    go_wp2_with fail
    refine (A.specAsksOk b3 0 _ m.qs m.ck _ HL2.out.r3 HL2.out.l3 hf.f3 hf.k3).mono ?_
    rintro e w3 ⟨⟨q3, rfl, h3⟩, c3⟩
    have H3 : Hid _ := h3
    have C3 : Hid _ := bl_trans C2.out c3
    have k3 := box_keep C3.out
    clear k2 h3 c3
    cases q3
    · go_wp2
      go_ret
      exact ⟨⟨false, rfl, saysV_no (fun h => by have := H3.out.2 h.2.2.2.1.1; cases this)⟩, bl_trans Hb0.out C3.out⟩
    have G3 : Hid (AskSay m.ck m.qs) := H3.out.1 rfl
    clear H3
    have HL3 : Hid _ := HL.out.keep C3.out
    go_wp2_with fail
    refine (A.specAsksOk b4 0 _ m.gs m.ck _ HL3.out.r4 HL3.out.l4 hf.f4 hf.k4).mono ?_
    rintro e w4 ⟨⟨q4, rfl, h4⟩, c4⟩
    have H4 : Hid _ := h4
    have C4 : Hid _ := bl_trans C3.out c4
    have k4 := box_keep C4.out
    clear k3 h4 c4
    cases q4
    · go_wp2
      go_ret
      exact ⟨⟨false, rfl, saysV_no (fun h => by have := H4.out.2 h.2.2.2.1.2; cases this)⟩, bl_trans Hb0.out C4.out⟩
    have G4 : Hid (AskSay m.ck m.gs) := H4.out.1 rfl
    clear H4
    have HL4 : Hid _ := HL.out.keep C4.out
    have hk3 := hf.k3
    have hk4 := hf.k4
    go_wp2
    clear k4
    go_loopw [3] (fun i wx => ∃ (k : Nat), k ≤ m.qs.length ∧ i = .int .i64 k ∧ Hid (∀ j r, j < k → m.qs[j]? = some r → ¬ A.HasA m.gs r.h) ∧ Hid (Below (w.alloc (.cells #[.string m.nm, .bool m.up, .int .i64 m.ck, .bool m.kn, .int .i64 m.se, .slice (some ⟨b1, 0, none⟩) m.ws.length m.ws.length, .slice (some ⟨b2, 0, none⟩) m.rs.length m.rs.length, .slice (some ⟨b3, 0, none⟩) m.qs.length m.qs.length, .slice (some ⟨b4, 0, none⟩) m.gs.length m.gs.length] 35)).heap.size (w.alloc (.cells #[.string m.nm, .bool m.up, .int .i64 m.ck, .bool m.kn, .int .i64 m.se, .slice (some ⟨b1, 0, none⟩) m.ws.length m.ws.length, .slice (some ⟨b2, 0, none⟩) m.rs.length m.rs.length, .slice (some ⟨b3, 0, none⟩) m.qs.length m.qs.length, .slice (some ⟨b4, 0, none⟩) m.gs.length m.gs.length] 35)) wx)) (fun i _ => m.qs.length - (intOf i).toNat)
    case atStart => exact ⟨0, Nat.zero_le _, rfl, fun j r hj _ => by omega, C4.out⟩
    case round =>
      obtain ⟨k, hkk, rfl, Ha, HB⟩ := hrel
      have kb := box_keep HB.out
      by_cases hlt : k < m.qs.length
      · obtain ⟨r, hr⟩ : ∃ r, m.qs[k]? = some r := ⟨m.qs[k], List.getElem?_eq_getElem hlt⟩
        have Hr : Hid _ := hr
        have HLx : Hid _ := HL.out.keep HB.out
        obtain ⟨c0, -⟩ := HLx.out.r3.at hr
        simp only [Nat.zero_add] at c0
        clear hr
        have i0 : (0 : Int) ≤ (k : Int) := by omega
        have i1 : (k : Int) < (m.qs.length : Int) := by omega
        by_cases ha : 0 ≤ A.askAt m.gs r.h
        · go_wp2_with fail
          go_quiet (first | (go_at_call 22; refine Calls.quiet_of_same (A.specAsk_x b4 0 _ m.gs r.h _ (fun k r hk j v hj => HLx.out.r4 k r hk j v hj) HLx.out.l4 hf.k4)))
          go_wp2
          go_ret
          exact ⟨⟨false, rfl, saysV_no (fun h => h.2.2.2.2.1 r (List.mem_of_getElem? Hr.out) ((A.askAt_has _ _).1 ha))⟩, drewN_top (bl_trans Hb0.out HB.out)⟩
        · have ha' : A.askAt m.gs r.h < 0 := by omega
          go_wp2_with fail
          go_quiet (first | (go_at_call 22; refine Calls.quiet_of_same (A.specAsk_x b4 0 _ m.gs r.h _ (fun k r hk j v hj => HLx.out.r4 k r hk j v hj) HLx.out.l4 hf.k4)))
          go_wp2
          exact ⟨⟨k + 1, by omega, by go_num, none_step Ha.out Hr.out (fun h => by have := (A.askAt_has _ _).2 h; omega), drewN_top HB.out⟩, by simp [intOf]; omega⟩
      · have ek : k = m.qs.length := by omega
        subst ek
        have G5 : Hid (∀ r ∈ m.qs, ¬ A.HasA m.gs r.h) := none_all Ha.out
        cases hu : m.up
        · have hk2 := hf.k2
          go_wp2
          clear kb
          go_loopw [4] (fun i wx => ∃ (k : Nat), k ≤ m.rs.length ∧ i = .int .i64 k ∧ Hid (∀ j r, j < k → m.rs[j]? = some r → heldB r = true) ∧ Hid (Below (w.alloc (.cells #[.string m.nm, .bool m.up, .int .i64 m.ck, .bool m.kn, .int .i64 m.se, .slice (some ⟨b1, 0, none⟩) m.ws.length m.ws.length, .slice (some ⟨b2, 0, none⟩) m.rs.length m.rs.length, .slice (some ⟨b3, 0, none⟩) m.qs.length m.qs.length, .slice (some ⟨b4, 0, none⟩) m.gs.length m.gs.length] 35)).heap.size (w.alloc (.cells #[.string m.nm, .bool m.up, .int .i64 m.ck, .bool m.kn, .int .i64 m.se, .slice (some ⟨b1, 0, none⟩) m.ws.length m.ws.length, .slice (some ⟨b2, 0, none⟩) m.rs.length m.rs.length, .slice (some ⟨b3, 0, none⟩) m.qs.length m.qs.length, .slice (some ⟨b4, 0, none⟩) m.gs.length m.gs.length] 35)) wx)) (fun i _ => m.rs.length - (intOf i).toNat)
          case atStart => exact ⟨0, Nat.zero_le _, rfl, fun j r hj _ => by omega, HB.out⟩
          case round =>
            clear HB Ha
            obtain ⟨k, hkk, rfl, Ha, HB⟩ := hrel
            have kb := box_keep HB.out
            have lb : w.heap.size < wr.heap.size := by have := HB.out.size; simp at this; omega
            by_cases hlt : k < m.rs.length
            · obtain ⟨r, hr⟩ : ∃ r, m.rs[k]? = some r := ⟨m.rs[k], List.getElem?_eq_getElem hlt⟩
              have Hr : Hid _ := hr
              have HLx : Hid _ := HL.out.keep HB.out
              have bz : b2 < wr.heap.size := HLx.out.l2
              obtain ⟨c0, c1, c2, c3, c4, c5, c6, c7, c8, c9, c10⟩ := HLx.out.r2.at hr
              simp only [Nat.zero_add] at c0 c1 c2 c3 c4 c5 c6 c7 c8 c9 c10
              clear hr
              have i0 : (0 : Int) ≤ (k : Int) := by omega
              have i1 : (k : Int) < (m.rs.length : Int) := by omega
              cases hal : aliveB r.a
              · cases he : r.h.toList.isEmpty
                · go_wp2_with (go_at_call 49; refine (specAlive_x r.c r.h r.v r.p r.s r.d r.g r.a r.b r.i r.u _).mono ?_; rintro e w' ⟨rfl, rfl⟩)
                  exact ⟨⟨k + 1, by omega, by go_num, each_step Ha.out Hr.out (by simp [heldB, hal, he]), (by repeat (first | exact HB.out | refine bl_alloc ?_ _))⟩, by simp [intOf]; omega⟩
                · go_wp2_with (go_at_call 49; refine (specAlive_x r.c r.h r.v r.p r.s r.d r.g r.a r.b r.i r.u _).mono ?_; rintro e w' ⟨rfl, rfl⟩)
                  go_ret
                  exact ⟨⟨false, rfl, saysV_no (fun h => held_at Hr.out (by simp [heldB, hal, he]) h hu)⟩, bl_trans Hb0.out (by repeat (first | exact HB.out | refine bl_alloc ?_ _))⟩
              · go_wp2_with (go_at_call 49; refine (specAlive_x r.c r.h r.v r.p r.s r.d r.g r.a r.b r.i r.u _).mono ?_; rintro e w' ⟨rfl, rfl⟩)
                exact ⟨⟨k + 1, by omega, by go_num, each_step Ha.out Hr.out (by simp [heldB, hal]), (by repeat (first | exact HB.out | refine bl_alloc ?_ _))⟩, by simp [intOf]; omega⟩
            · have ek : k = m.rs.length := by omega
              subst ek
              have G6 : Hid (∀ r ∈ m.rs, heldB r = true) := each_all Ha.out
              go_wp2
              go_ret
              exact ⟨⟨false, rfl, saysV_no (fun h => by have := (down_of h hu).1; rw [hk] at this; cases this)⟩, bl_trans Hb0.out HB.out⟩
        · go_wp2
          go_ret
          exact ⟨⟨true, rfl, ⟨fun _ => ⟨Hp.out, ⟨G1.out, Hk.out⟩, G2.out, ⟨G3.out, G4.out⟩, G5.out, Or.inl hu⟩, fun _ => rfl⟩⟩, bl_trans Hb0.out HB.out⟩
  · go_wp2_with fail
    refine (specRunsOk b2 0 _ m.rs m.ck _ HL1.out.r2 HL1.out.l2 hf.f2 hf.k2).mono ?_
    rintro e w2 ⟨⟨q2, rfl, h2⟩, c2⟩
    have H2 : Hid _ := h2
    have C2 : Hid _ := bl_trans C1.out c2
    have k2 := box_keep C2.out
    clear k1 h2 c2
    cases q2
    · go_wp2
      go_ret
      exact ⟨⟨false, rfl, saysV_no (fun h => by have := H2.out.2 h.2.2.1; cases this)⟩, bl_trans Hb0.out C2.out⟩
    have G2 : Hid (RunsSay m) := H2.out.1 rfl
    clear H2
    have HL2 : Hid _ := HL.out.keep C2.out
    go_wp2_with fail
    refine (A.specAsksOk b3 0 _ m.qs m.ck _ HL2.out.r3 HL2.out.l3 hf.f3 hf.k3).mono ?_
    rintro e w3 ⟨⟨q3, rfl, h3⟩, c3⟩
    have H3 : Hid _ := h3
    have C3 : Hid _ := bl_trans C2.out c3
    have k3 := box_keep C3.out
    clear k2 h3 c3
    cases q3
    · go_wp2
      go_ret
      exact ⟨⟨false, rfl, saysV_no (fun h => by have := H3.out.2 h.2.2.2.1.1; cases this)⟩, bl_trans Hb0.out C3.out⟩
    have G3 : Hid (AskSay m.ck m.qs) := H3.out.1 rfl
    clear H3
    have HL3 : Hid _ := HL.out.keep C3.out
    go_wp2_with fail
    refine (A.specAsksOk b4 0 _ m.gs m.ck _ HL3.out.r4 HL3.out.l4 hf.f4 hf.k4).mono ?_
    rintro e w4 ⟨⟨q4, rfl, h4⟩, c4⟩
    have H4 : Hid _ := h4
    have C4 : Hid _ := bl_trans C3.out c4
    have k4 := box_keep C4.out
    clear k3 h4 c4
    cases q4
    · go_wp2
      go_ret
      exact ⟨⟨false, rfl, saysV_no (fun h => by have := H4.out.2 h.2.2.2.1.2; cases this)⟩, bl_trans Hb0.out C4.out⟩
    have G4 : Hid (AskSay m.ck m.gs) := H4.out.1 rfl
    clear H4
    have HL4 : Hid _ := HL.out.keep C4.out
    have hk3 := hf.k3
    have hk4 := hf.k4
    go_wp2
    clear k4
    go_loopw [3] (fun i wx => ∃ (k : Nat), k ≤ m.qs.length ∧ i = .int .i64 k ∧ Hid (∀ j r, j < k → m.qs[j]? = some r → ¬ A.HasA m.gs r.h) ∧ Hid (Below (w.alloc (.cells #[.string m.nm, .bool m.up, .int .i64 m.ck, .bool m.kn, .int .i64 m.se, .slice (some ⟨b1, 0, none⟩) m.ws.length m.ws.length, .slice (some ⟨b2, 0, none⟩) m.rs.length m.rs.length, .slice (some ⟨b3, 0, none⟩) m.qs.length m.qs.length, .slice (some ⟨b4, 0, none⟩) m.gs.length m.gs.length] 35)).heap.size (w.alloc (.cells #[.string m.nm, .bool m.up, .int .i64 m.ck, .bool m.kn, .int .i64 m.se, .slice (some ⟨b1, 0, none⟩) m.ws.length m.ws.length, .slice (some ⟨b2, 0, none⟩) m.rs.length m.rs.length, .slice (some ⟨b3, 0, none⟩) m.qs.length m.qs.length, .slice (some ⟨b4, 0, none⟩) m.gs.length m.gs.length] 35)) wx)) (fun i _ => m.qs.length - (intOf i).toNat)
    case atStart => exact ⟨0, Nat.zero_le _, rfl, fun j r hj _ => by omega, C4.out⟩
    case round =>
      obtain ⟨k, hkk, rfl, Ha, HB⟩ := hrel
      have kb := box_keep HB.out
      by_cases hlt : k < m.qs.length
      · obtain ⟨r, hr⟩ : ∃ r, m.qs[k]? = some r := ⟨m.qs[k], List.getElem?_eq_getElem hlt⟩
        have Hr : Hid _ := hr
        have HLx : Hid _ := HL.out.keep HB.out
        obtain ⟨c0, -⟩ := HLx.out.r3.at hr
        simp only [Nat.zero_add] at c0
        clear hr
        have i0 : (0 : Int) ≤ (k : Int) := by omega
        have i1 : (k : Int) < (m.qs.length : Int) := by omega
        by_cases ha : 0 ≤ A.askAt m.gs r.h
        · go_wp2_with fail
          go_quiet (first | (go_at_call 22; refine Calls.quiet_of_same (A.specAsk_x b4 0 _ m.gs r.h _ (fun k r hk j v hj => HLx.out.r4 k r hk j v hj) HLx.out.l4 hf.k4)))
          go_wp2
          go_ret
          exact ⟨⟨false, rfl, saysV_no (fun h => h.2.2.2.2.1 r (List.mem_of_getElem? Hr.out) ((A.askAt_has _ _).1 ha))⟩, drewN_top (bl_trans Hb0.out HB.out)⟩
        · have ha' : A.askAt m.gs r.h < 0 := by omega
          go_wp2_with fail
          go_quiet (first | (go_at_call 22; refine Calls.quiet_of_same (A.specAsk_x b4 0 _ m.gs r.h _ (fun k r hk j v hj => HLx.out.r4 k r hk j v hj) HLx.out.l4 hf.k4)))
          go_wp2
          exact ⟨⟨k + 1, by omega, by go_num, none_step Ha.out Hr.out (fun h => by have := (A.askAt_has _ _).2 h; omega), drewN_top HB.out⟩, by simp [intOf]; omega⟩
      · have ek : k = m.qs.length := by omega
        subst ek
        have G5 : Hid (∀ r ∈ m.qs, ¬ A.HasA m.gs r.h) := none_all Ha.out
        cases hu : m.up
        · have hk2 := hf.k2
          go_wp2
          clear kb
          go_loopw [4] (fun i wx => ∃ (k : Nat), k ≤ m.rs.length ∧ i = .int .i64 k ∧ Hid (∀ j r, j < k → m.rs[j]? = some r → heldB r = true) ∧ Hid (Below (w.alloc (.cells #[.string m.nm, .bool m.up, .int .i64 m.ck, .bool m.kn, .int .i64 m.se, .slice (some ⟨b1, 0, none⟩) m.ws.length m.ws.length, .slice (some ⟨b2, 0, none⟩) m.rs.length m.rs.length, .slice (some ⟨b3, 0, none⟩) m.qs.length m.qs.length, .slice (some ⟨b4, 0, none⟩) m.gs.length m.gs.length] 35)).heap.size (w.alloc (.cells #[.string m.nm, .bool m.up, .int .i64 m.ck, .bool m.kn, .int .i64 m.se, .slice (some ⟨b1, 0, none⟩) m.ws.length m.ws.length, .slice (some ⟨b2, 0, none⟩) m.rs.length m.rs.length, .slice (some ⟨b3, 0, none⟩) m.qs.length m.qs.length, .slice (some ⟨b4, 0, none⟩) m.gs.length m.gs.length] 35)) wx)) (fun i _ => m.rs.length - (intOf i).toNat)
          case atStart => exact ⟨0, Nat.zero_le _, rfl, fun j r hj _ => by omega, HB.out⟩
          case round =>
            clear HB Ha
            obtain ⟨k, hkk, rfl, Ha, HB⟩ := hrel
            have kb := box_keep HB.out
            have lb : w.heap.size < wr.heap.size := by have := HB.out.size; simp at this; omega
            by_cases hlt : k < m.rs.length
            · obtain ⟨r, hr⟩ : ∃ r, m.rs[k]? = some r := ⟨m.rs[k], List.getElem?_eq_getElem hlt⟩
              have Hr : Hid _ := hr
              have HLx : Hid _ := HL.out.keep HB.out
              have bz : b2 < wr.heap.size := HLx.out.l2
              obtain ⟨c0, c1, c2, c3, c4, c5, c6, c7, c8, c9, c10⟩ := HLx.out.r2.at hr
              simp only [Nat.zero_add] at c0 c1 c2 c3 c4 c5 c6 c7 c8 c9 c10
              clear hr
              have i0 : (0 : Int) ≤ (k : Int) := by omega
              have i1 : (k : Int) < (m.rs.length : Int) := by omega
              cases hal : aliveB r.a
              · cases he : r.h.toList.isEmpty
                · go_wp2_with (go_at_call 49; refine (specAlive_x r.c r.h r.v r.p r.s r.d r.g r.a r.b r.i r.u _).mono ?_; rintro e w' ⟨rfl, rfl⟩)
                  exact ⟨⟨k + 1, by omega, by go_num, each_step Ha.out Hr.out (by simp [heldB, hal, he]), (by repeat (first | exact HB.out | refine bl_alloc ?_ _))⟩, by simp [intOf]; omega⟩
                · go_wp2_with (go_at_call 49; refine (specAlive_x r.c r.h r.v r.p r.s r.d r.g r.a r.b r.i r.u _).mono ?_; rintro e w' ⟨rfl, rfl⟩)
                  go_ret
                  exact ⟨⟨false, rfl, saysV_no (fun h => held_at Hr.out (by simp [heldB, hal, he]) h hu)⟩, bl_trans Hb0.out (by repeat (first | exact HB.out | refine bl_alloc ?_ _))⟩
              · go_wp2_with (go_at_call 49; refine (specAlive_x r.c r.h r.v r.p r.s r.d r.g r.a r.b r.i r.u _).mono ?_; rintro e w' ⟨rfl, rfl⟩)
                exact ⟨⟨k + 1, by omega, by go_num, each_step Ha.out Hr.out (by simp [heldB, hal]), (by repeat (first | exact HB.out | refine bl_alloc ?_ _))⟩, by simp [intOf]; omega⟩
            · have ek : k = m.rs.length := by omega
              subst ek
              have G6 : Hid (∀ r ∈ m.rs, heldB r = true) := each_all Ha.out
              cases hkn : m.kn
              · by_cases hse : m.se = 0
                · by_cases hln : m.qs.length + m.gs.length = 0
                  · have hl1 : m.qs.length = 0 := by omega
                    have hl2 : m.gs.length = 0 := by omega
                    have hs' : (m.se == 0) = true := by simp [hse]
                    have Hz : Hid (DownSay m) := ⟨hkn, hse, down_len Hk.out hkn hln, G6.out⟩
                    have HV : Hid (Valid m) := ⟨Hp.out, ⟨G1.out, Hk.out⟩, G2.out, ⟨G3.out, G4.out⟩, G5.out, Or.inr Hz.out⟩
                    clear hse hln
                    go_wp2
                    go_ret
                    exact ⟨⟨true, rfl, ⟨fun _ => HV.out, fun _ => rfl⟩⟩, bl_trans Hb0.out HB.out⟩
                  · have hl1 : ((m.qs.length : Int) + (m.gs.length : Int) == 0) = false := beq_false_of_ne (by omega)
                    have Hln : Hid _ := hln
                    clear hln
                    go_wp2
                    go_ret
                    exact ⟨⟨false, rfl, saysV_no (fun h => Hln.out (by have := (down_of h hu).2.2.1; omega))⟩, bl_trans Hb0.out HB.out⟩
                · have hs' : (m.se == 0) = false := by simp [hse]
                  have Hse : Hid _ := hse
                  clear hse
                  go_wp2
                  go_ret
                  exact ⟨⟨false, rfl, saysV_no (fun h => Hse.out (down_of h hu).2.1)⟩, bl_trans Hb0.out HB.out⟩
              · go_wp2
                go_ret
                exact ⟨⟨false, rfl, saysV_no (fun h => by have := (down_of h hu).1; rw [hkn] at this; cases this)⟩, bl_trans Hb0.out HB.out⟩
        · go_wp2
          go_ret
          exact ⟨⟨true, rfl, ⟨fun _ => ⟨Hp.out, ⟨G1.out, Hk.out⟩, G2.out, ⟨G3.out, G4.out⟩, G5.out, Or.inl hu⟩, fun _ => rfl⟩⟩, bl_trans Hb0.out HB.out⟩
end Go.Proofs.YtiogkdafmgdbgaaGreat
/- A list of asks in a map by their holds. -/
namespace Go.Proofs.YtiogkdafmgdbgaaGreat.A
open Go.RowKit Go.Maps Go.WideMaps
set_option linter.unusedVariables false

theorem lawS : Keyed Tryz.prog 9 := string_keyed Tryz.underlying9
/-- An element of the map: that it is there is all that is asked. -/
def RUL (xs : List Value) : Option (DataW Unit × List MemPlace) :=
  match xs with
  | [.string _, .string _, .int .i64 _, .int .i64 _] => some (.lit (.bool true), [])
  | _ => none
def RU (v : Value) : Option (DataW Unit × List MemPlace) :=
  match v with
  | .agg xs => RUL xs.toList
  | _ => none
theorem RU_inv {v : Value} {z : DataW Unit × List MemPlace} (h : RU v = some z) : ∃ (a b : ByteArray) (c d : Int), v = .agg #[.string a, .string b, .int .i64 c, .int .i64 d] := by
  unfold RU at h
  split at h
  · rename_i xs
    obtain ⟨l⟩ := xs
    simp only at h
    unfold RUL at h
    split at h
    · exact ⟨_, _, _, _, rfl⟩
    · cases h
  · cases h
def keyL (x : ByteArray) : Lit := .string x.data.toList
def mapD (rs : List AskD) : DataW Unit := setOf (.lit (.bool true)) (rs.map (fun r => keyL r.h))
theorem mapD_step {rs : List AskD} {k : Nat} {r : AskD} (hr : rs[k]? = some r) : mapD (rs.take (k + 1)) = (mapD (rs.take k)).put (keyL r.h) (.lit (.bool true)) := by
  have hlt : k < rs.length := (List.getElem?_eq_some_iff.1 hr).1
  have he : rs[k] = r := (List.getElem?_eq_some_iff.1 hr).2
  rw [mapD, List.take_succ_eq_append_getElem hlt, List.map_append, List.map_singleton, he, setOf_snoc]
  rfl
theorem same_key (x y : ByteArray) : (keyL x).sameKey (keyL y) = (x.toList == y.toList) := by
  rw [ByteArray.toList_eq, ByteArray.toList_eq]
  by_cases h : x.data.toList = y.data.toList
  · have hk : (Lit.string y.data.toList).sameKey (Lit.string y.data.toList) = true := WideAt.sameKey_self (by exact trivial)
    rw [keyL, keyL, h, hk]; simp
  · have h1 : (keyL x).sameKey (keyL y) = false := by
      cases hs : (keyL x).sameKey (keyL y)
      · rfl
      · have := WideAt.sameKey_eq hs
        simp only [keyL, Lit.string.injEq] at this
        exact absurd this h
    rw [h1]; exact (beq_false_of_ne h).symm
theorem has_mapD (rs : List AskD) (x : ByteArray) : has (mapD rs) (keyL x) = true ↔ HasA rs x := by
  rw [mapD, has_setOf _ _ _ (by intro y hy; obtain ⟨r, -, rfl⟩ := List.mem_map.1 hy; trivial), List.any_map, List.any_eq_true]
  constructor
  · rintro ⟨r, hr, h⟩
    refine ⟨r, hr, ?_⟩
    rw [← same_key]; exact h
  · rintro ⟨r, hr, h⟩
    exact ⟨r, hr, by rw [← same_key] at h; exact h⟩
theorem owns_map_below {x y : World} {b n : Nat} {D : DataW Unit} (h : x.ownsMap Tryz.prog 9 RU b n D) (hb : Below x.heap.size x y) : y.ownsMap Tryz.prog 9 RU b n D :=
  h.kept (row := none) ⟨hb.os, hb.tape, hb.output, hb.size, fun k hk _ => hb.block k hk⟩ (by simp)

theorem map_step {w : World} (b n : Nat) (D : DataW Unit) (hown : w.ownsMap Tryz.prog 9 RU b n D) (hn : n < maxLen) (s : ByteArray) (val : Value) (hs : s.size ≤ maxLen) (hv : RU val = some (.lit (.bool true), [])) :
    ∃ w', Sem.run Tryz.prog (Instr.mapUpdate 100 (.map (some b)) (.string s) val) w = .ok () w' ∧ w'.ownsMap Tryz.prog 9 RU b (n + 1) (D.put (keyL s) (.lit (.bool true))) ∧ w.grownBy w' (some b) :=
  hown.update lawS (t := 100) (e := 55) Tryz.underlying100 hn (keyOf_string_mk Tryz.underlying9 hs) (val := val) (d := .lit (.bool true)) (ps := []) hv

theorem boxA {wr w' : World} {r : AskD} (hb : Below (wr.alloc (.cells #[.string r.h, .string r.c, .int .i64 r.f, .int .i64 r.t] 55)).heap.size (wr.alloc (.cells #[.string r.h, .string r.c, .int .i64 r.f, .int .i64 r.t] 55)) w') : w'.cell? ⟨wr.heap.size, 0, none⟩ = some (.string r.h) ∧ w'.cell? ⟨wr.heap.size, 1, none⟩ = some (.string r.c) ∧ w'.cell? ⟨wr.heap.size, 2, none⟩ = some (.int .i64 r.f) ∧ w'.cell? ⟨wr.heap.size, 3, none⟩ = some (.int .i64 r.t) := by
  have hk := box_keep hb
  exact ⟨by rw [hk 0]; simp [go_sem], by rw [hk 1]; simp [go_sem], by rw [hk 2]; simp [go_sem], by rw [hk 3]; simp [go_sem]⟩
theorem boxA_grown {wr w' w2 : World} {r : AskD} {B : Nat} (h : w'.cell? ⟨wr.heap.size, 0, none⟩ = some (.string r.h) ∧ w'.cell? ⟨wr.heap.size, 1, none⟩ = some (.string r.c) ∧ w'.cell? ⟨wr.heap.size, 2, none⟩ = some (.int .i64 r.f) ∧ w'.cell? ⟨wr.heap.size, 3, none⟩ = some (.int .i64 r.t)) (hg : w'.grownBy w2 (some B)) (hne : wr.heap.size ≠ B) : w2.cell? ⟨wr.heap.size, 0, none⟩ = some (.string r.h) ∧ w2.cell? ⟨wr.heap.size, 1, none⟩ = some (.string r.c) ∧ w2.cell? ⟨wr.heap.size, 2, none⟩ = some (.int .i64 r.f) ∧ w2.cell? ⟨wr.heap.size, 3, none⟩ = some (.int .i64 r.t) :=
  ⟨hg.cell h.1 (by simpa using hne), hg.cell h.2.1 (by simpa using hne), hg.cell h.2.2.1 (by simpa using hne), hg.cell h.2.2.2 (by simpa using hne)⟩
theorem make_map (n : Nat) (w : World) : Sem.run Tryz.prog (Instr.makeMap 100 (some (.int .i64 (n : Int)))) w = .ok (.map (some w.heap.size)) (w.alloc (.map #[] 0)) := by
  kernel_rfl

set_option maxRecDepth 4000 in
set_option maxHeartbeats 2000000 in
theorem byName (b off cap : Nat) (rs : List AskD) (w : World) (hR : RowsAt w b off rs) (l1 : b < w.heap.size) (hfit : ∀ r ∈ rs, r.fits) (hl : rs.length ≤ 1048576) :
    Calls Tryz.prog 68 #[.slice (some ⟨b, off, none⟩) rs.length cap, .func (.func 69) #[] #[]] w fun e w' => e = .returned (.map (some w.heap.size)) ∧ w'.ownsMap Tryz.prog 9 RU w.heap.size rs.length (mapD rs) ∧ Below w.heap.size w w' := by
  have hmm := make_map rs.length
  go_enter Tryz.func68, Tryz.ntmps68
  go_wp2
  clear hmm
  go_loopw [13] (fun i wx => ∃ (k : Nat), k ≤ rs.length ∧ i = .int .i64 k ∧ Hid (wx.ownsMap Tryz.prog 9 RU w.heap.size k (mapD (rs.take k))) ∧ Below w.heap.size w wx) (fun i _ => rs.length - (intOf i).toNat)
  case atStart => exact ⟨0, Nat.zero_le _, rfl, World.ownsMap_made _ _ _ _, bl_alloc (Below.refl _ _) _⟩
  case round =>
    obtain ⟨k, hk, rfl, Ho, hB⟩ := hrel
    by_cases hlt : k < rs.length
    · obtain ⟨r, hr⟩ : ∃ r, rs[k]? = some r := ⟨rs[k], List.getElem?_eq_getElem hlt⟩
      have Hr : Hid _ := hr
      obtain ⟨hf1, hf2⟩ := hfit r (List.mem_of_getElem? hr)
      obtain ⟨c0, c1, c2, c3⟩ := (hR.keep l1 hB).at hr
      clear hr
      have hne : wr.heap.size ≠ w.heap.size := by have := Ho.out.lt; omega
      go_wp2_with fail
      go_region_held3 (fun w' => w'.cell? ⟨wr.heap.size, 0, none⟩ = some (.string r.h) ∧ w'.cell? ⟨wr.heap.size, 1, none⟩ = some (.string r.c) ∧ w'.cell? ⟨wr.heap.size, 2, none⟩ = some (.int .i64 r.f) ∧ w'.cell? ⟨wr.heap.size, 3, none⟩ = some (.int .i64 r.t))
        (first | exact boxA (bl_drew (Below.refl _ _)) | exact boxA (bl_trans (bl_drew (Below.refl _ _)) hx) | exact boxA_grown (boxA (bl_trans (bl_drew (Below.refl _ _)) hx)) hg2 hne)
        (first | (go_at_call 69; refine (name_any r _).mono ?_; rintro e w' ⟨rfl, hx⟩) | (have hms := map_step w.heap.size k _ (owns_map_below (owns_map_below Ho.out (bl_drew (bl_alloc (Below.refl _ _) _))) hx) (by unfold maxLen; omega) r.h (.agg #[.string r.h, .string r.c, .int .i64 r.f, .int .i64 r.t]) hf1 rfl; obtain ⟨w2, hrun, ho2, hg2⟩ := hms; go_simp))
      have y1 := bl_trans (bl_trans hB (bl_alloc (Below.refl _ wr) _)) (bl_trans (bl_drew (Below.refl _ _)) hx)
      have Y2 : Hid (Below w.heap.size w w2) := Below.grown y1 hg2 y1.size (fun j hj => by cases hj; exact Nat.le_refl _)
      have O2 : Hid (w2.ownsMap Tryz.prog 9 RU w.heap.size (k + 1) (mapD (rs.take (k + 1)))) := by
        show World.ownsMap _ _ _ _ _ _ _
        rw [mapD_step Hr.out]; exact ho2
      clear y1 hx hg2 ho2 hrun
      go_wp2
      exact ⟨⟨k + 1, by omega, by go_num, O2.out, Y2.out⟩, by simp [intOf]; omega⟩
    · go_wp2
      go_ret
      have e : k = rs.length := by omega
      subst e
      rw [List.take_of_length_le (Nat.le_refl _)] at Ho
      exact ⟨rfl, Ho.out, hB⟩

theorem zeroA (w : World) : (zeroValue 55).run Tryz.prog w = .ok (.agg #[.string ⟨#[]⟩, .string ⟨#[]⟩, .int .i64 0, .int .i64 0]) w := by kernel_rfl
theorem look_step {w : World} (b n : Nat) (D : DataW Unit) (hown : w.ownsMap Tryz.prog 9 RU b n D) (s : ByteArray) (hs : s.size ≤ maxLen) :
    ∃ (x y : ByteArray) (z t : Int), Sem.run Tryz.prog (Instr.lookup 100 (.map (some b)) (.string s) true) w = .ok (.tuple #[.agg #[.string x, .string y, .int .i64 z, .int .i64 t], .bool (has D (keyL s))]) w := by
  obtain ⟨v, ps, hrun, hv⟩ := hown.look_ok lawS (t := 100) (e := 55) Tryz.underlying100 (zeroA w) (zd := .lit (.bool true)) (zp := []) rfl (keyOf_string_mk Tryz.underlying9 hs)
  obtain ⟨x, y, z, t, rfl⟩ := RU_inv hv
  exact ⟨x, y, z, t, hrun⟩

set_option maxRecDepth 4000 in
set_option maxHeartbeats 1000000 in
theorem closGiven (r : AskD) (bk b n : Nat) (D : DataW Unit) (w : World) (hc : w.cell? ⟨bk, 0, none⟩ = some (.map (some b))) (lk : bk < w.heap.size) (hown : w.ownsMap Tryz.prog 9 RU b n D) (hf : r.fits) :
    Calls Tryz.prog 85 #[.agg #[.string r.h, .string r.c, .int .i64 r.f, .int .i64 r.t], .pointer (some ⟨bk, 0, none⟩)] w fun e w' => e = .returned (.bool (!has D (keyL r.h))) ∧ Below w.heap.size w w' := by
  obtain ⟨x, y, z, t, hrun⟩ := look_step b n D (hown.alloc (.cells #[.string r.h, .string r.c, .int .i64 r.f, .int .i64 r.t] 55)) r.h hf.1
  have Ho : Hid _ := hown
  clear hown
  go_enter Tryz.func85, Tryz.ntmps85
  go_wp2
  go_ret
  exact ⟨rfl, by repeat (first | exact Below.refl _ _ | refine bl_alloc ?_ _)⟩
end Go.Proofs.YtiogkdafmgdbgaaGreat.A
/- MateValid: the program's side. -/
namespace Go.Proofs.YtiogkdafmgdbgaaGreat
open Go.RowKit
set_option linter.unusedVariables false

theorem noboth_iff (qs gs : List A.AskD) : (∀ r ∈ gs, (!Maps.has (A.mapD qs) (A.keyL r.h)) = true) ↔ ∀ r ∈ qs, ¬ A.HasA gs r.h := by
  constructor
  · rintro h r hr ⟨g, hg, he⟩
    have h1 := h g hg
    have h2 : Maps.has (A.mapD qs) (A.keyL g.h) = true := (A.has_mapD qs g.h).2 ⟨r, hr, by rw [beq_iff_eq] at he ⊢; exact he.symm⟩
    rw [h2] at h1; cases h1
  · intro h g hg
    cases hh : Maps.has (A.mapD qs) (A.keyL g.h)
    · rfl
    · obtain ⟨r, hr, he⟩ := (A.has_mapD qs g.h).1 hh
      exact absurd ⟨g, hg, by rw [beq_iff_eq] at he ⊢; exact he.symm⟩ (h r hr)
theorem build_valid (w : World) : Sem.run Tryz.prog (Instr.buildSlice 90 6 #[(0, .func (.func 55) #[] #[]), (1, .func (.func 56) #[] #[]), (2, .func (.func 57) #[] #[]), (3, .func (.func 58) #[] #[]), (4, .func (.func 59) #[] #[]), (5, .func (.func 60) #[] #[])]) w = .ok (.slice (some ⟨w.heap.size, 0, none⟩) 6 6) (w.alloc (.cells #[.func (.func 55) #[] #[], .func (.func 56) #[] #[], .func (.func 57) #[] #[], .func (.func 58) #[] #[], .func (.func 59) #[] #[], .func (.func 60) #[] #[]] 49)) := by kernel_rfl
theorem three_boxes {w w' : World} {m : MateD} {b1 b2 b3 b4 : Nat} (hb : Below (((w.alloc (.cells #[.string m.nm, .bool m.up, .int .i64 m.ck, .bool m.kn, .int .i64 m.se, .slice (some ⟨b1, 0, none⟩) m.ws.length m.ws.length, .slice (some ⟨b2, 0, none⟩) m.rs.length m.rs.length, .slice (some ⟨b3, 0, none⟩) m.qs.length m.qs.length, .slice (some ⟨b4, 0, none⟩) m.gs.length m.gs.length] 35)).alloc (.cells #[.func (.func 55) #[] #[], .func (.func 56) #[] #[], .func (.func 57) #[] #[], .func (.func 58) #[] #[], .func (.func 59) #[] #[], .func (.func 60) #[] #[]] 49)).alloc (.cells #[.string m.nm, .bool m.up, .int .i64 m.ck, .bool m.kn, .int .i64 m.se, .slice (some ⟨b1, 0, none⟩) m.ws.length m.ws.length, .slice (some ⟨b2, 0, none⟩) m.rs.length m.rs.length, .slice (some ⟨b3, 0, none⟩) m.qs.length m.qs.length, .slice (some ⟨b4, 0, none⟩) m.gs.length m.gs.length] 35)).heap.size (((w.alloc (.cells #[.string m.nm, .bool m.up, .int .i64 m.ck, .bool m.kn, .int .i64 m.se, .slice (some ⟨b1, 0, none⟩) m.ws.length m.ws.length, .slice (some ⟨b2, 0, none⟩) m.rs.length m.rs.length, .slice (some ⟨b3, 0, none⟩) m.qs.length m.qs.length, .slice (some ⟨b4, 0, none⟩) m.gs.length m.gs.length] 35)).alloc (.cells #[.func (.func 55) #[] #[], .func (.func 56) #[] #[], .func (.func 57) #[] #[], .func (.func 58) #[] #[], .func (.func 59) #[] #[], .func (.func 60) #[] #[]] 49)).alloc (.cells #[.string m.nm, .bool m.up, .int .i64 m.ck, .bool m.kn, .int .i64 m.se, .slice (some ⟨b1, 0, none⟩) m.ws.length m.ws.length, .slice (some ⟨b2, 0, none⟩) m.rs.length m.rs.length, .slice (some ⟨b3, 0, none⟩) m.qs.length m.qs.length, .slice (some ⟨b4, 0, none⟩) m.gs.length m.gs.length] 35)) w') :
    (∀ k, w'.cell? ⟨w.heap.size + 1, k, none⟩ = (#[.func (.func 55) #[] #[], .func (.func 56) #[] #[], .func (.func 57) #[] #[], .func (.func 58) #[] #[], .func (.func 59) #[] #[], .func (.func 60) #[] #[]] : Array Value)[k]?) ∧ (∀ k, w'.cell? ⟨w.heap.size + 1 + 1, k, none⟩ = (#[.string m.nm, .bool m.up, .int .i64 m.ck, .bool m.kn, .int .i64 m.se, .slice (some ⟨b1, 0, none⟩) m.ws.length m.ws.length, .slice (some ⟨b2, 0, none⟩) m.rs.length m.rs.length, .slice (some ⟨b3, 0, none⟩) m.qs.length m.qs.length, .slice (some ⟨b4, 0, none⟩) m.gs.length m.gs.length] : Array Value)[k]?) := by
  constructor
  · intro k
    rw [hb.cell (p := ⟨w.heap.size + 1, k, none⟩) (by simp)]
    simp [go_sem, World.cell?_alloc_past]
  · intro k
    rw [hb.cell (p := ⟨w.heap.size + 1 + 1, k, none⟩) (by simp)]
    simp [go_sem]

set_option maxRecDepth 4000 in
set_option maxHeartbeats 2000000 in
theorem noAsk_any (m : MateD) (b1 b2 b3 b4 : Nat) (w : World) (hL : Lists w m b1 b2 b3 b4) (hf : m.fits) :
    Calls Tryz.prog 59 #[.agg #[.string m.nm, .bool m.up, .int .i64 m.ck, .bool m.kn, .int .i64 m.se, .slice (some ⟨b1, 0, none⟩) m.ws.length m.ws.length, .slice (some ⟨b2, 0, none⟩) m.rs.length m.rs.length, .slice (some ⟨b3, 0, none⟩) m.qs.length m.qs.length, .slice (some ⟨b4, 0, none⟩) m.gs.length m.gs.length]] w fun e w' => (∃ q : Bool, e = .returned (.bool q) ∧ (q = true ↔ ∀ r ∈ m.qs, ¬ A.HasA m.gs r.h)) ∧ Below w.heap.size w w' := by
  have Hb0 : Hid (Below w.heap.size w (w.alloc (.cells #[.string m.nm, .bool m.up, .int .i64 m.ck, .bool m.kn, .int .i64 m.se, .slice (some ⟨b1, 0, none⟩) m.ws.length m.ws.length, .slice (some ⟨b2, 0, none⟩) m.rs.length m.rs.length, .slice (some ⟨b3, 0, none⟩) m.qs.length m.qs.length, .slice (some ⟨b4, 0, none⟩) m.gs.length m.gs.length] 35))) := bl_alloc (Below.refl _ _) _
  have HL : Hid (Lists (w.alloc (.cells #[.string m.nm, .bool m.up, .int .i64 m.ck, .bool m.kn, .int .i64 m.se, .slice (some ⟨b1, 0, none⟩) m.ws.length m.ws.length, .slice (some ⟨b2, 0, none⟩) m.rs.length m.rs.length, .slice (some ⟨b3, 0, none⟩) m.qs.length m.qs.length, .slice (some ⟨b4, 0, none⟩) m.gs.length m.gs.length] 35)) m b1 b2 b3 b4) := hL.keep Hb0.out
  go_enter Tryz.func59, Tryz.ntmps59
  go_wp2_with fail
  refine (A.byName b3 0 _ m.qs _ HL.out.r3 HL.out.l3 hf.f3 hf.k3).mono ?_
  rintro e w1 ⟨rfl, o1, c1⟩
  have k1 := box_keep c1
  have lb : w.heap.size < w1.heap.size := boxlt c1
  have HL1 : Hid _ := HL.out.keep c1
  have C1 : Hid _ := bl_trans Hb0.out c1
  have O1 : Hid (w1.ownsMap Tryz.prog 9 A.RU (w.heap.size + 1) m.qs.length (A.mapD m.qs)) := by have := o1; simp only [World.size_alloc] at this; exact this
  clear o1 c1
  go_wp2_with fail
  have hb1 : Hid (Below w1.heap.size w1 (w1.alloc (.cells #[.map (some (w.heap.size + 1))] 100))) := bl_alloc (Below.refl _ _) _
  have hck : ∀ x, Below (w1.alloc (.cells #[.map (some (w.heap.size + 1))] 100)).heap.size (w1.alloc (.cells #[.map (some (w.heap.size + 1))] 100)) x → x.cell? ⟨w1.heap.size, 0, none⟩ = some (.map (some (w.heap.size + 1))) := fun x hx => by rw [box_keep hx 0]; simp [go_sem]
  have hlk : ∀ x, Below (w1.alloc (.cells #[.map (some (w.heap.size + 1))] 100)).heap.size (w1.alloc (.cells #[.map (some (w.heap.size + 1))] 100)) x → w1.heap.size < x.heap.size := fun x hx => by have := hx.size; simp at this; omega
  have all := A.allGiven w1.heap.size (fun r => !Maps.has (A.mapD m.qs) (A.keyL r.h)) b4 0 m.gs.length m.gs (w1.alloc (.cells #[.map (some (w.heap.size + 1))] 100)) (HL1.out.keep hb1.out).r4 (HL1.out.keep hb1.out).l4 hf.k4 (fun r hr x hx => A.closGiven r w1.heap.size _ _ _ x (hck x hx) (hlk x hx) (A.owns_map_below (World.ownsMap.alloc O1.out _) hx) (hf.f4 r hr))
  have ALL : Hid _ := all
  clear all hck hlk
  first
  | refine Calls.mono ALL.out ?_
  | (have a2 := ALL.out; simp only [World.size_alloc] at a2; refine Calls.mono a2 ?_)
  rintro e w2 ⟨⟨q2, rfl, h2⟩, c2⟩
  have H2 : Hid _ := h2
  have C2 : Hid _ := bl_trans (bl_trans C1.out hb1.out) c2
  clear h2 c2
  go_wp2
  go_ret
  exact ⟨⟨q2, rfl, H2.out.trans (noboth_iff m.qs m.gs)⟩, C2.out⟩

set_option maxRecDepth 4000 in
set_option maxHeartbeats 2000000 in
theorem implValid (m : MateD) (b1 b2 b3 b4 : Nat) (w : World) (hL : Lists w m b1 b2 b3 b4) (hf : m.fits) :
    Calls Tryz.prog 27 #[.agg #[.string m.nm, .bool m.up, .int .i64 m.ck, .bool m.kn, .int .i64 m.se, .slice (some ⟨b1, 0, none⟩) m.ws.length m.ws.length, .slice (some ⟨b2, 0, none⟩) m.rs.length m.rs.length, .slice (some ⟨b3, 0, none⟩) m.qs.length m.qs.length, .slice (some ⟨b4, 0, none⟩) m.gs.length m.gs.length]] w fun e w' => (∃ q : Bool, e = .returned (.bool q) ∧ SaysV q m) ∧ Below w.heap.size w w' := by
  have Hb0 : Hid (Below w.heap.size w (w.alloc (.cells #[.string m.nm, .bool m.up, .int .i64 m.ck, .bool m.kn, .int .i64 m.se, .slice (some ⟨b1, 0, none⟩) m.ws.length m.ws.length, .slice (some ⟨b2, 0, none⟩) m.rs.length m.rs.length, .slice (some ⟨b3, 0, none⟩) m.qs.length m.qs.length, .slice (some ⟨b4, 0, none⟩) m.gs.length m.gs.length] 35))) := bl_alloc (Below.refl _ _) _
  have HL : Hid (Lists (w.alloc (.cells #[.string m.nm, .bool m.up, .int .i64 m.ck, .bool m.kn, .int .i64 m.se, .slice (some ⟨b1, 0, none⟩) m.ws.length m.ws.length, .slice (some ⟨b2, 0, none⟩) m.rs.length m.rs.length, .slice (some ⟨b3, 0, none⟩) m.qs.length m.qs.length, .slice (some ⟨b4, 0, none⟩) m.gs.length m.gs.length] 35)) m b1 b2 b3 b4) := hL.keep Hb0.out
  have hbv := build_valid
  have hx0 : Below w.heap.size w (((w.alloc (.cells #[.string m.nm, .bool m.up, .int .i64 m.ck, .bool m.kn, .int .i64 m.se, .slice (some ⟨b1, 0, none⟩) m.ws.length m.ws.length, .slice (some ⟨b2, 0, none⟩) m.rs.length m.rs.length, .slice (some ⟨b3, 0, none⟩) m.qs.length m.qs.length, .slice (some ⟨b4, 0, none⟩) m.gs.length m.gs.length] 35)).alloc (.cells #[.func (.func 55) #[] #[], .func (.func 56) #[] #[], .func (.func 57) #[] #[], .func (.func 58) #[] #[], .func (.func 59) #[] #[], .func (.func 60) #[] #[]] 49)).alloc (.cells #[.string m.nm, .bool m.up, .int .i64 m.ck, .bool m.kn, .int .i64 m.se, .slice (some ⟨b1, 0, none⟩) m.ws.length m.ws.length, .slice (some ⟨b2, 0, none⟩) m.rs.length m.rs.length, .slice (some ⟨b3, 0, none⟩) m.qs.length m.qs.length, .slice (some ⟨b4, 0, none⟩) m.gs.length m.gs.length] 35)) := bl_alloc (bl_alloc (bl_alloc (Below.refl _ _) _) _) _
  have Hx0 : Hid _ := hx0
  have HL0 : Hid _ := hL.keep hx0
  clear hx0
  go_enter Tryz.func27, Tryz.ntmps27
  go_wp2_with go_in
  clear hbv
  refine wp_loop_rounds 7 ?_
  rw [rounds_succ]
  go_wp2_with fail
  refine (partsOk_any m b1 b2 b3 b4 _ HL0.out hf).mono ?_
  rintro e w1 ⟨⟨q1, rfl, h1⟩, c1⟩
  have H1 : Hid _ := h1
  have C1 : Hid (Below (((w.alloc (.cells #[.string m.nm, .bool m.up, .int .i64 m.ck, .bool m.kn, .int .i64 m.se, .slice (some ⟨b1, 0, none⟩) m.ws.length m.ws.length, .slice (some ⟨b2, 0, none⟩) m.rs.length m.rs.length, .slice (some ⟨b3, 0, none⟩) m.qs.length m.qs.length, .slice (some ⟨b4, 0, none⟩) m.gs.length m.gs.length] 35)).alloc (.cells #[.func (.func 55) #[] #[], .func (.func 56) #[] #[], .func (.func 57) #[] #[], .func (.func 58) #[] #[], .func (.func 59) #[] #[], .func (.func 60) #[] #[]] 49)).alloc (.cells #[.string m.nm, .bool m.up, .int .i64 m.ck, .bool m.kn, .int .i64 m.se, .slice (some ⟨b1, 0, none⟩) m.ws.length m.ws.length, .slice (some ⟨b2, 0, none⟩) m.rs.length m.rs.length, .slice (some ⟨b3, 0, none⟩) m.qs.length m.qs.length, .slice (some ⟨b4, 0, none⟩) m.gs.length m.gs.length] 35)).heap.size (((w.alloc (.cells #[.string m.nm, .bool m.up, .int .i64 m.ck, .bool m.kn, .int .i64 m.se, .slice (some ⟨b1, 0, none⟩) m.ws.length m.ws.length, .slice (some ⟨b2, 0, none⟩) m.rs.length m.rs.length, .slice (some ⟨b3, 0, none⟩) m.qs.length m.qs.length, .slice (some ⟨b4, 0, none⟩) m.gs.length m.gs.length] 35)).alloc (.cells #[.func (.func 55) #[] #[], .func (.func 56) #[] #[], .func (.func 57) #[] #[], .func (.func 58) #[] #[], .func (.func 59) #[] #[], .func (.func 60) #[] #[]] 49)).alloc (.cells #[.string m.nm, .bool m.up, .int .i64 m.ck, .bool m.kn, .int .i64 m.se, .slice (some ⟨b1, 0, none⟩) m.ws.length m.ws.length, .slice (some ⟨b2, 0, none⟩) m.rs.length m.rs.length, .slice (some ⟨b3, 0, none⟩) m.qs.length m.qs.length, .slice (some ⟨b4, 0, none⟩) m.gs.length m.gs.length] 35)) w1) := c1
  clear h1 c1
  obtain ⟨kf1, km1⟩ := three_boxes C1.out
  cases q1
  · go_wp2
    go_ret
    exact ⟨⟨false, rfl, saysV_no (fun h => by have := H1.out.2 h.1; cases this)⟩, bl_trans Hx0.out C1.out⟩
  have G1 : Hid (partsB m = true) := H1.out.1 rfl
  clear H1
  have HL1 : Hid _ := HL0.out.keep C1.out
  go_wp2_with fail
  rw [rounds_succ]
  go_wp2_with fail
  refine (wantsHeard_any m b1 b2 b3 b4 _ HL1.out hf).mono ?_
  rintro e w2 ⟨⟨q2, rfl, h2⟩, c2⟩
  have H2 : Hid _ := h2
  have C2 : Hid (Below (((w.alloc (.cells #[.string m.nm, .bool m.up, .int .i64 m.ck, .bool m.kn, .int .i64 m.se, .slice (some ⟨b1, 0, none⟩) m.ws.length m.ws.length, .slice (some ⟨b2, 0, none⟩) m.rs.length m.rs.length, .slice (some ⟨b3, 0, none⟩) m.qs.length m.qs.length, .slice (some ⟨b4, 0, none⟩) m.gs.length m.gs.length] 35)).alloc (.cells #[.func (.func 55) #[] #[], .func (.func 56) #[] #[], .func (.func 57) #[] #[], .func (.func 58) #[] #[], .func (.func 59) #[] #[], .func (.func 60) #[] #[]] 49)).alloc (.cells #[.string m.nm, .bool m.up, .int .i64 m.ck, .bool m.kn, .int .i64 m.se, .slice (some ⟨b1, 0, none⟩) m.ws.length m.ws.length, .slice (some ⟨b2, 0, none⟩) m.rs.length m.rs.length, .slice (some ⟨b3, 0, none⟩) m.qs.length m.qs.length, .slice (some ⟨b4, 0, none⟩) m.gs.length m.gs.length] 35)).heap.size (((w.alloc (.cells #[.string m.nm, .bool m.up, .int .i64 m.ck, .bool m.kn, .int .i64 m.se, .slice (some ⟨b1, 0, none⟩) m.ws.length m.ws.length, .slice (some ⟨b2, 0, none⟩) m.rs.length m.rs.length, .slice (some ⟨b3, 0, none⟩) m.qs.length m.qs.length, .slice (some ⟨b4, 0, none⟩) m.gs.length m.gs.length] 35)).alloc (.cells #[.func (.func 55) #[] #[], .func (.func 56) #[] #[], .func (.func 57) #[] #[], .func (.func 58) #[] #[], .func (.func 59) #[] #[], .func (.func 60) #[] #[]] 49)).alloc (.cells #[.string m.nm, .bool m.up, .int .i64 m.ck, .bool m.kn, .int .i64 m.se, .slice (some ⟨b1, 0, none⟩) m.ws.length m.ws.length, .slice (some ⟨b2, 0, none⟩) m.rs.length m.rs.length, .slice (some ⟨b3, 0, none⟩) m.qs.length m.qs.length, .slice (some ⟨b4, 0, none⟩) m.gs.length m.gs.length] 35)) w2) := bl_trans C1.out c2
  clear kf1 km1
  clear h2 c2
  obtain ⟨kf2, km2⟩ := three_boxes C2.out
  cases q2
  · go_wp2
    go_ret
    exact ⟨⟨false, rfl, saysV_no (fun h => by have := H2.out.2 h.2.1; cases this)⟩, bl_trans Hx0.out C2.out⟩
  have G2 : Hid (WantsSay m ∧ (m.kn = true ∨ m.ws.length = 0)) := H2.out.1 rfl
  clear H2
  have HL2 : Hid _ := HL0.out.keep C2.out
  go_wp2_with fail
  rw [rounds_succ]
  go_wp2_with fail
  refine (runsOkNow_any m b1 b2 b3 b4 _ HL2.out hf).mono ?_
  rintro e w3 ⟨⟨q3, rfl, h3⟩, c3⟩
  have H3 : Hid _ := h3
  have C3 : Hid (Below (((w.alloc (.cells #[.string m.nm, .bool m.up, .int .i64 m.ck, .bool m.kn, .int .i64 m.se, .slice (some ⟨b1, 0, none⟩) m.ws.length m.ws.length, .slice (some ⟨b2, 0, none⟩) m.rs.length m.rs.length, .slice (some ⟨b3, 0, none⟩) m.qs.length m.qs.length, .slice (some ⟨b4, 0, none⟩) m.gs.length m.gs.length] 35)).alloc (.cells #[.func (.func 55) #[] #[], .func (.func 56) #[] #[], .func (.func 57) #[] #[], .func (.func 58) #[] #[], .func (.func 59) #[] #[], .func (.func 60) #[] #[]] 49)).alloc (.cells #[.string m.nm, .bool m.up, .int .i64 m.ck, .bool m.kn, .int .i64 m.se, .slice (some ⟨b1, 0, none⟩) m.ws.length m.ws.length, .slice (some ⟨b2, 0, none⟩) m.rs.length m.rs.length, .slice (some ⟨b3, 0, none⟩) m.qs.length m.qs.length, .slice (some ⟨b4, 0, none⟩) m.gs.length m.gs.length] 35)).heap.size (((w.alloc (.cells #[.string m.nm, .bool m.up, .int .i64 m.ck, .bool m.kn, .int .i64 m.se, .slice (some ⟨b1, 0, none⟩) m.ws.length m.ws.length, .slice (some ⟨b2, 0, none⟩) m.rs.length m.rs.length, .slice (some ⟨b3, 0, none⟩) m.qs.length m.qs.length, .slice (some ⟨b4, 0, none⟩) m.gs.length m.gs.length] 35)).alloc (.cells #[.func (.func 55) #[] #[], .func (.func 56) #[] #[], .func (.func 57) #[] #[], .func (.func 58) #[] #[], .func (.func 59) #[] #[], .func (.func 60) #[] #[]] 49)).alloc (.cells #[.string m.nm, .bool m.up, .int .i64 m.ck, .bool m.kn, .int .i64 m.se, .slice (some ⟨b1, 0, none⟩) m.ws.length m.ws.length, .slice (some ⟨b2, 0, none⟩) m.rs.length m.rs.length, .slice (some ⟨b3, 0, none⟩) m.qs.length m.qs.length, .slice (some ⟨b4, 0, none⟩) m.gs.length m.gs.length] 35)) w3) := bl_trans C2.out c3
  clear kf2 km2
  clear h3 c3
  obtain ⟨kf3, km3⟩ := three_boxes C3.out
  cases q3
  · go_wp2
    go_ret
    exact ⟨⟨false, rfl, saysV_no (fun h => by have := H3.out.2 h.2.2.1; cases this)⟩, bl_trans Hx0.out C3.out⟩
  have G3 : Hid (RunsSay m) := H3.out.1 rfl
  clear H3
  have HL3 : Hid _ := HL0.out.keep C3.out
  go_wp2_with fail
  rw [rounds_succ]
  go_wp2_with fail
  refine (asksOk_any m b1 b2 b3 b4 _ HL3.out hf).mono ?_
  rintro e w4 ⟨⟨q4, rfl, h4⟩, c4⟩
  have H4 : Hid _ := h4
  have C4 : Hid (Below (((w.alloc (.cells #[.string m.nm, .bool m.up, .int .i64 m.ck, .bool m.kn, .int .i64 m.se, .slice (some ⟨b1, 0, none⟩) m.ws.length m.ws.length, .slice (some ⟨b2, 0, none⟩) m.rs.length m.rs.length, .slice (some ⟨b3, 0, none⟩) m.qs.length m.qs.length, .slice (some ⟨b4, 0, none⟩) m.gs.length m.gs.length] 35)).alloc (.cells #[.func (.func 55) #[] #[], .func (.func 56) #[] #[], .func (.func 57) #[] #[], .func (.func 58) #[] #[], .func (.func 59) #[] #[], .func (.func 60) #[] #[]] 49)).alloc (.cells #[.string m.nm, .bool m.up, .int .i64 m.ck, .bool m.kn, .int .i64 m.se, .slice (some ⟨b1, 0, none⟩) m.ws.length m.ws.length, .slice (some ⟨b2, 0, none⟩) m.rs.length m.rs.length, .slice (some ⟨b3, 0, none⟩) m.qs.length m.qs.length, .slice (some ⟨b4, 0, none⟩) m.gs.length m.gs.length] 35)).heap.size (((w.alloc (.cells #[.string m.nm, .bool m.up, .int .i64 m.ck, .bool m.kn, .int .i64 m.se, .slice (some ⟨b1, 0, none⟩) m.ws.length m.ws.length, .slice (some ⟨b2, 0, none⟩) m.rs.length m.rs.length, .slice (some ⟨b3, 0, none⟩) m.qs.length m.qs.length, .slice (some ⟨b4, 0, none⟩) m.gs.length m.gs.length] 35)).alloc (.cells #[.func (.func 55) #[] #[], .func (.func 56) #[] #[], .func (.func 57) #[] #[], .func (.func 58) #[] #[], .func (.func 59) #[] #[], .func (.func 60) #[] #[]] 49)).alloc (.cells #[.string m.nm, .bool m.up, .int .i64 m.ck, .bool m.kn, .int .i64 m.se, .slice (some ⟨b1, 0, none⟩) m.ws.length m.ws.length, .slice (some ⟨b2, 0, none⟩) m.rs.length m.rs.length, .slice (some ⟨b3, 0, none⟩) m.qs.length m.qs.length, .slice (some ⟨b4, 0, none⟩) m.gs.length m.gs.length] 35)) w4) := bl_trans C3.out c4
  clear kf3 km3
  clear h4 c4
  obtain ⟨kf4, km4⟩ := three_boxes C4.out
  cases q4
  · go_wp2
    go_ret
    exact ⟨⟨false, rfl, saysV_no (fun h => by have := H4.out.2 h.2.2.2.1; cases this)⟩, bl_trans Hx0.out C4.out⟩
  have G4 : Hid (AskSay m.ck m.qs ∧ AskSay m.ck m.gs) := H4.out.1 rfl
  clear H4
  have HL4 : Hid _ := HL0.out.keep C4.out
  go_wp2_with fail
  rw [rounds_succ]
  go_wp2_with fail
  refine (noAsk_any m b1 b2 b3 b4 _ HL4.out hf).mono ?_
  rintro e w5 ⟨⟨q5, rfl, h5⟩, c5⟩
  have H5 : Hid _ := h5
  have C5 : Hid (Below (((w.alloc (.cells #[.string m.nm, .bool m.up, .int .i64 m.ck, .bool m.kn, .int .i64 m.se, .slice (some ⟨b1, 0, none⟩) m.ws.length m.ws.length, .slice (some ⟨b2, 0, none⟩) m.rs.length m.rs.length, .slice (some ⟨b3, 0, none⟩) m.qs.length m.qs.length, .slice (some ⟨b4, 0, none⟩) m.gs.length m.gs.length] 35)).alloc (.cells #[.func (.func 55) #[] #[], .func (.func 56) #[] #[], .func (.func 57) #[] #[], .func (.func 58) #[] #[], .func (.func 59) #[] #[], .func (.func 60) #[] #[]] 49)).alloc (.cells #[.string m.nm, .bool m.up, .int .i64 m.ck, .bool m.kn, .int .i64 m.se, .slice (some ⟨b1, 0, none⟩) m.ws.length m.ws.length, .slice (some ⟨b2, 0, none⟩) m.rs.length m.rs.length, .slice (some ⟨b3, 0, none⟩) m.qs.length m.qs.length, .slice (some ⟨b4, 0, none⟩) m.gs.length m.gs.length] 35)).heap.size (((w.alloc (.cells #[.string m.nm, .bool m.up, .int .i64 m.ck, .bool m.kn, .int .i64 m.se, .slice (some ⟨b1, 0, none⟩) m.ws.length m.ws.length, .slice (some ⟨b2, 0, none⟩) m.rs.length m.rs.length, .slice (some ⟨b3, 0, none⟩) m.qs.length m.qs.length, .slice (some ⟨b4, 0, none⟩) m.gs.length m.gs.length] 35)).alloc (.cells #[.func (.func 55) #[] #[], .func (.func 56) #[] #[], .func (.func 57) #[] #[], .func (.func 58) #[] #[], .func (.func 59) #[] #[], .func (.func 60) #[] #[]] 49)).alloc (.cells #[.string m.nm, .bool m.up, .int .i64 m.ck, .bool m.kn, .int .i64 m.se, .slice (some ⟨b1, 0, none⟩) m.ws.length m.ws.length, .slice (some ⟨b2, 0, none⟩) m.rs.length m.rs.length, .slice (some ⟨b3, 0, none⟩) m.qs.length m.qs.length, .slice (some ⟨b4, 0, none⟩) m.gs.length m.gs.length] 35)) w5) := bl_trans C4.out c5
  clear kf4 km4
  clear h5 c5
  obtain ⟨kf5, km5⟩ := three_boxes C5.out
  cases q5
  · go_wp2
    go_ret
    exact ⟨⟨false, rfl, saysV_no (fun h => by have := H5.out.2 h.2.2.2.2.1; cases this)⟩, bl_trans Hx0.out C5.out⟩
  have G5 : Hid (∀ r ∈ m.qs, ¬ A.HasA m.gs r.h) := H5.out.1 rfl
  clear H5
  have HL5 : Hid _ := HL0.out.keep C5.out
  go_wp2_with fail
  rw [rounds_succ]
  go_wp2_with fail
  refine (downOk_any m b1 b2 b3 b4 _ HL5.out hf).mono ?_
  rintro e w6 ⟨⟨q6, rfl, h6⟩, c6⟩
  have H6 : Hid _ := h6
  have C6 : Hid (Below (((w.alloc (.cells #[.string m.nm, .bool m.up, .int .i64 m.ck, .bool m.kn, .int .i64 m.se, .slice (some ⟨b1, 0, none⟩) m.ws.length m.ws.length, .slice (some ⟨b2, 0, none⟩) m.rs.length m.rs.length, .slice (some ⟨b3, 0, none⟩) m.qs.length m.qs.length, .slice (some ⟨b4, 0, none⟩) m.gs.length m.gs.length] 35)).alloc (.cells #[.func (.func 55) #[] #[], .func (.func 56) #[] #[], .func (.func 57) #[] #[], .func (.func 58) #[] #[], .func (.func 59) #[] #[], .func (.func 60) #[] #[]] 49)).alloc (.cells #[.string m.nm, .bool m.up, .int .i64 m.ck, .bool m.kn, .int .i64 m.se, .slice (some ⟨b1, 0, none⟩) m.ws.length m.ws.length, .slice (some ⟨b2, 0, none⟩) m.rs.length m.rs.length, .slice (some ⟨b3, 0, none⟩) m.qs.length m.qs.length, .slice (some ⟨b4, 0, none⟩) m.gs.length m.gs.length] 35)).heap.size (((w.alloc (.cells #[.string m.nm, .bool m.up, .int .i64 m.ck, .bool m.kn, .int .i64 m.se, .slice (some ⟨b1, 0, none⟩) m.ws.length m.ws.length, .slice (some ⟨b2, 0, none⟩) m.rs.length m.rs.length, .slice (some ⟨b3, 0, none⟩) m.qs.length m.qs.length, .slice (some ⟨b4, 0, none⟩) m.gs.length m.gs.length] 35)).alloc (.cells #[.func (.func 55) #[] #[], .func (.func 56) #[] #[], .func (.func 57) #[] #[], .func (.func 58) #[] #[], .func (.func 59) #[] #[], .func (.func 60) #[] #[]] 49)).alloc (.cells #[.string m.nm, .bool m.up, .int .i64 m.ck, .bool m.kn, .int .i64 m.se, .slice (some ⟨b1, 0, none⟩) m.ws.length m.ws.length, .slice (some ⟨b2, 0, none⟩) m.rs.length m.rs.length, .slice (some ⟨b3, 0, none⟩) m.qs.length m.qs.length, .slice (some ⟨b4, 0, none⟩) m.gs.length m.gs.length] 35)) w6) := bl_trans C5.out c6
  clear kf5 km5
  clear h6 c6
  obtain ⟨kf6, km6⟩ := three_boxes C6.out
  cases q6
  · go_wp2
    go_ret
    exact ⟨⟨false, rfl, saysV_no (fun h => by have := H6.out.2 h.2.2.2.2.2; cases this)⟩, bl_trans Hx0.out C6.out⟩
  have G6 : Hid (m.up = true ∨ DownSay m) := H6.out.1 rfl
  clear H6
  have HL6 : Hid _ := HL0.out.keep C6.out
  go_wp2_with fail
  rw [rounds_succ]
  go_wp2
  go_ret
  exact ⟨⟨true, rfl, ⟨fun _ => ⟨G1.out, G2.out, G3.out, G4.out, G5.out, G6.out⟩, fun _ => rfl⟩⟩, bl_trans Hx0.out C6.out⟩
end Go.Proofs.YtiogkdafmgdbgaaGreat
