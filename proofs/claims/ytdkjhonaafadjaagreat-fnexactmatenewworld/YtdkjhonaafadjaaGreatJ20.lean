import Derived.Test.YtdkjhonaafadjaaGreatJ16
import Derived.Test.YtdkjhonaafadjaaGreatJ19
import Derived.Laws.AppendOwn
import Derived.Test.YtdkjhonaafadjaaGreatJ08
import Derived.Test.YtdkjhonaafadjaaGreatJ09
import Derived.Test.YtdkjhonaafadjaaGreatJ10
import Derived.Deep.RegionHeld3
import Derived.Laws.Pointers
import Derived.StillTactics
/- MateValid: the specification's side, where lists may be nil. -/
namespace Go.Proofs.YtdkjhonaafadjaaGreat
open Go.RowKit
set_option linter.unusedVariables false

set_option maxRecDepth 4000 in
set_option maxHeartbeats 8000000 in
theorem specValidX (m : MateD) (a1 a2 a3 a4 : Option Addr) (n1 n2 n3 n4 : Nat) (w : World) (hL : ListsX w m a1 a2 a3 a4) (hf : m.fits) :
    Calls Tryz.prog 36 #[.agg #[.string m.nm, .bool m.up, .int .i64 m.ck, .bool m.kn, .int .i64 m.se, .slice a1 m.ws.length n1, .slice a2 m.rs.length n2, .slice a3 m.qs.length n3, .slice a4 m.gs.length n4]] w fun e w' => (∃ q : Bool, e = .returned (.bool q) ∧ SaysV q m) ∧ Below w.heap.size w w' := by
  have hb0 : Below w.heap.size w (w.alloc (.cells #[.string m.nm, .bool m.up, .int .i64 m.ck, .bool m.kn, .int .i64 m.se, .slice a1 m.ws.length n1, .slice a2 m.rs.length n2, .slice a3 m.qs.length n3, .slice a4 m.gs.length n4] 52)) := bl_alloc (Below.refl _ _) _
  have L0 := hL.keep hb0
  cases qn : nameB m.nm
  · go_enter Tryz.func36, Tryz.ntmps36
    go_wp2_with (first | (go_at_call 71; refine (specName_any m.nm _ hf.n).mono ?_; rintro e w' ⟨rfl, rfl⟩) | (go_at_call 35; refine (specIn_any _ _ _ _).mono ?_; rintro e w' ⟨rfl, rfl⟩))
    go_ret
    exact ⟨⟨false, rfl, saysV_no (fun h => by have := h.1; simp [partsB, qn] at this)⟩, hb0⟩
  cases qc : inB m.ck 0 1000000
  · go_enter Tryz.func36, Tryz.ntmps36
    go_wp2_with (first | (go_at_call 71; refine (specName_any m.nm _ hf.n).mono ?_; rintro e w' ⟨rfl, rfl⟩) | (go_at_call 35; refine (specIn_any _ _ _ _).mono ?_; rintro e w' ⟨rfl, rfl⟩))
    go_ret
    exact ⟨⟨false, rfl, saysV_no (fun h => by have := h.1; simp [partsB, qc] at this)⟩, hb0⟩
  cases qs : inB m.se 0 1000000
  · go_enter Tryz.func36, Tryz.ntmps36
    go_wp2_with (first | (go_at_call 71; refine (specName_any m.nm _ hf.n).mono ?_; rintro e w' ⟨rfl, rfl⟩) | (go_at_call 35; refine (specIn_any _ _ _ _).mono ?_; rintro e w' ⟨rfl, rfl⟩))
    go_ret
    exact ⟨⟨false, rfl, saysV_no (fun h => by have := h.1; simp [partsB, qs] at this)⟩, hb0⟩
  have Hp : Hid (partsB m = true) := by show partsB m = true; simp [partsB, qn, qc, qs]
  have HL : Hid _ := L0
  have Hb0 : Hid _ := hb0
  clear L0 hb0
  go_enter Tryz.func36, Tryz.ntmps36
  go_wp2_with (first | (go_at_call 71; refine (specName_any m.nm _ hf.n).mono ?_; rintro e w' ⟨rfl, rfl⟩) | (go_at_call 35; refine (specIn_any _ _ _ _).mono ?_; rintro e w' ⟨rfl, rfl⟩))
  refine (W.specWantsOk_gv a1 _ m.ws _ HL.out.r1 hf.f1 hf.k1).mono ?_
  rintro e w1 ⟨⟨q1, rfl, h1⟩, c1⟩
  have H1 : Hid _ := h1
  clear h1
  have k1 := box_keep c1
  cases q1
  · have C1 : Hid _ := bl_trans Hb0.out c1
    clear c1
    go_wp2
    go_ret
    exact ⟨⟨false, rfl, saysV_no (fun h => by have := H1.out.2 h.2.1.1; cases this)⟩, C1.out⟩
  have G1 : Hid (WantsSay m) := H1.out.1 rfl
  clear H1
  have L1 := HL.out.keep c1
  have HL1 : Hid _ := L1
  have C1 : Hid _ := c1
  clear c1 L1
  by_cases hkn : m.kn = false ∧ 0 < m.ws.length
  · obtain ⟨g1, g2⟩ := hkn
    have g3 : (0 : Int) < (m.ws.length : Int) := by omega
    go_wp2
    go_ret
    exact ⟨⟨false, rfl, saysV_no (fun h => kn_no g1 g2 h.2.1.2)⟩, bl_trans Hb0.out C1.out⟩
  have Hk : Hid (m.kn = true ∨ m.ws.length = 0) := kn_yes hkn
  clear hkn
  rcases kn_part Hk.out with ⟨hk, hw0⟩ | hk
  · go_wp2_with fail
    refine (specRunsOk_gv a2 _ m.rs m.ck _ HL1.out.r2 hf.f2 hf.k2).mono ?_
    rintro e w2 ⟨⟨q2, rfl, h2⟩, c2⟩
    have H2 : Hid _ := h2
    have C2 : Hid _ := bl_trans C1.out c2
    have k2 := box_keep C2.out
    clear k1 h2 c2
    cases q2
    · go_wp2
      go_ret
      exact ⟨⟨false, rfl, saysV_no (fun h => by have := H2.out.2 h.2.2.1; cases this)⟩, bl_trans Hb0.out C2.out⟩
    have G2 : Hid (RunsSay m) := H2.out.1 rfl
    clear H2
    have HL2 : Hid _ := HL.out.keep C2.out
    go_wp2_with fail
    refine (A.specAsksOk_gv a3 _ m.qs m.ck _ HL2.out.r3 hf.f3 hf.k3).mono ?_
    rintro e w3 ⟨⟨q3, rfl, h3⟩, c3⟩
    have H3 : Hid _ := h3
    have C3 : Hid _ := bl_trans C2.out c3
    have k3 := box_keep C3.out
    clear k2 h3 c3
    cases q3
    · go_wp2
      go_ret
      exact ⟨⟨false, rfl, saysV_no (fun h => by have := H3.out.2 h.2.2.2.1.1; cases this)⟩, bl_trans Hb0.out C3.out⟩
    have G3 : Hid (AskSay m.ck m.qs) := H3.out.1 rfl
    clear H3
    have HL3 : Hid _ := HL.out.keep C3.out
    go_wp2_with fail
    refine (A.specAsksOk_gv a4 _ m.gs m.ck _ HL3.out.r4 hf.f4 hf.k4).mono ?_
    rintro e w4 ⟨⟨q4, rfl, h4⟩, c4⟩
    have H4 : Hid _ := h4
    have C4 : Hid _ := bl_trans C3.out c4
    have k4 := box_keep C4.out
    clear k3 h4 c4
    cases q4
    · go_wp2
      go_ret
      exact ⟨⟨false, rfl, saysV_no (fun h => by have := H4.out.2 h.2.2.2.1.2; cases this)⟩, bl_trans Hb0.out C4.out⟩
    have G4 : Hid (AskSay m.ck m.gs) := H4.out.1 rfl
    clear H4
    have HL4 : Hid _ := HL.out.keep C4.out
    have hk3 := hf.k3
    have hk4 := hf.k4
    go_wp2
    clear k4
    go_loopw [3] (fun i wx => ∃ (k : Nat), k ≤ m.qs.length ∧ i = .int .i64 k ∧ Hid (∀ j r, j < k → m.qs[j]? = some r → ¬ A.HasA m.gs r.h) ∧ Hid (Below (w.alloc (.cells #[.string m.nm, .bool m.up, .int .i64 m.ck, .bool m.kn, .int .i64 m.se, .slice a1 m.ws.length n1, .slice a2 m.rs.length n2, .slice a3 m.qs.length n3, .slice a4 m.gs.length n4] 52)).heap.size (w.alloc (.cells #[.string m.nm, .bool m.up, .int .i64 m.ck, .bool m.kn, .int .i64 m.se, .slice a1 m.ws.length n1, .slice a2 m.rs.length n2, .slice a3 m.qs.length n3, .slice a4 m.gs.length n4] 52)) wx)) (fun i _ => m.qs.length - (intOf i).toNat)
    case atStart => exact ⟨0, Nat.zero_le _, rfl, fun j r hj _ => by omega, C4.out⟩
    case round =>
      obtain ⟨k, hkk, rfl, Ha, HB⟩ := hrel
      have kb := box_keep HB.out
      by_cases hlt : k < m.qs.length
      · obtain ⟨r, hr⟩ : ∃ r, m.qs[k]? = some r := ⟨m.qs[k], List.getElem?_eq_getElem hlt⟩
        have Hr : Hid _ := hr
        have HLx : Hid _ := HL.out.keep HB.out
        obtain ⟨b3, hb3, z3, hR3⟩ := HLx.out.r3.resolve_left (fun h => by rw [h] at hlt; simp at hlt)
        subst hb3
        obtain ⟨c0, -⟩ := hR3.at hr
        simp only [Nat.zero_add] at c0
        clear hr
        have i0 : (0 : Int) ≤ (k : Int) := by omega
        have i1 : (k : Int) < (m.qs.length : Int) := by omega
        by_cases ha : 0 ≤ A.askAt m.gs r.h
        · go_wp2_with fail
          go_quiet (first | (go_at_call 76; refine Calls.quiet_of_same (A.specAsk_gv a4 _ m.gs r.h _ HLx.out.r4 hf.k4)))
          go_wp2
          go_ret
          exact ⟨⟨false, rfl, saysV_no (fun h => h.2.2.2.2.1 r (List.mem_of_getElem? Hr.out) ((A.askAt_has _ _).1 ha))⟩, drewN_top (bl_trans Hb0.out HB.out)⟩
        · have ha' : A.askAt m.gs r.h < 0 := by omega
          go_wp2_with fail
          go_quiet (first | (go_at_call 76; refine Calls.quiet_of_same (A.specAsk_gv a4 _ m.gs r.h _ HLx.out.r4 hf.k4)))
          go_wp2
          exact ⟨⟨k + 1, by omega, by go_num, none_step Ha.out Hr.out (fun h => by have := (A.askAt_has _ _).2 h; omega), drewN_top HB.out⟩, by simp [intOf]; omega⟩
      · have ek : k = m.qs.length := by omega
        subst ek
        have G5 : Hid (∀ r ∈ m.qs, ¬ A.HasA m.gs r.h) := none_all Ha.out
        cases hu : m.up
        · have hk2 := hf.k2
          go_wp2
          clear kb
          go_loopw [4] (fun i wx => ∃ (k : Nat), k ≤ m.rs.length ∧ i = .int .i64 k ∧ Hid (∀ j r, j < k → m.rs[j]? = some r → heldB r = true) ∧ Hid (Below (w.alloc (.cells #[.string m.nm, .bool m.up, .int .i64 m.ck, .bool m.kn, .int .i64 m.se, .slice a1 m.ws.length n1, .slice a2 m.rs.length n2, .slice a3 m.qs.length n3, .slice a4 m.gs.length n4] 52)).heap.size (w.alloc (.cells #[.string m.nm, .bool m.up, .int .i64 m.ck, .bool m.kn, .int .i64 m.se, .slice a1 m.ws.length n1, .slice a2 m.rs.length n2, .slice a3 m.qs.length n3, .slice a4 m.gs.length n4] 52)) wx)) (fun i _ => m.rs.length - (intOf i).toNat)
          case atStart => exact ⟨0, Nat.zero_le _, rfl, fun j r hj _ => by omega, HB.out⟩
          case round =>
            clear HB Ha
            obtain ⟨k, hkk, rfl, Ha, HB⟩ := hrel
            have kb := box_keep HB.out
            have lb : w.heap.size < wr.heap.size := by have := HB.out.size; simp at this; omega
            by_cases hlt : k < m.rs.length
            · obtain ⟨r, hr⟩ : ∃ r, m.rs[k]? = some r := ⟨m.rs[k], List.getElem?_eq_getElem hlt⟩
              have Hr : Hid _ := hr
              have HLx : Hid _ := HL.out.keep HB.out
              obtain ⟨b2, hb2, bz, hR2⟩ := HLx.out.r2.resolve_left (fun h => by rw [h] at hlt; simp at hlt)
              subst hb2
              obtain ⟨c0, c1, c2, c3, c4, c5, c6, c7, c8, c9, c10⟩ := hR2.at hr
              simp only [Nat.zero_add] at c0 c1 c2 c3 c4 c5 c6 c7 c8 c9 c10
              clear hr
              have i0 : (0 : Int) ≤ (k : Int) := by omega
              have i1 : (k : Int) < (m.rs.length : Int) := by omega
              cases hal : aliveB r.a
              · cases he : r.h.toList.isEmpty
                · go_wp2_with (go_at_call 43; refine (specAlive_x r.c r.h r.v r.p r.s r.d r.g r.a r.b r.i r.u _).mono ?_; rintro e w' ⟨rfl, rfl⟩)
                  exact ⟨⟨k + 1, by omega, by go_num, each_step Ha.out Hr.out (by simp [heldB, hal, he]), (by repeat (first | exact HB.out | refine bl_alloc ?_ _))⟩, by simp [intOf]; omega⟩
                · go_wp2_with (go_at_call 43; refine (specAlive_x r.c r.h r.v r.p r.s r.d r.g r.a r.b r.i r.u _).mono ?_; rintro e w' ⟨rfl, rfl⟩)
                  go_ret
                  exact ⟨⟨false, rfl, saysV_no (fun h => held_at Hr.out (by simp [heldB, hal, he]) h hu)⟩, bl_trans Hb0.out (by repeat (first | exact HB.out | refine bl_alloc ?_ _))⟩
              · go_wp2_with (go_at_call 43; refine (specAlive_x r.c r.h r.v r.p r.s r.d r.g r.a r.b r.i r.u _).mono ?_; rintro e w' ⟨rfl, rfl⟩)
                exact ⟨⟨k + 1, by omega, by go_num, each_step Ha.out Hr.out (by simp [heldB, hal]), (by repeat (first | exact HB.out | refine bl_alloc ?_ _))⟩, by simp [intOf]; omega⟩
            · have ek : k = m.rs.length := by omega
              subst ek
              have G6 : Hid (∀ r ∈ m.rs, heldB r = true) := each_all Ha.out
              go_wp2
              go_ret
              exact ⟨⟨false, rfl, saysV_no (fun h => by have := (down_of h hu).1; rw [hk] at this; cases this)⟩, bl_trans Hb0.out HB.out⟩
        · go_wp2
          go_ret
          exact ⟨⟨true, rfl, ⟨fun _ => ⟨Hp.out, ⟨G1.out, Hk.out⟩, G2.out, ⟨G3.out, G4.out⟩, G5.out, Or.inl hu⟩, fun _ => rfl⟩⟩, bl_trans Hb0.out HB.out⟩
  · go_wp2_with fail
    refine (specRunsOk_gv a2 _ m.rs m.ck _ HL1.out.r2 hf.f2 hf.k2).mono ?_
    rintro e w2 ⟨⟨q2, rfl, h2⟩, c2⟩
    have H2 : Hid _ := h2
    have C2 : Hid _ := bl_trans C1.out c2
    have k2 := box_keep C2.out
    clear k1 h2 c2
    cases q2
    · go_wp2
      go_ret
      exact ⟨⟨false, rfl, saysV_no (fun h => by have := H2.out.2 h.2.2.1; cases this)⟩, bl_trans Hb0.out C2.out⟩
    have G2 : Hid (RunsSay m) := H2.out.1 rfl
    clear H2
    have HL2 : Hid _ := HL.out.keep C2.out
    go_wp2_with fail
    refine (A.specAsksOk_gv a3 _ m.qs m.ck _ HL2.out.r3 hf.f3 hf.k3).mono ?_
    rintro e w3 ⟨⟨q3, rfl, h3⟩, c3⟩
    have H3 : Hid _ := h3
    have C3 : Hid _ := bl_trans C2.out c3
    have k3 := box_keep C3.out
    clear k2 h3 c3
    cases q3
    · go_wp2
      go_ret
      exact ⟨⟨false, rfl, saysV_no (fun h => by have := H3.out.2 h.2.2.2.1.1; cases this)⟩, bl_trans Hb0.out C3.out⟩
    have G3 : Hid (AskSay m.ck m.qs) := H3.out.1 rfl
    clear H3
    have HL3 : Hid _ := HL.out.keep C3.out
    go_wp2_with fail
    refine (A.specAsksOk_gv a4 _ m.gs m.ck _ HL3.out.r4 hf.f4 hf.k4).mono ?_
    rintro e w4 ⟨⟨q4, rfl, h4⟩, c4⟩
    have H4 : Hid _ := h4
    have C4 : Hid _ := bl_trans C3.out c4
    have k4 := box_keep C4.out
    clear k3 h4 c4
    cases q4
    · go_wp2
      go_ret
      exact ⟨⟨false, rfl, saysV_no (fun h => by have := H4.out.2 h.2.2.2.1.2; cases this)⟩, bl_trans Hb0.out C4.out⟩
    have G4 : Hid (AskSay m.ck m.gs) := H4.out.1 rfl
    clear H4
    have HL4 : Hid _ := HL.out.keep C4.out
    have hk3 := hf.k3
    have hk4 := hf.k4
    go_wp2
    clear k4
    go_loopw [3] (fun i wx => ∃ (k : Nat), k ≤ m.qs.length ∧ i = .int .i64 k ∧ Hid (∀ j r, j < k → m.qs[j]? = some r → ¬ A.HasA m.gs r.h) ∧ Hid (Below (w.alloc (.cells #[.string m.nm, .bool m.up, .int .i64 m.ck, .bool m.kn, .int .i64 m.se, .slice a1 m.ws.length n1, .slice a2 m.rs.length n2, .slice a3 m.qs.length n3, .slice a4 m.gs.length n4] 52)).heap.size (w.alloc (.cells #[.string m.nm, .bool m.up, .int .i64 m.ck, .bool m.kn, .int .i64 m.se, .slice a1 m.ws.length n1, .slice a2 m.rs.length n2, .slice a3 m.qs.length n3, .slice a4 m.gs.length n4] 52)) wx)) (fun i _ => m.qs.length - (intOf i).toNat)
    case atStart => exact ⟨0, Nat.zero_le _, rfl, fun j r hj _ => by omega, C4.out⟩
    case round =>
      obtain ⟨k, hkk, rfl, Ha, HB⟩ := hrel
      have kb := box_keep HB.out
      by_cases hlt : k < m.qs.length
      · obtain ⟨r, hr⟩ : ∃ r, m.qs[k]? = some r := ⟨m.qs[k], List.getElem?_eq_getElem hlt⟩
        have Hr : Hid _ := hr
        have HLx : Hid _ := HL.out.keep HB.out
        obtain ⟨b3, hb3, z3, hR3⟩ := HLx.out.r3.resolve_left (fun h => by rw [h] at hlt; simp at hlt)
        subst hb3
        obtain ⟨c0, -⟩ := hR3.at hr
        simp only [Nat.zero_add] at c0
        clear hr
        have i0 : (0 : Int) ≤ (k : Int) := by omega
        have i1 : (k : Int) < (m.qs.length : Int) := by omega
        by_cases ha : 0 ≤ A.askAt m.gs r.h
        · go_wp2_with fail
          go_quiet (first | (go_at_call 76; refine Calls.quiet_of_same (A.specAsk_gv a4 _ m.gs r.h _ HLx.out.r4 hf.k4)))
          go_wp2
          go_ret
          exact ⟨⟨false, rfl, saysV_no (fun h => h.2.2.2.2.1 r (List.mem_of_getElem? Hr.out) ((A.askAt_has _ _).1 ha))⟩, drewN_top (bl_trans Hb0.out HB.out)⟩
        · have ha' : A.askAt m.gs r.h < 0 := by omega
          go_wp2_with fail
          go_quiet (first | (go_at_call 76; refine Calls.quiet_of_same (A.specAsk_gv a4 _ m.gs r.h _ HLx.out.r4 hf.k4)))
          go_wp2
          exact ⟨⟨k + 1, by omega, by go_num, none_step Ha.out Hr.out (fun h => by have := (A.askAt_has _ _).2 h; omega), drewN_top HB.out⟩, by simp [intOf]; omega⟩
      · have ek : k = m.qs.length := by omega
        subst ek
        have G5 : Hid (∀ r ∈ m.qs, ¬ A.HasA m.gs r.h) := none_all Ha.out
        cases hu : m.up
        · have hk2 := hf.k2
          go_wp2
          clear kb
          go_loopw [4] (fun i wx => ∃ (k : Nat), k ≤ m.rs.length ∧ i = .int .i64 k ∧ Hid (∀ j r, j < k → m.rs[j]? = some r → heldB r = true) ∧ Hid (Below (w.alloc (.cells #[.string m.nm, .bool m.up, .int .i64 m.ck, .bool m.kn, .int .i64 m.se, .slice a1 m.ws.length n1, .slice a2 m.rs.length n2, .slice a3 m.qs.length n3, .slice a4 m.gs.length n4] 52)).heap.size (w.alloc (.cells #[.string m.nm, .bool m.up, .int .i64 m.ck, .bool m.kn, .int .i64 m.se, .slice a1 m.ws.length n1, .slice a2 m.rs.length n2, .slice a3 m.qs.length n3, .slice a4 m.gs.length n4] 52)) wx)) (fun i _ => m.rs.length - (intOf i).toNat)
          case atStart => exact ⟨0, Nat.zero_le _, rfl, fun j r hj _ => by omega, HB.out⟩
          case round =>
            clear HB Ha
            obtain ⟨k, hkk, rfl, Ha, HB⟩ := hrel
            have kb := box_keep HB.out
            have lb : w.heap.size < wr.heap.size := by have := HB.out.size; simp at this; omega
            by_cases hlt : k < m.rs.length
            · obtain ⟨r, hr⟩ : ∃ r, m.rs[k]? = some r := ⟨m.rs[k], List.getElem?_eq_getElem hlt⟩
              have Hr : Hid _ := hr
              have HLx : Hid _ := HL.out.keep HB.out
              obtain ⟨b2, hb2, bz, hR2⟩ := HLx.out.r2.resolve_left (fun h => by rw [h] at hlt; simp at hlt)
              subst hb2
              obtain ⟨c0, c1, c2, c3, c4, c5, c6, c7, c8, c9, c10⟩ := hR2.at hr
              simp only [Nat.zero_add] at c0 c1 c2 c3 c4 c5 c6 c7 c8 c9 c10
              clear hr
              have i0 : (0 : Int) ≤ (k : Int) := by omega
              have i1 : (k : Int) < (m.rs.length : Int) := by omega
              cases hal : aliveB r.a
              · cases he : r.h.toList.isEmpty
                · go_wp2_with (go_at_call 43; refine (specAlive_x r.c r.h r.v r.p r.s r.d r.g r.a r.b r.i r.u _).mono ?_; rintro e w' ⟨rfl, rfl⟩)
                  exact ⟨⟨k + 1, by omega, by go_num, each_step Ha.out Hr.out (by simp [heldB, hal, he]), (by repeat (first | exact HB.out | refine bl_alloc ?_ _))⟩, by simp [intOf]; omega⟩
                · go_wp2_with (go_at_call 43; refine (specAlive_x r.c r.h r.v r.p r.s r.d r.g r.a r.b r.i r.u _).mono ?_; rintro e w' ⟨rfl, rfl⟩)
                  go_ret
                  exact ⟨⟨false, rfl, saysV_no (fun h => held_at Hr.out (by simp [heldB, hal, he]) h hu)⟩, bl_trans Hb0.out (by repeat (first | exact HB.out | refine bl_alloc ?_ _))⟩
              · go_wp2_with (go_at_call 43; refine (specAlive_x r.c r.h r.v r.p r.s r.d r.g r.a r.b r.i r.u _).mono ?_; rintro e w' ⟨rfl, rfl⟩)
                exact ⟨⟨k + 1, by omega, by go_num, each_step Ha.out Hr.out (by simp [heldB, hal]), (by repeat (first | exact HB.out | refine bl_alloc ?_ _))⟩, by simp [intOf]; omega⟩
            · have ek : k = m.rs.length := by omega
              subst ek
              have G6 : Hid (∀ r ∈ m.rs, heldB r = true) := each_all Ha.out
              cases hkn : m.kn
              · by_cases hse : m.se = 0
                · by_cases hln : m.qs.length + m.gs.length = 0
                  · have hl1 : m.qs.length = 0 := by omega
                    have hl2 : m.gs.length = 0 := by omega
                    have hs' : (m.se == 0) = true := by simp [hse]
                    have Hz : Hid (DownSay m) := ⟨hkn, hse, down_len Hk.out hkn hln, G6.out⟩
                    have HV : Hid (Valid m) := ⟨Hp.out, ⟨G1.out, Hk.out⟩, G2.out, ⟨G3.out, G4.out⟩, G5.out, Or.inr Hz.out⟩
                    clear hse hln
                    go_wp2
                    go_ret
                    exact ⟨⟨true, rfl, ⟨fun _ => HV.out, fun _ => rfl⟩⟩, bl_trans Hb0.out HB.out⟩
                  · have hl1 : ((m.qs.length : Int) + (m.gs.length : Int) == 0) = false := beq_false_of_ne (by omega)
                    have Hln : Hid _ := hln
                    clear hln
                    go_wp2
                    go_ret
                    exact ⟨⟨false, rfl, saysV_no (fun h => Hln.out (by have := (down_of h hu).2.2.1; omega))⟩, bl_trans Hb0.out HB.out⟩
                · have hs' : (m.se == 0) = false := by simp [hse]
                  have Hse : Hid _ := hse
                  clear hse
                  go_wp2
                  go_ret
                  exact ⟨⟨false, rfl, saysV_no (fun h => Hse.out (down_of h hu).2.1)⟩, bl_trans Hb0.out HB.out⟩
              · go_wp2
                go_ret
                exact ⟨⟨false, rfl, saysV_no (fun h => by have := (down_of h hu).1; rw [hkn] at this; cases this)⟩, bl_trans Hb0.out HB.out⟩
        · go_wp2
          go_ret
          exact ⟨⟨true, rfl, ⟨fun _ => ⟨Hp.out, ⟨G1.out, Hk.out⟩, G2.out, ⟨G3.out, G4.out⟩, G5.out, Or.inl hu⟩, fun _ => rfl⟩⟩, bl_trans Hb0.out HB.out⟩
end Go.Proofs.YtdkjhonaafadjaaGreat
/- A world that is new. -/
namespace Go.Proofs.YtdkjhonaafadjaaGreat
open Go.RowKit
set_option linter.unusedVariables false

def newM (x : ByteArray) : MateD := ⟨x, true, 0, false, 0, [], [], [], []⟩
def newRow (x : ByteArray) : Mt.MRow := ⟨newM x, none, 0, none, 0, none, 0, none, 0⟩
def NewOk (xs : List ByteArray) : Prop := (1 ≤ xs.length ∧ xs.length ≤ 4) ∧ MatesSay (xs.map newM)
def GvN (w : World) (a : Option Addr) (xs : List ByteArray) : Prop := xs = [] ∨ ∃ b, a = some ⟨b, 0, none⟩ ∧ b < w.heap.size ∧ Mt.RowsAt w b 0 (xs.map newRow)
theorem GvN.keep {w w' : World} {a : Option Addr} {xs : List ByteArray} (h : GvN w a xs) (hb : Below w.heap.size w w') : GvN w' a xs := by
  rcases h with h | ⟨b, h1, h2, h3⟩
  · exact Or.inl h
  · exact Or.inr ⟨b, h1, Nat.lt_of_lt_of_le h2 hb.size, h3.keep h2 hb⟩
theorem map_new (xs : List ByteArray) : (xs.map newRow).map Mt.MRow.m = xs.map newM := by rw [List.map_map]; rfl
theorem at_new {xs : List ByteArray} {k : Nat} {x : ByteArray} (h : xs[k]? = some x) : (xs.map newRow)[k]? = some (newRow x) := by rw [List.getElem?_map, h]; rfl
theorem fits_new {x : ByteArray} (h : x.size ≤ maxLen) : (newM x).fits := ⟨h, (fun r hr => by cases hr), (fun r hr => by cases hr), (fun r hr => by cases hr), (fun r hr => by cases hr), Nat.zero_le _, Nat.zero_le _, Nat.zero_le _, Nat.zero_le _⟩
theorem lists_new (w : World) (x : ByteArray) : ListsX w (newM x) none none none none := ⟨Or.inl rfl, Or.inl rfl, Or.inl rfl, Or.inl rfl⟩
theorem rowN {y : World} {b3 k : Nat} {xs : List ByteArray} {x : ByteArray} (h : Mt.RowsAt y b3 0 (xs.map newRow)) (hr : xs[k]? = some x) : y.cell? ⟨b3, k * 9, none⟩ = some (.string x) ∧ y.cell? ⟨b3, k * 9 + 1, none⟩ = some (.bool true) ∧ y.cell? ⟨b3, k * 9 + 2, none⟩ = some (.int .i64 0) ∧ y.cell? ⟨b3, k * 9 + 3, none⟩ = some (.bool false) ∧ y.cell? ⟨b3, k * 9 + 4, none⟩ = some (.int .i64 0) ∧ y.cell? ⟨b3, k * 9 + 5, none⟩ = some (.slice none 0 0) ∧ y.cell? ⟨b3, k * 9 + 6, none⟩ = some (.slice none 0 0) ∧ y.cell? ⟨b3, k * 9 + 7, none⟩ = some (.slice none 0 0) ∧ y.cell? ⟨b3, k * 9 + 8, none⟩ = some (.slice none 0 0) := by
  have := h.at (at_new hr)
  simp only [Nat.zero_add] at this
  exact this
theorem rowN0 {y : World} {b3 : Nat} {xs : List ByteArray} {x : ByteArray} (h : Mt.RowsAt y b3 0 (xs.map newRow)) (hr : xs[0]? = some x) : y.cell? ⟨b3, 0, none⟩ = some (.string x) ∧ y.cell? ⟨b3, 1, none⟩ = some (.bool true) ∧ y.cell? ⟨b3, 2, none⟩ = some (.int .i64 0) ∧ y.cell? ⟨b3, 3, none⟩ = some (.bool false) ∧ y.cell? ⟨b3, 4, none⟩ = some (.int .i64 0) ∧ y.cell? ⟨b3, 5, none⟩ = some (.slice none 0 0) ∧ y.cell? ⟨b3, 6, none⟩ = some (.slice none 0 0) ∧ y.cell? ⟨b3, 7, none⟩ = some (.slice none 0 0) ∧ y.cell? ⟨b3, 8, none⟩ = some (.slice none 0 0) := by
  have := h.at (at_new hr)
  simp only [Nat.zero_add, Nat.zero_mul] at this
  exact this
theorem specNew_t (x : ByteArray) (w : World) (hx : x.size ≤ maxLen) (hv : Valid (newM x)) : Calls Tryz.prog 36 #[.agg #[.string x, .bool true, .int .i64 0, .bool false, .int .i64 0, .slice none 0 0, .slice none 0 0, .slice none 0 0, .slice none 0 0]] w fun e w' => e = .returned (.bool true) ∧ Below w.heap.size w w' :=
  (specValidX (newM x) none none none none 0 0 0 0 w (lists_new w x) (fits_new hx)).mono (by rintro e w' ⟨⟨q, rfl, h⟩, hb⟩; exact ⟨by rw [h.2 hv], hb⟩)
theorem specNew_f (x : ByteArray) (w : World) (hx : x.size ≤ maxLen) (hv : ¬ Valid (newM x)) : Calls Tryz.prog 36 #[.agg #[.string x, .bool true, .int .i64 0, .bool false, .int .i64 0, .slice none 0 0, .slice none 0 0, .slice none 0 0, .slice none 0 0]] w fun e w' => e = .returned (.bool false) ∧ Below w.heap.size w w' :=
  (specValidX (newM x) none none none none 0 0 0 0 w (lists_new w x) (fits_new hx)).mono (by
    rintro e w' ⟨⟨q, rfl, h⟩, hb⟩
    cases q
    · exact ⟨rfl, hb⟩
    · exact (hv (h.1 rfl)).elim)
theorem matesNew_iff {xs : List ByteArray} : MatesOk (xs.map newRow) xs.length ↔ MatesSay (xs.map newM) := by
  rw [← map_new, ← matesOk_iff, List.length_map]
theorem nw_box {w w' : World} {xs : List ByteArray} {a : Option Addr} {c : Nat} (hb : Below (w.alloc (.cells #[.int .i64 0, .slice none 0 0, .slice none 0 0, .slice a xs.length c, .slice none 0 0] 30)).heap.size (w.alloc (.cells #[.int .i64 0, .slice none 0 0, .slice none 0 0, .slice a xs.length c, .slice none 0 0] 30)) w') : ∀ k, w'.cell? ⟨w.heap.size, k, none⟩ = (#[.int .i64 0, .slice none 0 0, .slice none 0 0, .slice a xs.length c, .slice none 0 0] : Array Value)[k]? := by
  intro k
  rw [hb.cell (p := ⟨w.heap.size, k, none⟩) (by simp)]
  simp [go_sem]
end Go.Proofs.YtdkjhonaafadjaaGreat
/- Rows of new mates that the call itself made. -/
namespace Go.Proofs.YtdkjhonaafadjaaGreat
open Go.RowKit
set_option linter.unusedVariables false

def newCells (x : ByteArray) : List Value := [.string x, .bool true, .int .i64 0, .bool false, .int .i64 0, .slice none 0 0, .slice none 0 0, .slice none 0 0, .slice none 0 0]
def flatN (rs : List ByteArray) : List Value := rs.flatMap newCells
theorem flatN_len : ∀ rs : List ByteArray, (flatN rs).length = rs.length * 9
  | [] => rfl
  | r :: rs => by
    have := flatN_len rs
    simp only [flatN, List.flatMap_cons, List.length_append] at this ⊢
    simp only [this, List.length_cons]
    show 9 + rs.length * 9 = _
    omega
theorem flatN_snoc (rs : List ByteArray) (r : ByteArray) : flatN (rs ++ [r]) = flatN rs ++ (newCells r) := by simp [flatN]
theorem flatN_at : ∀ (rs : List ByteArray) (k : Nat) (r : ByteArray), rs[k]? = some r → ∀ j, j < 9 → (flatN rs)[k * 9 + j]? = (newCells r)[j]?
  | [], k, r, h, j, hj => by simp at h
  | q :: rs, 0, r, h, j, hj => by
    simp at h; subst h
    rw [flatN, List.flatMap_cons, List.getElem?_append_left (by show _ < 9; omega)]
    simp
  | q :: rs, k + 1, r, h, j, hj => by
    have ih := flatN_at rs k r (by simpa using h) j hj
    rw [flatN, List.flatMap_cons, List.getElem?_append_right (by show 9 ≤ _; omega)]
    rw [← ih]
    show (flatN rs)[(k + 1) * 9 + j - 9]? = _
    rw [show (k + 1) * 9 + j - 9 = k * 9 + j from by omega]
theorem flatN_one (rs : List ByteArray) : ∀ u ∈ flatN rs, u.oneCell' = true := by
  intro u hu
  obtain ⟨r, -, h⟩ := List.mem_flatMap.1 hu
  simp [newCells] at h
  rcases h with rfl | rfl | rfl | rfl | rfl | rfl <;> rfl

theorem rows_of_ownsN {w : World} {base : Nat} {v : Value} {rs : List ByteArray} (h : w.ownsRow base 52 9 v rs.length (flatN rs)) :
    (v = .slice none 0 0 ∧ rs = []) ∨ ∃ g cap, v = .slice (some ⟨g, 0, none⟩) rs.length cap ∧ base ≤ g ∧ g < w.heap.size ∧ Mt.RowsAt w g 0 (rs.map newRow) ∧ w.there g 0 (rs.length * 9) := by
  obtain ⟨hl, ⟨rfl, hn⟩ | ⟨g, cap, cur, rfl, hb, hg, hnc, hcm, hcs, htk⟩⟩ := h
  · exact Or.inl ⟨rfl, List.length_eq_zero_iff.1 hn⟩
  · refine Or.inr ⟨g, cap, rfl, hb, (Array.getElem?_eq_some_iff.1 hg).1, ?_, ?_⟩
    · intro k q hk j u hj
      rw [List.getElem?_map] at hk
      obtain ⟨r, hkr, rfl⟩ := Option.map_eq_some_iff.1 hk
      have hj : (newCells r)[j]? = some u := hj
      have hjn : j < 9 := by
        rcases Nat.lt_or_ge j 9 with h' | h'
        · exact h'
        · rw [List.getElem?_eq_none (by simpa [newCells] using h')] at hj; cases hj
      have hf := flatN_at rs k r hkr j hjn
      rw [hj, ← htk, List.getElem?_take] at hf
      split at hf
      · rw [cell_of_row w g _ cur _ (0, 0) hg, Nat.zero_add]
        simpa using hf
      · cases hf
    · intro j hj
      have hlt : j < cur.size := by
        have : rs.length * 9 ≤ cap * 9 := Nat.mul_le_mul_right 9 hnc
        omega
      refine ⟨?_, ?_⟩
      · rw [cell_of_row w g _ cur _ (0, 0) hg, Nat.zero_add]
        simp [Array.getElem?_eq_getElem hlt]
      · simp [World.frozen?, hg]

theorem flatN_append (xs ys : List ByteArray) : flatN (xs ++ ys) = flatN xs ++ flatN ys := by simp [flatN]
theorem own_shape {x : World} {base : Nat} {e : TypeId} {size : Nat} {v : Value} {n : Nat} {xs : List Value} (h : x.ownsRow base e size v n xs) : ∃ a p, v = .slice a n p := by
  rcases h.2 with ⟨h1, h2⟩ | ⟨g, cap, cur, h1, -⟩
  · subst h2; exact ⟨none, 0, h1⟩
  · exact ⟨_, _, h1⟩
theorem own_ex {x y : World} {base k : Nat} {e : TypeId} {size : Nat} {v : Value} {n : Nat} {xs : List Value} (h : x.ownsRow base e size v n xs) (he : Ex k x y) (hk : k < base) : y.ownsRow base e size v n xs :=
  ⟨h.1, h.2.imp id (fun ⟨g, cap, cur, h1, h2, h3, h4⟩ => ⟨g, cap, cur, h1, h2, by
    have hg : g < x.heap.size := by
      rcases Nat.lt_or_ge g x.heap.size with h' | h'
      · exact h'
      · rw [Array.getElem?_eq_none h'] at h3; cases h3
    rw [he.block g hg (by omega)]; exact h3, h4⟩)⟩
/-- A list of new mates of the call's own. -/
def SlN (w : World) (v : Value) (xs : List ByteArray) (B : Nat) : Prop := (v = .slice none 0 0 ∧ xs = []) ∨ ∃ g cap, v = .slice (some ⟨g, 0, none⟩) xs.length cap ∧ B ≤ g ∧ g < w.heap.size ∧ Mt.RowsAt w g 0 (xs.map newRow) ∧ w.there g 0 (xs.length * 9)
theorem SlN.gv {w : World} {a : Option Addr} {c B : Nat} {xs : List ByteArray} (h : SlN w (.slice a xs.length c) xs B) : GvN w a xs := by
  rcases h with ⟨h, rfl⟩ | ⟨g, cap, h0, h1, h2, h3, h4⟩
  · exact Or.inl rfl
  · cases h0; exact Or.inr ⟨g, rfl, h2, h3⟩
theorem SlN.keep {w w' : World} {v : Value} {xs : List ByteArray} {B : Nat} (h : SlN w v xs B) (hb : Below w.heap.size w w') : SlN w' v xs B := by
  rcases h with h | ⟨g, cap, h0, h1, h2, h3, h4⟩
  · exact Or.inl h
  · exact Or.inr ⟨g, cap, h0, h1, Nat.lt_of_lt_of_le h2 hb.size, h3.keep h2 hb, there_keep h4 h2 hb⟩
theorem SlN.ex {w w' : World} {v : Value} {xs : List ByteArray} {B k : Nat} (h : SlN w v xs B) (he : Ex k w w') (hk : k < B) : SlN w' v xs B := by
  rcases h with h | ⟨g, cap, h0, h1, h2, h3, h4⟩
  · exact Or.inl h
  · exact Or.inr ⟨g, cap, h0, h1, Nat.lt_of_lt_of_le h2 he.size, Mt.RowsAt.exq h3 h2 he (by omega), there_ex h4 h2 he (by omega)⟩
theorem infoM : (Tryz.prog.info? 52).map (fun i => (i.zero, i.size, i.bytes)) = some (some (.agg #[.string ⟨#[]⟩, .bool false, .int .i64 0, .bool false, .int .i64 0, .slice none 0 0, .slice none 0 0, .slice none 0 0, .slice none 0 0]), 9, 144) := by kernel_rfl
/-- While a new world is made: its box, and room for the answer. -/
structure Nb (w : World) (v : Value) (x : World) : Prop where
  b : ∀ k, x.cell? ⟨w.heap.size + 1, k, none⟩ = (#[.int .i64 0, .slice none 0 0, .slice none 0 0, v, .slice none 0 0] : Array Value)[k]?
  c : ∀ k, x.frozen? ⟨w.heap.size + 1, k, none⟩ = false
  d : x.there w.heap.size 0 5
  e : Below w.heap.size w x
  f : w.heap.size + 1 < x.heap.size
theorem Nb.off {w x y : World} {v : Value} {row : Option Nat} (h : Nb w v x) (hg : x.grownBy y row) (hr : ∀ k, row = some k → w.heap.size + 1 < k) : Nb w v y :=
  have hf := h.f
  have k0 : y.heap[w.heap.size]? = x.heap[w.heap.size]? := hg.block _ (by omega) (fun e => by have := hr _ e.symm; omega)
  have k1 : y.heap[w.heap.size + 1]? = x.heap[w.heap.size + 1]? := hg.block _ hf (fun e => by have := hr _ e.symm; omega)
  ⟨fun k => (World.cell?_of_block (w := x) (a := ⟨w.heap.size + 1, k, none⟩) k1).trans (h.b k), fun k => (World.frozen?_of_block (w := x) (a := ⟨w.heap.size + 1, k, none⟩) k1).trans (h.c k),
    fun j hj => ⟨by rw [World.cell?_of_block (w := x) (a := ⟨w.heap.size, 0 + j, none⟩) k0]; exact (h.d j hj).1, by rw [World.frozen?_of_block (w := x) (a := ⟨w.heap.size, 0 + j, none⟩) k0]; exact (h.d j hj).2⟩,
    Below.grown h.e hg (by omega) (fun k hk => by have := hr k hk; omega), Nat.lt_of_lt_of_le hf hg.size⟩
theorem Nb.below {w x y : World} {v : Value} (h : Nb w v x) (hb : Below x.heap.size x y) : Nb w v y := h.off (row := none) ⟨hb.os, hb.tape, hb.output, hb.size, fun k hk _ => hb.block k hk⟩ (fun k hk => by cases hk)
theorem Nb.set {w x : World} {v : Value} (h : Nb w v x) (u : Value) : Nb w u (x.setCell ⟨w.heap.size + 1, 3, none⟩ u) := by
  have he : Ex (w.heap.size + 1) x (x.setCell ⟨w.heap.size + 1, 3, none⟩ u) := (Ex.refl _ _).set 3 u
  have hf := h.f
  refine ⟨fun k => ?_, fun k => by rw [World.frozen?_setCell]; exact h.c k, there_ex h.d (by omega) he (by omega), Ex.mono h.e he (by omega), Nat.lt_of_lt_of_le hf he.size⟩
  by_cases e : k = 3
  · subst e
    rw [World.cell?_setCell_same _ _ _ (h.b 3)]
    rfl
  · rw [World.cell?_setCell_other _ _ _ _ (fun h' => e (by have := congrArg Addr.off h'; exact this.symm)), h.b k]
    rcases k with _ | _ | _ | _ | _ | k
    · rfl
    · rfl
    · rfl
    · exact (e rfl).elim
    · rfl
    · rfl
end Go.Proofs.YtdkjhonaafadjaaGreat
/- Two worlds that are new are told to be equal. -/
namespace Go.Proofs.YtdkjhonaafadjaaGreat
open Go.RowKit
set_option linter.unusedVariables false

theorem eqMateGrantS0 (a1 a2 : Option Addr) (c1 c2 : Nat) (w : World) : Calls Tryz.prog 54 #[.slice a1 0 c1, .slice a2 0 c2] w fun e w' => e = .returned (.bool true) ∧ w' = w := by
  go_enter Tryz.func54, Tryz.ntmps54
  go_wp2
  refine wp_loop_rounds 1 ?_
  rw [rounds_succ]
  go_wp2
  go_ret
  exact ⟨rfl, rfl⟩
theorem markMateGrantS0 (a : Option Addr) (c : Nat) (k : Int) (w : World) : Calls Tryz.prog 57 #[.slice a 0 c, .int .i64 k] w fun e w' => e = .returned (.int .i64 k) ∧ w' = w := by
  go_enter Tryz.func57, Tryz.ntmps57
  go_wp2
  refine wp_loop_rounds 1 ?_
  rw [rounds_succ]
  go_wp2
  go_ret
  exact ⟨rfl, rfl⟩
theorem heldMateGrantS0 (a : Option Addr) (c : Nat) (k : Int) (w : World) : Calls Tryz.prog 62 #[.slice a 0 c, .int .i64 k] w fun e w' => e = .returned (.int .i64 k) ∧ w' = w := by
  go_enter Tryz.func62, Tryz.ntmps62
  go_wp2
  refine wp_loop_rounds 1 ?_
  rw [rounds_succ]
  go_wp2
  go_ret
  exact ⟨rfl, rfl⟩
theorem eqMatePlaceS0 (a1 a2 : Option Addr) (c1 c2 : Nat) (w : World) : Calls Tryz.prog 55 #[.slice a1 0 c1, .slice a2 0 c2] w fun e w' => e = .returned (.bool true) ∧ w' = w := by
  go_enter Tryz.func55, Tryz.ntmps55
  go_wp2
  refine wp_loop_rounds 1 ?_
  rw [rounds_succ]
  go_wp2
  go_ret
  exact ⟨rfl, rfl⟩
theorem markMatePlaceS0 (a : Option Addr) (c : Nat) (k : Int) (w : World) : Calls Tryz.prog 58 #[.slice a 0 c, .int .i64 k] w fun e w' => e = .returned (.int .i64 k) ∧ w' = w := by
  go_enter Tryz.func58, Tryz.ntmps58
  go_wp2
  refine wp_loop_rounds 1 ?_
  rw [rounds_succ]
  go_wp2
  go_ret
  exact ⟨rfl, rfl⟩
theorem heldMatePlaceS0 (a : Option Addr) (c : Nat) (k : Int) (w : World) : Calls Tryz.prog 63 #[.slice a 0 c, .int .i64 k] w fun e w' => e = .returned (.int .i64 k) ∧ w' = w := by
  go_enter Tryz.func63, Tryz.ntmps63
  go_wp2
  refine wp_loop_rounds 1 ?_
  rw [rounds_succ]
  go_wp2
  go_ret
  exact ⟨rfl, rfl⟩
theorem eqStringS0 (a1 a2 : Option Addr) (c1 c2 : Nat) (w : World) : Calls Tryz.prog 12 #[.slice a1 0 c1, .slice a2 0 c2] w fun e w' => e = .returned (.bool true) ∧ w' = w := by
  go_enter Tryz.func12, Tryz.ntmps12
  go_wp2
  refine wp_loop_rounds 1 ?_
  rw [rounds_succ]
  go_wp2
  go_ret
  exact ⟨rfl, rfl⟩
theorem markStringS0 (a : Option Addr) (c : Nat) (k : Int) (w : World) : Calls Tryz.prog 13 #[.slice a 0 c, .int .i64 k] w fun e w' => e = .returned (.int .i64 k) ∧ w' = w := by
  go_enter Tryz.func13, Tryz.ntmps13
  go_wp2
  refine wp_loop_rounds 1 ?_
  rw [rounds_succ]
  go_wp2
  go_ret
  exact ⟨rfl, rfl⟩
theorem heldStringS0 (a : Option Addr) (c : Nat) (k : Int) (w : World) : Calls Tryz.prog 31 #[.slice a 0 c, .int .i64 k] w fun e w' => e = .returned (.int .i64 k) ∧ w' = w := by
  go_enter Tryz.func31, Tryz.ntmps31
  go_wp2
  refine wp_loop_rounds 1 ?_
  rw [rounds_succ]
  go_wp2
  go_ret
  exact ⟨rfl, rfl⟩

set_option maxRecDepth 4000 in
set_option maxHeartbeats 1000000 in
theorem eqNewM (x : ByteArray) (w : World) : Calls Tryz.prog 56 #[.agg #[.string x, .bool true, .int .i64 0, .bool false, .int .i64 0, .slice none 0 0, .slice none 0 0, .slice none 0 0, .slice none 0 0], .agg #[.string x, .bool true, .int .i64 0, .bool false, .int .i64 0, .slice none 0 0, .slice none 0 0, .slice none 0 0, .slice none 0 0]] w fun e w' => e = .returned (.bool true) ∧ Below w.heap.size w w' := by
  go_enter Tryz.func56, Tryz.ntmps56
  go_wp2_with fail
  refine (W.eq_zero _ _ _ _ _).mono ?_
  rintro e w1 ⟨rfl, rfl⟩
  go_wp2_with fail
  refine (eq_zero _ _ _ _ _).mono ?_
  rintro e w1 ⟨rfl, rfl⟩
  go_wp2_with fail
  refine (A.eq_zero _ _ _ _ _).mono ?_
  rintro e w1 ⟨rfl, rfl⟩
  go_wp2_with fail
  refine (A.eq_zero _ _ _ _ _).mono ?_
  rintro e w1 ⟨rfl, rfl⟩
  go_wp2
  go_ret
  exact ⟨rfl, bl_alloc (bl_alloc (Below.refl _ _) _) _⟩

theorem keepN {x w' : World} {b1 b2 k : Nat} {xs : List ByteArray} {p : ByteArray} (hp : xs[k]? = some p) (h1 : Mt.RowsAt x b1 0 (xs.map newRow)) (h2 : Mt.RowsAt x b2 0 (xs.map newRow)) (l1 : b1 < x.heap.size) (l2 : b2 < x.heap.size) (hb : Below x.heap.size x w') :
    Below x.heap.size x w' ∧ (w'.cell? ⟨b1, k * 9, none⟩ = some (.string p) ∧ w'.cell? ⟨b1, k * 9 + 1, none⟩ = some (.bool true) ∧ w'.cell? ⟨b1, k * 9 + 2, none⟩ = some (.int .i64 0) ∧ w'.cell? ⟨b1, k * 9 + 3, none⟩ = some (.bool false) ∧ w'.cell? ⟨b1, k * 9 + 4, none⟩ = some (.int .i64 0) ∧ w'.cell? ⟨b1, k * 9 + 5, none⟩ = some (.slice none 0 0) ∧ w'.cell? ⟨b1, k * 9 + 6, none⟩ = some (.slice none 0 0) ∧ w'.cell? ⟨b1, k * 9 + 7, none⟩ = some (.slice none 0 0) ∧ w'.cell? ⟨b1, k * 9 + 8, none⟩ = some (.slice none 0 0)) ∧ (w'.cell? ⟨b2, k * 9, none⟩ = some (.string p) ∧ w'.cell? ⟨b2, k * 9 + 1, none⟩ = some (.bool true) ∧ w'.cell? ⟨b2, k * 9 + 2, none⟩ = some (.int .i64 0) ∧ w'.cell? ⟨b2, k * 9 + 3, none⟩ = some (.bool false) ∧ w'.cell? ⟨b2, k * 9 + 4, none⟩ = some (.int .i64 0) ∧ w'.cell? ⟨b2, k * 9 + 5, none⟩ = some (.slice none 0 0) ∧ w'.cell? ⟨b2, k * 9 + 6, none⟩ = some (.slice none 0 0) ∧ w'.cell? ⟨b2, k * 9 + 7, none⟩ = some (.slice none 0 0) ∧ w'.cell? ⟨b2, k * 9 + 8, none⟩ = some (.slice none 0 0)) :=
  ⟨hb, rowN (h1.keep l1 hb) hp, rowN (h2.keep l2 hb) hp⟩

set_option maxRecDepth 4000 in
set_option maxHeartbeats 4000000 in
theorem eqNewRows (b1 n1 b2 n2 : Nat) (xs : List ByteArray) (w : World) (h1 : Mt.RowsAt w b1 0 (xs.map newRow)) (h2 : Mt.RowsAt w b2 0 (xs.map newRow)) (l1 : b1 < w.heap.size) (l2 : b2 < w.heap.size) (hl : xs.length ≤ 1048576) :
    Calls Tryz.prog 25 #[.slice (some ⟨b1, 0, none⟩) xs.length n1, .slice (some ⟨b2, 0, none⟩) xs.length n2] w fun e w' => e = .returned (.bool true) ∧ Below w.heap.size w w' := by
  go_enter Tryz.func25, Tryz.ntmps25
  go_wp2
  go_loopw [5] (fun i wx => ∃ (k : Nat), k ≤ xs.length ∧ i = .int .i64 k ∧ Below w.heap.size w wx) (fun i _ => xs.length - (intOf i).toNat)
  case atStart => exact ⟨0, Nat.zero_le _, rfl, Below.refl _ _⟩
  case round =>
    obtain ⟨k, hk, rfl, hB⟩ := hrel
    by_cases hlt : k < xs.length
    · obtain ⟨p, hp⟩ : ∃ p, xs[k]? = some p := ⟨xs[k], List.getElem?_eq_getElem hlt⟩
      have Hp : Hid _ := hp
      have g1 := h1.keep l1 hB
      have g2 := h2.keep l2 hB
      have z1 : b1 < wr.heap.size := Nat.lt_of_lt_of_le l1 hB.size
      have z2 : b2 < wr.heap.size := Nat.lt_of_lt_of_le l2 hB.size
      have i0 : (0 : Int) ≤ (k : Int) := by omega
      have i1 : (k : Int) < (xs.length : Int) := by omega
      clear hp
      go_wp2_with fail
      go_region_held3 (fun w' => Below wr.heap.size wr w' ∧ (w'.cell? ⟨b1, k * 9, none⟩ = some (.string p) ∧ w'.cell? ⟨b1, k * 9 + 1, none⟩ = some (.bool true) ∧ w'.cell? ⟨b1, k * 9 + 2, none⟩ = some (.int .i64 0) ∧ w'.cell? ⟨b1, k * 9 + 3, none⟩ = some (.bool false) ∧ w'.cell? ⟨b1, k * 9 + 4, none⟩ = some (.int .i64 0) ∧ w'.cell? ⟨b1, k * 9 + 5, none⟩ = some (.slice none 0 0) ∧ w'.cell? ⟨b1, k * 9 + 6, none⟩ = some (.slice none 0 0) ∧ w'.cell? ⟨b1, k * 9 + 7, none⟩ = some (.slice none 0 0) ∧ w'.cell? ⟨b1, k * 9 + 8, none⟩ = some (.slice none 0 0)) ∧ (w'.cell? ⟨b2, k * 9, none⟩ = some (.string p) ∧ w'.cell? ⟨b2, k * 9 + 1, none⟩ = some (.bool true) ∧ w'.cell? ⟨b2, k * 9 + 2, none⟩ = some (.int .i64 0) ∧ w'.cell? ⟨b2, k * 9 + 3, none⟩ = some (.bool false) ∧ w'.cell? ⟨b2, k * 9 + 4, none⟩ = some (.int .i64 0) ∧ w'.cell? ⟨b2, k * 9 + 5, none⟩ = some (.slice none 0 0) ∧ w'.cell? ⟨b2, k * 9 + 6, none⟩ = some (.slice none 0 0) ∧ w'.cell? ⟨b2, k * 9 + 7, none⟩ = some (.slice none 0 0) ∧ w'.cell? ⟨b2, k * 9 + 8, none⟩ = some (.slice none 0 0)))
        (first | exact keepN Hp.out g1 g2 z1 z2 (bl_drew (Below.refl _ _)) | exact keepN Hp.out g1 g2 z1 z2 (bl_trans (bl_drew (Below.refl _ _)) hb))
        (first | (go_at_call 56; refine (eqNewM p _).mono ?_; rintro e w' ⟨rfl, hb⟩))
      go_wp2
      exact ⟨⟨k + 1, by omega, by go_num, bl_trans hB (bl_trans (bl_drew (Below.refl _ _)) hb)⟩, by simp [intOf]; omega⟩
    · go_wp2
      go_ret
      exact ⟨rfl, hB⟩
theorem eqMates0 (a1 a2 : Option Addr) (c1 c2 : Nat) (w : World) : Calls Tryz.prog 25 #[.slice a1 0 c1, .slice a2 0 c2] w fun e w' => e = .returned (.bool true) ∧ w' = w := by
  go_enter Tryz.func25, Tryz.ntmps25
  go_wp2
  refine wp_loop_rounds 1 ?_
  rw [rounds_succ]
  go_wp2
  go_ret
  exact ⟨rfl, rfl⟩
theorem eqNewS {w : World} {v1 v2 : Value} {xs : List ByteArray} {B1 B2 : Nat} (h1 : SlN w v1 xs B1) (h2 : SlN w v2 xs B2) (hl : xs.length ≤ 1048576) :
    Calls Tryz.prog 25 #[v1, v2] w fun e w' => e = .returned (.bool true) ∧ Below w.heap.size w w' := by
  have z : ∀ (a1 a2 : Option Addr) (c1 c2 : Nat), Calls Tryz.prog 25 #[.slice a1 0 c1, .slice a2 0 c2] w fun e w' => e = .returned (.bool true) ∧ Below w.heap.size w w' := fun a1 a2 c1 c2 => (eqMates0 a1 a2 c1 c2 w).mono (by rintro e w' ⟨rfl, rfl⟩; exact ⟨rfl, Below.refl _ _⟩)
  rcases h1 with ⟨rfl, rfl⟩ | ⟨g1, cap1, rfl, -, k2, k3, -⟩
  · rcases h2 with ⟨rfl, -⟩ | ⟨g2, cap2, rfl, -, m2, m3, -⟩
    · exact z _ _ _ _
    · exact z _ _ _ _
  · rcases h2 with ⟨rfl, rfl⟩ | ⟨g2, cap2, rfl, -, m2, m3, -⟩
    · exact z _ _ _ _
    · exact eqNewRows g1 cap1 g2 cap2 xs w k3 m3 k2 m2 hl
theorem eqLand0 (w : World) : Calls Tryz.prog 24 #[.agg #[.int .i64 0, .slice none 0 0, .slice none 0 0], .agg #[.int .i64 0, .slice none 0 0, .slice none 0 0]] w fun e w' => e = .returned (.bool true) ∧ Below w.heap.size w w' := by
  go_enter Tryz.func24, Tryz.ntmps24
  go_wp2_with fail
  refine (eqMateGrantS0 _ _ _ _ _).mono ?_
  rintro e w1 ⟨rfl, rfl⟩
  go_wp2_with fail
  refine (eqMatePlaceS0 _ _ _ _ _).mono ?_
  rintro e w1 ⟨rfl, rfl⟩
  go_wp2
  go_ret
  exact ⟨rfl, bl_alloc (bl_alloc (Below.refl _ _) _) _⟩
theorem nw_c {w w' : World} {v : Value} {t : TypeId} (hb : Below (w.alloc (.cells #[.int .i64 0, .slice none 0 0, .slice none 0 0, v, .slice none 0 0] t)).heap.size (w.alloc (.cells #[.int .i64 0, .slice none 0 0, .slice none 0 0, v, .slice none 0 0] t)) w') : ∀ k, w'.cell? ⟨w.heap.size, k, none⟩ = (#[.int .i64 0, .slice none 0 0, .slice none 0 0, v, .slice none 0 0] : Array Value)[k]? := by
  intro k
  rw [hb.cell (p := ⟨w.heap.size, k, none⟩) (by simp)]
  simp [go_sem]
theorem nw_c2 {w w' : World} {v u : Value} {t s : TypeId} (hb : Below ((w.alloc (.cells #[.int .i64 0, .slice none 0 0, .slice none 0 0, v, .slice none 0 0] t)).alloc (.cells #[.int .i64 0, .slice none 0 0, .slice none 0 0, u, .slice none 0 0] s)).heap.size ((w.alloc (.cells #[.int .i64 0, .slice none 0 0, .slice none 0 0, v, .slice none 0 0] t)).alloc (.cells #[.int .i64 0, .slice none 0 0, .slice none 0 0, u, .slice none 0 0] s)) w') : (∀ k, w'.cell? ⟨w.heap.size, k, none⟩ = (#[.int .i64 0, .slice none 0 0, .slice none 0 0, v, .slice none 0 0] : Array Value)[k]?) ∧ ∀ k, w'.cell? ⟨w.heap.size + 1, k, none⟩ = (#[.int .i64 0, .slice none 0 0, .slice none 0 0, u, .slice none 0 0] : Array Value)[k]? := by
  refine ⟨fun k => ?_, fun k => ?_⟩
  · rw [hb.cell (p := ⟨w.heap.size, k, none⟩) (by simp; omega)]
    simp [go_sem]
  · rw [hb.cell (p := ⟨w.heap.size + 1, k, none⟩) (by simp)]
    simp [go_sem]
set_option maxRecDepth 4000 in
set_option maxHeartbeats 1000000 in
theorem eqWorldN {w : World} {a1 a2 : Option Addr} {c1 c2 : Nat} {xs : List ByteArray} {B1 B2 : Nat} (h1 : SlN w (.slice a1 xs.length c1) xs B1) (h2 : SlN w (.slice a2 xs.length c2) xs B2) (hl : xs.length ≤ 1048576) :
    Calls Tryz.prog 11 #[.agg #[.int .i64 0, .slice none 0 0, .slice none 0 0, .slice a1 xs.length c1, .slice none 0 0], .agg #[.int .i64 0, .slice none 0 0, .slice none 0 0, .slice a2 xs.length c2, .slice none 0 0]] w fun e w' => e = .returned (.bool true) ∧ Below w.heap.size w w' := by
  have Hb0 : Hid (Below w.heap.size w ((w.alloc (.cells #[.int .i64 0, .slice none 0 0, .slice none 0 0, .slice a1 xs.length c1, .slice none 0 0] 30)).alloc (.cells #[.int .i64 0, .slice none 0 0, .slice none 0 0, .slice a2 xs.length c2, .slice none 0 0] 30))) := bl_alloc (bl_alloc (Below.refl _ _) _) _
  have S1 : Hid (SlN ((w.alloc (.cells #[.int .i64 0, .slice none 0 0, .slice none 0 0, .slice a1 xs.length c1, .slice none 0 0] 30)).alloc (.cells #[.int .i64 0, .slice none 0 0, .slice none 0 0, .slice a2 xs.length c2, .slice none 0 0] 30)) (.slice a1 xs.length c1) xs B1) := h1.keep Hb0.out
  have S2 : Hid (SlN ((w.alloc (.cells #[.int .i64 0, .slice none 0 0, .slice none 0 0, .slice a1 xs.length c1, .slice none 0 0] 30)).alloc (.cells #[.int .i64 0, .slice none 0 0, .slice none 0 0, .slice a2 xs.length c2, .slice none 0 0] 30)) (.slice a2 xs.length c2) xs B2) := h2.keep Hb0.out
  clear h1 h2
  go_enter Tryz.func11, Tryz.ntmps11
  go_wp2_with fail
  refine (eqLand0 _).mono ?_
  rintro e w1 ⟨rfl, d1⟩
  have k1 := nw_c2 d1
  have D1 : Hid (Below w.heap.size w w1) := bl_trans Hb0.out d1
  have U1 : Hid (SlN w1 (.slice a1 xs.length c1) xs B1) := S1.out.keep d1
  have U2 : Hid (SlN w1 (.slice a2 xs.length c2) xs B2) := S2.out.keep d1
  obtain ⟨ka, kb⟩ := k1
  have K1 : Hid _ := d1
  clear d1
  go_wp2_with fail
  refine (eqNewS U1.out U2.out hl).mono ?_
  rintro e w2 ⟨rfl, d2⟩
  clear ka kb
  obtain ⟨ka, kb⟩ := nw_c2 (bl_trans K1.out d2)
  have D2 : Hid (Below w.heap.size w w2) := bl_trans D1.out d2
  clear d2
  go_wp2_with fail
  refine (eqStringS0 _ _ _ _ _).mono ?_
  rintro e w1 ⟨rfl, rfl⟩
  go_wp2
  go_ret
  exact ⟨rfl, D2.out⟩
end Go.Proofs.YtdkjhonaafadjaaGreat
