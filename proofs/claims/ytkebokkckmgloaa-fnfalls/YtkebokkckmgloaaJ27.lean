import Derived.Test.YtkebokkckmgloaaJ16
import Derived.Test.YtkebokkckmgloaaJ17
import Derived.Test.YtkebokkckmgloaaJ26
import Derived.Test.YtkebokkckmgloaaJ09
import Derived.Test.YtkebokkckmgloaaJ18
/- MateValid: the specification's side, where lists may be nil. -/
namespace Go.Proofs.Ytkebokkckmgloaa
open Go.RowKit
set_option linter.unusedVariables false

set_option maxRecDepth 4000 in
set_option maxHeartbeats 8000000 in
theorem specValidX (m : MateD) (a1 a2 a3 a4 : Option Addr) (n1 n2 n3 n4 : Nat) (w : World) (hL : ListsX w m a1 a2 a3 a4) (hf : m.fits) :
    Calls Try.prog 20 #[.agg #[.string m.nm, .bool m.up, .int .i64 m.ck, .bool m.kn, .int .i64 m.se, .slice a1 m.ws.length n1, .slice a2 m.rs.length n2, .slice a3 m.qs.length n3, .slice a4 m.gs.length n4]] w fun e w' => (∃ q : Bool, e = .returned (.bool q) ∧ SaysV q m) ∧ Below w.heap.size w w' := by
  have hb0 : Below w.heap.size w (w.alloc (.cells #[.string m.nm, .bool m.up, .int .i64 m.ck, .bool m.kn, .int .i64 m.se, .slice a1 m.ws.length n1, .slice a2 m.rs.length n2, .slice a3 m.qs.length n3, .slice a4 m.gs.length n4] 27)) := bl_alloc (Below.refl _ _) _
  have L0 := hL.keep hb0
  cases qn : nameB m.nm
  · go_enter Try.func20, Try.ntmps20
    go_wp2_with (first | (go_at_call 65; refine (specName_any m.nm _ hf.n).mono ?_; rintro e w' ⟨rfl, rfl⟩) | (go_at_call 66; refine (specIn_any _ _ _ _).mono ?_; rintro e w' ⟨rfl, rfl⟩))
    go_ret
    exact ⟨⟨false, rfl, saysV_no (fun h => by have := h.1; simp [partsB, qn] at this)⟩, hb0⟩
  cases qc : inB m.ck 0 1000000
  · go_enter Try.func20, Try.ntmps20
    go_wp2_with (first | (go_at_call 65; refine (specName_any m.nm _ hf.n).mono ?_; rintro e w' ⟨rfl, rfl⟩) | (go_at_call 66; refine (specIn_any _ _ _ _).mono ?_; rintro e w' ⟨rfl, rfl⟩))
    go_ret
    exact ⟨⟨false, rfl, saysV_no (fun h => by have := h.1; simp [partsB, qc] at this)⟩, hb0⟩
  cases qs : inB m.se 0 1000000
  · go_enter Try.func20, Try.ntmps20
    go_wp2_with (first | (go_at_call 65; refine (specName_any m.nm _ hf.n).mono ?_; rintro e w' ⟨rfl, rfl⟩) | (go_at_call 66; refine (specIn_any _ _ _ _).mono ?_; rintro e w' ⟨rfl, rfl⟩))
    go_ret
    exact ⟨⟨false, rfl, saysV_no (fun h => by have := h.1; simp [partsB, qs] at this)⟩, hb0⟩
  have Hp : Hid (partsB m = true) := by show partsB m = true; simp [partsB, qn, qc, qs]
  have HL : Hid _ := L0
  have Hb0 : Hid _ := hb0
  clear L0 hb0
  go_enter Try.func20, Try.ntmps20
  go_wp2_with (first | (go_at_call 65; refine (specName_any m.nm _ hf.n).mono ?_; rintro e w' ⟨rfl, rfl⟩) | (go_at_call 66; refine (specIn_any _ _ _ _).mono ?_; rintro e w' ⟨rfl, rfl⟩))
  refine (W.specWantsOk_gv a1 _ m.ws _ HL.out.r1 hf.f1 hf.k1).mono ?_
  rintro e w1 ⟨⟨q1, rfl, h1⟩, c1⟩
  have H1 : Hid _ := h1
  clear h1
  have k1 := box_keep c1
  cases q1
  · have C1 : Hid _ := bl_trans Hb0.out c1
    clear c1
    go_wp2
    go_ret
    exact ⟨⟨false, rfl, saysV_no (fun h => by have := H1.out.2 h.2.1.1; cases this)⟩, C1.out⟩
  have G1 : Hid (WantsSay m) := H1.out.1 rfl
  clear H1
  have L1 := HL.out.keep c1
  have HL1 : Hid _ := L1
  have C1 : Hid _ := c1
  clear c1 L1
  by_cases hkn : m.kn = false ∧ 0 < m.ws.length
  · obtain ⟨g1, g2⟩ := hkn
    have g3 : (0 : Int) < (m.ws.length : Int) := by omega
    go_wp2
    go_ret
    exact ⟨⟨false, rfl, saysV_no (fun h => kn_no g1 g2 h.2.1.2)⟩, bl_trans Hb0.out C1.out⟩
  have Hk : Hid (m.kn = true ∨ m.ws.length = 0) := kn_yes hkn
  clear hkn
  rcases kn_part Hk.out with ⟨hk, hw0⟩ | hk
  · go_wp2_with fail
    refine (specRunsOk_gv a2 _ m.rs m.ck _ HL1.out.r2 hf.f2 hf.k2).mono ?_
    rintro e w2 ⟨⟨q2, rfl, h2⟩, c2⟩
    have H2 : Hid _ := h2
    have C2 : Hid _ := bl_trans C1.out c2
    have k2 := box_keep C2.out
    clear k1 h2 c2
    cases q2
    · go_wp2
      go_ret
      exact ⟨⟨false, rfl, saysV_no (fun h => by have := H2.out.2 h.2.2.1; cases this)⟩, bl_trans Hb0.out C2.out⟩
    have G2 : Hid (RunsSay m) := H2.out.1 rfl
    clear H2
    have HL2 : Hid _ := HL.out.keep C2.out
    go_wp2_with fail
    refine (A.specAsksOk_gv a3 _ m.qs m.ck _ HL2.out.r3 hf.f3 hf.k3).mono ?_
    rintro e w3 ⟨⟨q3, rfl, h3⟩, c3⟩
    have H3 : Hid _ := h3
    have C3 : Hid _ := bl_trans C2.out c3
    have k3 := box_keep C3.out
    clear k2 h3 c3
    cases q3
    · go_wp2
      go_ret
      exact ⟨⟨false, rfl, saysV_no (fun h => by have := H3.out.2 h.2.2.2.1.1; cases this)⟩, bl_trans Hb0.out C3.out⟩
    have G3 : Hid (AskSay m.ck m.qs) := H3.out.1 rfl
    clear H3
    have HL3 : Hid _ := HL.out.keep C3.out
    go_wp2_with fail
    refine (A.specAsksOk_gv a4 _ m.gs m.ck _ HL3.out.r4 hf.f4 hf.k4).mono ?_
    rintro e w4 ⟨⟨q4, rfl, h4⟩, c4⟩
    have H4 : Hid _ := h4
    have C4 : Hid _ := bl_trans C3.out c4
    have k4 := box_keep C4.out
    clear k3 h4 c4
    cases q4
    · go_wp2
      go_ret
      exact ⟨⟨false, rfl, saysV_no (fun h => by have := H4.out.2 h.2.2.2.1.2; cases this)⟩, bl_trans Hb0.out C4.out⟩
    have G4 : Hid (AskSay m.ck m.gs) := H4.out.1 rfl
    clear H4
    have HL4 : Hid _ := HL.out.keep C4.out
    have hk3 := hf.k3
    have hk4 := hf.k4
    go_wp2
    clear k4
    go_loopw [3] (fun i wx => ∃ (k : Nat), k ≤ m.qs.length ∧ i = .int .i64 k ∧ Hid (∀ j r, j < k → m.qs[j]? = some r → ¬ A.HasA m.gs r.h) ∧ Hid (Below (w.alloc (.cells #[.string m.nm, .bool m.up, .int .i64 m.ck, .bool m.kn, .int .i64 m.se, .slice a1 m.ws.length n1, .slice a2 m.rs.length n2, .slice a3 m.qs.length n3, .slice a4 m.gs.length n4] 27)).heap.size (w.alloc (.cells #[.string m.nm, .bool m.up, .int .i64 m.ck, .bool m.kn, .int .i64 m.se, .slice a1 m.ws.length n1, .slice a2 m.rs.length n2, .slice a3 m.qs.length n3, .slice a4 m.gs.length n4] 27)) wx)) (fun i _ => m.qs.length - (intOf i).toNat)
    case atStart => exact ⟨0, Nat.zero_le _, rfl, fun j r hj _ => by omega, C4.out⟩
    case round =>
      obtain ⟨k, hkk, rfl, Ha, HB⟩ := hrel
      have kb := box_keep HB.out
      by_cases hlt : k < m.qs.length
      · obtain ⟨r, hr⟩ : ∃ r, m.qs[k]? = some r := ⟨m.qs[k], List.getElem?_eq_getElem hlt⟩
        have Hr : Hid _ := hr
        have HLx : Hid _ := HL.out.keep HB.out
        obtain ⟨b3, hb3, z3, hR3⟩ := HLx.out.r3.resolve_left (fun h => by rw [h] at hlt; simp at hlt)
        subst hb3
        obtain ⟨c0, -⟩ := hR3.at hr
        simp only [Nat.zero_add] at c0
        clear hr
        have i0 : (0 : Int) ≤ (k : Int) := by omega
        have i1 : (k : Int) < (m.qs.length : Int) := by omega
        by_cases ha : 0 ≤ A.askAt m.gs r.h
        · go_wp2_with fail
          go_quiet (first | (go_at_call 68; refine Calls.quiet_of_same (A.specAsk_gv a4 _ m.gs r.h _ HLx.out.r4 hf.k4)))
          go_wp2
          go_ret
          exact ⟨⟨false, rfl, saysV_no (fun h => h.2.2.2.2.1 r (List.mem_of_getElem? Hr.out) ((A.askAt_has _ _).1 ha))⟩, drewN_top (bl_trans Hb0.out HB.out)⟩
        · have ha' : A.askAt m.gs r.h < 0 := by omega
          go_wp2_with fail
          go_quiet (first | (go_at_call 68; refine Calls.quiet_of_same (A.specAsk_gv a4 _ m.gs r.h _ HLx.out.r4 hf.k4)))
          go_wp2
          exact ⟨⟨k + 1, by omega, by go_num, none_step Ha.out Hr.out (fun h => by have := (A.askAt_has _ _).2 h; omega), drewN_top HB.out⟩, by simp [intOf]; omega⟩
      · have ek : k = m.qs.length := by omega
        subst ek
        have G5 : Hid (∀ r ∈ m.qs, ¬ A.HasA m.gs r.h) := none_all Ha.out
        cases hu : m.up
        · have hk2 := hf.k2
          go_wp2
          clear kb
          go_loopw [4] (fun i wx => ∃ (k : Nat), k ≤ m.rs.length ∧ i = .int .i64 k ∧ Hid (∀ j r, j < k → m.rs[j]? = some r → heldB r = true) ∧ Hid (Below (w.alloc (.cells #[.string m.nm, .bool m.up, .int .i64 m.ck, .bool m.kn, .int .i64 m.se, .slice a1 m.ws.length n1, .slice a2 m.rs.length n2, .slice a3 m.qs.length n3, .slice a4 m.gs.length n4] 27)).heap.size (w.alloc (.cells #[.string m.nm, .bool m.up, .int .i64 m.ck, .bool m.kn, .int .i64 m.se, .slice a1 m.ws.length n1, .slice a2 m.rs.length n2, .slice a3 m.qs.length n3, .slice a4 m.gs.length n4] 27)) wx)) (fun i _ => m.rs.length - (intOf i).toNat)
          case atStart => exact ⟨0, Nat.zero_le _, rfl, fun j r hj _ => by omega, HB.out⟩
          case round =>
            clear HB Ha
            obtain ⟨k, hkk, rfl, Ha, HB⟩ := hrel
            have kb := box_keep HB.out
            have lb : w.heap.size < wr.heap.size := by have := HB.out.size; simp at this; omega
            by_cases hlt : k < m.rs.length
            · obtain ⟨r, hr⟩ : ∃ r, m.rs[k]? = some r := ⟨m.rs[k], List.getElem?_eq_getElem hlt⟩
              have Hr : Hid _ := hr
              have HLx : Hid _ := HL.out.keep HB.out
              obtain ⟨b2, hb2, bz, hR2⟩ := HLx.out.r2.resolve_left (fun h => by rw [h] at hlt; simp at hlt)
              subst hb2
              obtain ⟨c0, c1, c2, c3, c4, c5, c6, c7, c8, c9, c10⟩ := hR2.at hr
              simp only [Nat.zero_add] at c0 c1 c2 c3 c4 c5 c6 c7 c8 c9 c10
              clear hr
              have i0 : (0 : Int) ≤ (k : Int) := by omega
              have i1 : (k : Int) < (m.rs.length : Int) := by omega
              cases hal : aliveB r.a
              · cases he : r.h.toList.isEmpty
                · go_wp2_with (go_at_call 22; refine (specAlive_x r.c r.h r.v r.p r.s r.d r.g r.a r.b r.i r.u _).mono ?_; rintro e w' ⟨rfl, rfl⟩)
                  exact ⟨⟨k + 1, by omega, by go_num, each_step Ha.out Hr.out (by simp [heldB, hal, he]), (by repeat (first | exact HB.out | refine bl_alloc ?_ _))⟩, by simp [intOf]; omega⟩
                · go_wp2_with (go_at_call 22; refine (specAlive_x r.c r.h r.v r.p r.s r.d r.g r.a r.b r.i r.u _).mono ?_; rintro e w' ⟨rfl, rfl⟩)
                  go_ret
                  exact ⟨⟨false, rfl, saysV_no (fun h => held_at Hr.out (by simp [heldB, hal, he]) h hu)⟩, bl_trans Hb0.out (by repeat (first | exact HB.out | refine bl_alloc ?_ _))⟩
              · go_wp2_with (go_at_call 22; refine (specAlive_x r.c r.h r.v r.p r.s r.d r.g r.a r.b r.i r.u _).mono ?_; rintro e w' ⟨rfl, rfl⟩)
                exact ⟨⟨k + 1, by omega, by go_num, each_step Ha.out Hr.out (by simp [heldB, hal]), (by repeat (first | exact HB.out | refine bl_alloc ?_ _))⟩, by simp [intOf]; omega⟩
            · have ek : k = m.rs.length := by omega
              subst ek
              have G6 : Hid (∀ r ∈ m.rs, heldB r = true) := each_all Ha.out
              go_wp2
              go_ret
              exact ⟨⟨false, rfl, saysV_no (fun h => by have := (down_of h hu).1; rw [hk] at this; cases this)⟩, bl_trans Hb0.out HB.out⟩
        · go_wp2
          go_ret
          exact ⟨⟨true, rfl, ⟨fun _ => ⟨Hp.out, ⟨G1.out, Hk.out⟩, G2.out, ⟨G3.out, G4.out⟩, G5.out, Or.inl hu⟩, fun _ => rfl⟩⟩, bl_trans Hb0.out HB.out⟩
  · go_wp2_with fail
    refine (specRunsOk_gv a2 _ m.rs m.ck _ HL1.out.r2 hf.f2 hf.k2).mono ?_
    rintro e w2 ⟨⟨q2, rfl, h2⟩, c2⟩
    have H2 : Hid _ := h2
    have C2 : Hid _ := bl_trans C1.out c2
    have k2 := box_keep C2.out
    clear k1 h2 c2
    cases q2
    · go_wp2
      go_ret
      exact ⟨⟨false, rfl, saysV_no (fun h => by have := H2.out.2 h.2.2.1; cases this)⟩, bl_trans Hb0.out C2.out⟩
    have G2 : Hid (RunsSay m) := H2.out.1 rfl
    clear H2
    have HL2 : Hid _ := HL.out.keep C2.out
    go_wp2_with fail
    refine (A.specAsksOk_gv a3 _ m.qs m.ck _ HL2.out.r3 hf.f3 hf.k3).mono ?_
    rintro e w3 ⟨⟨q3, rfl, h3⟩, c3⟩
    have H3 : Hid _ := h3
    have C3 : Hid _ := bl_trans C2.out c3
    have k3 := box_keep C3.out
    clear k2 h3 c3
    cases q3
    · go_wp2
      go_ret
      exact ⟨⟨false, rfl, saysV_no (fun h => by have := H3.out.2 h.2.2.2.1.1; cases this)⟩, bl_trans Hb0.out C3.out⟩
    have G3 : Hid (AskSay m.ck m.qs) := H3.out.1 rfl
    clear H3
    have HL3 : Hid _ := HL.out.keep C3.out
    go_wp2_with fail
    refine (A.specAsksOk_gv a4 _ m.gs m.ck _ HL3.out.r4 hf.f4 hf.k4).mono ?_
    rintro e w4 ⟨⟨q4, rfl, h4⟩, c4⟩
    have H4 : Hid _ := h4
    have C4 : Hid _ := bl_trans C3.out c4
    have k4 := box_keep C4.out
    clear k3 h4 c4
    cases q4
    · go_wp2
      go_ret
      exact ⟨⟨false, rfl, saysV_no (fun h => by have := H4.out.2 h.2.2.2.1.2; cases this)⟩, bl_trans Hb0.out C4.out⟩
    have G4 : Hid (AskSay m.ck m.gs) := H4.out.1 rfl
    clear H4
    have HL4 : Hid _ := HL.out.keep C4.out
    have hk3 := hf.k3
    have hk4 := hf.k4
    go_wp2
    clear k4
    go_loopw [3] (fun i wx => ∃ (k : Nat), k ≤ m.qs.length ∧ i = .int .i64 k ∧ Hid (∀ j r, j < k → m.qs[j]? = some r → ¬ A.HasA m.gs r.h) ∧ Hid (Below (w.alloc (.cells #[.string m.nm, .bool m.up, .int .i64 m.ck, .bool m.kn, .int .i64 m.se, .slice a1 m.ws.length n1, .slice a2 m.rs.length n2, .slice a3 m.qs.length n3, .slice a4 m.gs.length n4] 27)).heap.size (w.alloc (.cells #[.string m.nm, .bool m.up, .int .i64 m.ck, .bool m.kn, .int .i64 m.se, .slice a1 m.ws.length n1, .slice a2 m.rs.length n2, .slice a3 m.qs.length n3, .slice a4 m.gs.length n4] 27)) wx)) (fun i _ => m.qs.length - (intOf i).toNat)
    case atStart => exact ⟨0, Nat.zero_le _, rfl, fun j r hj _ => by omega, C4.out⟩
    case round =>
      obtain ⟨k, hkk, rfl, Ha, HB⟩ := hrel
      have kb := box_keep HB.out
      by_cases hlt : k < m.qs.length
      · obtain ⟨r, hr⟩ : ∃ r, m.qs[k]? = some r := ⟨m.qs[k], List.getElem?_eq_getElem hlt⟩
        have Hr : Hid _ := hr
        have HLx : Hid _ := HL.out.keep HB.out
        obtain ⟨b3, hb3, z3, hR3⟩ := HLx.out.r3.resolve_left (fun h => by rw [h] at hlt; simp at hlt)
        subst hb3
        obtain ⟨c0, -⟩ := hR3.at hr
        simp only [Nat.zero_add] at c0
        clear hr
        have i0 : (0 : Int) ≤ (k : Int) := by omega
        have i1 : (k : Int) < (m.qs.length : Int) := by omega
        by_cases ha : 0 ≤ A.askAt m.gs r.h
        · go_wp2_with fail
          go_quiet (first | (go_at_call 68; refine Calls.quiet_of_same (A.specAsk_gv a4 _ m.gs r.h _ HLx.out.r4 hf.k4)))
          go_wp2
          go_ret
          exact ⟨⟨false, rfl, saysV_no (fun h => h.2.2.2.2.1 r (List.mem_of_getElem? Hr.out) ((A.askAt_has _ _).1 ha))⟩, drewN_top (bl_trans Hb0.out HB.out)⟩
        · have ha' : A.askAt m.gs r.h < 0 := by omega
          go_wp2_with fail
          go_quiet (first | (go_at_call 68; refine Calls.quiet_of_same (A.specAsk_gv a4 _ m.gs r.h _ HLx.out.r4 hf.k4)))
          go_wp2
          exact ⟨⟨k + 1, by omega, by go_num, none_step Ha.out Hr.out (fun h => by have := (A.askAt_has _ _).2 h; omega), drewN_top HB.out⟩, by simp [intOf]; omega⟩
      · have ek : k = m.qs.length := by omega
        subst ek
        have G5 : Hid (∀ r ∈ m.qs, ¬ A.HasA m.gs r.h) := none_all Ha.out
        cases hu : m.up
        · have hk2 := hf.k2
          go_wp2
          clear kb
          go_loopw [4] (fun i wx => ∃ (k : Nat), k ≤ m.rs.length ∧ i = .int .i64 k ∧ Hid (∀ j r, j < k → m.rs[j]? = some r → heldB r = true) ∧ Hid (Below (w.alloc (.cells #[.string m.nm, .bool m.up, .int .i64 m.ck, .bool m.kn, .int .i64 m.se, .slice a1 m.ws.length n1, .slice a2 m.rs.length n2, .slice a3 m.qs.length n3, .slice a4 m.gs.length n4] 27)).heap.size (w.alloc (.cells #[.string m.nm, .bool m.up, .int .i64 m.ck, .bool m.kn, .int .i64 m.se, .slice a1 m.ws.length n1, .slice a2 m.rs.length n2, .slice a3 m.qs.length n3, .slice a4 m.gs.length n4] 27)) wx)) (fun i _ => m.rs.length - (intOf i).toNat)
          case atStart => exact ⟨0, Nat.zero_le _, rfl, fun j r hj _ => by omega, HB.out⟩
          case round =>
            clear HB Ha
            obtain ⟨k, hkk, rfl, Ha, HB⟩ := hrel
            have kb := box_keep HB.out
            have lb : w.heap.size < wr.heap.size := by have := HB.out.size; simp at this; omega
            by_cases hlt : k < m.rs.length
            · obtain ⟨r, hr⟩ : ∃ r, m.rs[k]? = some r := ⟨m.rs[k], List.getElem?_eq_getElem hlt⟩
              have Hr : Hid _ := hr
              have HLx : Hid _ := HL.out.keep HB.out
              obtain ⟨b2, hb2, bz, hR2⟩ := HLx.out.r2.resolve_left (fun h => by rw [h] at hlt; simp at hlt)
              subst hb2
              obtain ⟨c0, c1, c2, c3, c4, c5, c6, c7, c8, c9, c10⟩ := hR2.at hr
              simp only [Nat.zero_add] at c0 c1 c2 c3 c4 c5 c6 c7 c8 c9 c10
              clear hr
              have i0 : (0 : Int) ≤ (k : Int) := by omega
              have i1 : (k : Int) < (m.rs.length : Int) := by omega
              cases hal : aliveB r.a
              · cases he : r.h.toList.isEmpty
                · go_wp2_with (go_at_call 22; refine (specAlive_x r.c r.h r.v r.p r.s r.d r.g r.a r.b r.i r.u _).mono ?_; rintro e w' ⟨rfl, rfl⟩)
                  exact ⟨⟨k + 1, by omega, by go_num, each_step Ha.out Hr.out (by simp [heldB, hal, he]), (by repeat (first | exact HB.out | refine bl_alloc ?_ _))⟩, by simp [intOf]; omega⟩
                · go_wp2_with (go_at_call 22; refine (specAlive_x r.c r.h r.v r.p r.s r.d r.g r.a r.b r.i r.u _).mono ?_; rintro e w' ⟨rfl, rfl⟩)
                  go_ret
                  exact ⟨⟨false, rfl, saysV_no (fun h => held_at Hr.out (by simp [heldB, hal, he]) h hu)⟩, bl_trans Hb0.out (by repeat (first | exact HB.out | refine bl_alloc ?_ _))⟩
              · go_wp2_with (go_at_call 22; refine (specAlive_x r.c r.h r.v r.p r.s r.d r.g r.a r.b r.i r.u _).mono ?_; rintro e w' ⟨rfl, rfl⟩)
                exact ⟨⟨k + 1, by omega, by go_num, each_step Ha.out Hr.out (by simp [heldB, hal]), (by repeat (first | exact HB.out | refine bl_alloc ?_ _))⟩, by simp [intOf]; omega⟩
            · have ek : k = m.rs.length := by omega
              subst ek
              have G6 : Hid (∀ r ∈ m.rs, heldB r = true) := each_all Ha.out
              cases hkn : m.kn
              · by_cases hse : m.se = 0
                · by_cases hln : m.qs.length + m.gs.length = 0
                  · have hl1 : m.qs.length = 0 := by omega
                    have hl2 : m.gs.length = 0 := by omega
                    have hs' : (m.se == 0) = true := by simp [hse]
                    have Hz : Hid (DownSay m) := ⟨hkn, hse, down_len Hk.out hkn hln, G6.out⟩
                    have HV : Hid (Valid m) := ⟨Hp.out, ⟨G1.out, Hk.out⟩, G2.out, ⟨G3.out, G4.out⟩, G5.out, Or.inr Hz.out⟩
                    clear hse hln
                    go_wp2
                    go_ret
                    exact ⟨⟨true, rfl, ⟨fun _ => HV.out, fun _ => rfl⟩⟩, bl_trans Hb0.out HB.out⟩
                  · have hl1 : ((m.qs.length : Int) + (m.gs.length : Int) == 0) = false := beq_false_of_ne (by omega)
                    have Hln : Hid _ := hln
                    clear hln
                    go_wp2
                    go_ret
                    exact ⟨⟨false, rfl, saysV_no (fun h => Hln.out (by have := (down_of h hu).2.2.1; omega))⟩, bl_trans Hb0.out HB.out⟩
                · have hs' : (m.se == 0) = false := by simp [hse]
                  have Hse : Hid _ := hse
                  clear hse
                  go_wp2
                  go_ret
                  exact ⟨⟨false, rfl, saysV_no (fun h => Hse.out (down_of h hu).2.1)⟩, bl_trans Hb0.out HB.out⟩
              · go_wp2
                go_ret
                exact ⟨⟨false, rfl, saysV_no (fun h => by have := (down_of h hu).1; rw [hkn] at this; cases this)⟩, bl_trans Hb0.out HB.out⟩
        · go_wp2
          go_ret
          exact ⟨⟨true, rfl, ⟨fun _ => ⟨Hp.out, ⟨G1.out, Hk.out⟩, G2.out, ⟨G3.out, G4.out⟩, G5.out, Or.inl hu⟩, fun _ => rfl⟩⟩, bl_trans Hb0.out HB.out⟩
end Go.Proofs.Ytkebokkckmgloaa
/- A mate whose lists are nil, or lie in blocks. -/
namespace Go.Proofs.Ytkebokkckmgloaa
open Go.RowKit
set_option linter.unusedVariables false

theorem W.fresh_src (a : Option Addr) (c : Nat) (l : List W.WantD) (w : World) (h : W.Src w a c l) (hl : l.length ≤ 1048576) :
    Calls Try.prog 126 #[.slice a l.length c] w fun e w' => (∃ v, e = .returned v ∧ W.Sl w' v l w.heap.size) ∧ Below w.heap.size w w' := by
  rcases h with ⟨rfl, rfl, rfl⟩ | ⟨g, rfl, hg, hr⟩
  · obtain ⟨i0, hi, hz0, hz1, hz2⟩ := info_parts W.infoR
    show Calls Try.prog _ #[.slice none 0 0] w _
    go_enter Try.func126, Try.ntmps126
    go_wp2_with (at_builtin; refine wpList_append_own_none rfl _ _ 23 rfl w.heap.size 36 i0 7 Try.underlying23 hi (.slice none 0 0) 0 [] rfl (World.ownsRow_nil _ _ _ _) rfl ?_)
    go_ret
    exact ⟨⟨_, rfl, Or.inl ⟨rfl, rfl⟩⟩, Below.refl _ _⟩
  · exact W.fresh g c l w hr hl
theorem W.Src.gv {w : World} {a : Option Addr} {c : Nat} {l : List W.WantD} (h : W.Src w a c l) : W.Gv w a l := by
  rcases h with ⟨-, -, h⟩ | ⟨g, h1, h2, h3⟩
  · exact Or.inl h
  · exact Or.inr ⟨g, h1, h2, h3⟩
theorem fresh_src (a : Option Addr) (c : Nat) (l : List RunD) (w : World) (h : Src w a c l) (hl : l.length ≤ 1048576) :
    Calls Try.prog 127 #[.slice a l.length c] w fun e w' => (∃ v, e = .returned v ∧ Sl w' v l w.heap.size) ∧ Below w.heap.size w w' := by
  rcases h with ⟨rfl, rfl, rfl⟩ | ⟨g, rfl, hg, hr⟩
  · obtain ⟨i0, hi, hz0, hz1, hz2⟩ := info_parts infoR
    show Calls Try.prog _ #[.slice none 0 0] w _
    go_enter Try.func127, Try.ntmps127
    go_wp2_with (at_builtin; refine wpList_append_own_none rfl _ _ 24 rfl w.heap.size 38 i0 11 Try.underlying24 hi (.slice none 0 0) 0 [] rfl (World.ownsRow_nil _ _ _ _) rfl ?_)
    go_ret
    exact ⟨⟨_, rfl, Or.inl ⟨rfl, rfl⟩⟩, Below.refl _ _⟩
  · exact fresh g c l w hr hl
theorem Src.gv {w : World} {a : Option Addr} {c : Nat} {l : List RunD} (h : Src w a c l) : Gv w a l := by
  rcases h with ⟨-, -, h⟩ | ⟨g, h1, h2, h3⟩
  · exact Or.inl h
  · exact Or.inr ⟨g, h1, h2, h3⟩
theorem A.fresh_src (a : Option Addr) (c : Nat) (l : List A.AskD) (w : World) (h : A.Src w a c l) (hl : l.length ≤ 1048576) :
    Calls Try.prog 128 #[.slice a l.length c] w fun e w' => (∃ v, e = .returned v ∧ A.Sl w' v l w.heap.size) ∧ Below w.heap.size w w' := by
  rcases h with ⟨rfl, rfl, rfl⟩ | ⟨g, rfl, hg, hr⟩
  · obtain ⟨i0, hi, hz0, hz1, hz2⟩ := info_parts A.infoR
    show Calls Try.prog _ #[.slice none 0 0] w _
    go_enter Try.func128, Try.ntmps128
    go_wp2_with (at_builtin; refine wpList_append_own_none rfl _ _ 25 rfl w.heap.size 99 i0 4 Try.underlying25 hi (.slice none 0 0) 0 [] rfl (World.ownsRow_nil _ _ _ _) rfl ?_)
    go_ret
    exact ⟨⟨_, rfl, Or.inl ⟨rfl, rfl⟩⟩, Below.refl _ _⟩
  · exact A.fresh g c l w hr hl
theorem A.Src.gv {w : World} {a : Option Addr} {c : Nat} {l : List A.AskD} (h : A.Src w a c l) : A.Gv w a l := by
  rcases h with ⟨-, -, h⟩ | ⟨g, h1, h2, h3⟩
  · exact Or.inl h
  · exact Or.inr ⟨g, h1, h2, h3⟩
structure SrcM (w : World) (m : MateD) (x1 x2 x3 x4 : Option Addr) (n1 n2 n3 n4 : Nat) : Prop where
  r1 : W.Src w x1 n1 m.ws
  r2 : Src w x2 n2 m.rs
  r3 : A.Src w x3 n3 m.qs
  r4 : A.Src w x4 n4 m.gs
  cap : m.ws.length ≤ n1
theorem SrcM.keep {w w' : World} {m : MateD} {x1 x2 x3 x4 : Option Addr} {n1 n2 n3 n4 : Nat} (h : SrcM w m x1 x2 x3 x4 n1 n2 n3 n4) (hB : Below w.heap.size w w') : SrcM w' m x1 x2 x3 x4 n1 n2 n3 n4 := ⟨h.r1.keep hB, h.r2.keep hB, h.r3.keep hB, h.r4.keep hB, h.cap⟩
theorem SrcM.lists {w : World} {m : MateD} {x1 x2 x3 x4 : Option Addr} {n1 n2 n3 n4 : Nat} (h : SrcM w m x1 x2 x3 x4 n1 n2 n3 n4) : ListsX w m x1 x2 x3 x4 := ⟨h.r1.gv, h.r2.gv, h.r3.gv, h.r4.gv⟩
end Go.Proofs.Ytkebokkckmgloaa
/- What a run answers that is told, or waits. -/
namespace Go.Proofs.Ytkebokkckmgloaa
open Go.RowKit
set_option linter.unusedVariables false

theorem told_any (c h : ByteArray) (v p s d g a b i u : Int) (w : World) :
    Calls Try.prog 82 #[.agg #[.string c, .int .i64 v, .string h, .int .i64 p, .int .i64 s, .int .i64 d, .int .i64 g, .int .i64 a, .int .i64 b, .int .i64 i, .int .i64 u]] w fun e w' => e = .returned (.agg #[.string c, .int .i64 v, .string h, .int .i64 p, .int .i64 s, .int .i64 d, .int .i64 g, .int .i64 a, .int .i64 b, .int .i64 i, .int .i64 u]) ∧ w' = (w.alloc (.cells #[.string c, .int .i64 v, .string h, .int .i64 p, .int .i64 s, .int .i64 d, .int .i64 g, .int .i64 a, .int .i64 b, .int .i64 i, .int .i64 u] 108)).alloc (.cells #[.string c, .int .i64 v, .string h, .int .i64 p, .int .i64 s, .int .i64 d, .int .i64 g, .int .i64 a, .int .i64 b, .int .i64 i, .int .i64 u] 38) := by
  go_enter Try.func82, Try.ntmps82
  go_wp2
  exact bodyPost_ret (v := .agg #[.string c, .int .i64 v, .string h, .int .i64 p, .int .i64 s, .int .i64 d, .int .i64 g, .int .i64 a, .int .i64 b, .int .i64 i, .int .i64 u]) (by simp [results, Try.results82, go_sem]) rfl ⟨rfl, rfl⟩

theorem waiting_any (c h : ByteArray) (v p s d g a b i u : Int) (w : World) :
    Calls Try.prog 149 #[.agg #[.string c, .int .i64 v, .string h, .int .i64 p, .int .i64 s, .int .i64 d, .int .i64 g, .int .i64 a, .int .i64 b, .int .i64 i, .int .i64 u]] w fun e w' => e = .returned (.agg #[.string c, .int .i64 v, .string h, .int .i64 p, .int .i64 s, .int .i64 d, .int .i64 g, .int .i64 2, .int .i64 0, .int .i64 i, .int .i64 u]) ∧ w' = (w.alloc (.cells #[.string c, .int .i64 v, .string h, .int .i64 p, .int .i64 s, .int .i64 d, .int .i64 g, .int .i64 2, .int .i64 0, .int .i64 i, .int .i64 u] 108)).alloc (.cells #[.string c, .int .i64 v, .string h, .int .i64 p, .int .i64 s, .int .i64 d, .int .i64 g, .int .i64 2, .int .i64 0, .int .i64 i, .int .i64 u] 108) := by
  go_enter Try.func149, Try.ntmps149
  go_wp2
  exact bodyPost_ret (v := .agg #[.string c, .int .i64 v, .string h, .int .i64 p, .int .i64 s, .int .i64 d, .int .i64 g, .int .i64 2, .int .i64 0, .int .i64 i, .int .i64 u]) (by simp [results, Try.results149, go_sem]) rfl ⟨rfl, rfl⟩
end Go.Proofs.Ytkebokkckmgloaa
/- filter and killed: what a fall leaves of runs. -/
namespace Go.Proofs.Ytkebokkckmgloaa
open Go.RowKit
set_option linter.unusedVariables false

theorem holds_any (r : RunD) (w : World) :
    Calls Try.prog 125 #[.agg #[.string r.c, .int .i64 r.v, .string r.h, .int .i64 r.p, .int .i64 r.s, .int .i64 r.d, .int .i64 r.g, .int .i64 r.a, .int .i64 r.b, .int .i64 r.i, .int .i64 r.u]] w fun e w' => e = .returned (.bool (!r.h.toList.isEmpty)) ∧ Below w.heap.size w w' := by
  cases hh : r.h.toList.isEmpty
  · go_enter Try.func125, Try.ntmps125
    go_wp2
    go_ret
    exact ⟨rfl, by repeat (first | exact Below.refl _ _ | refine bl_alloc ?_ _)⟩
  · go_enter Try.func125, Try.ntmps125
    go_wp2
    go_ret
    exact ⟨rfl, by repeat (first | exact Below.refl _ _ | refine bl_alloc ?_ _)⟩
end Go.Proofs.Ytkebokkckmgloaa
