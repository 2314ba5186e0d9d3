import Derived.Test.YtkebokkckmgloaaJ13
import Derived.Test.YtkebokkckmgloaaJ15
import Derived.Test.YtkebokkckmgloaaJ14
import Derived.Test.YtkebokkckmgloaaJ06
import Derived.Test.YtkebokkckmgloaaJ07
/- MateValid: the specification's side. -/
namespace Go.Proofs.Ytkebokkckmgloaa
open Go.RowKit
set_option linter.unusedVariables false

def SaysV (q : Bool) (m : MateD) : Prop := q = true ↔ Valid m
theorem saysV_no {m : MateD} (h : Valid m → False) : SaysV false m := ⟨fun h' => (by cases h'), fun h' => (h h').elim⟩
theorem kn_no {k : Bool} {n : Nat} (h1 : k = false) (h2 : 0 < n) (h : k = true ∨ n = 0) : False := by
  rcases h with h | h
  · rw [h1] at h; cases h
  · omega
theorem kn_yes {k : Bool} {n : Nat} (h : ¬ (k = false ∧ 0 < n)) : k = true ∨ n = 0 := by
  cases hk : k
  · exact Or.inr (Nat.eq_zero_of_not_pos (fun h' => h ⟨hk, h'⟩))
  · exact Or.inl rfl
theorem kn_part {k : Bool} {n : Nat} (h : k = true ∨ n = 0) : (k = true ∧ (0 : Int) < (n : Int)) ∨ n = 0 := by
  rcases Nat.eq_zero_or_pos n with h' | h'
  · exact Or.inr h'
  · rcases h with h | h
    · exact Or.inl ⟨h, by omega⟩
    · omega
theorem none_step {qs gs : List A.AskD} {k : Nat} {r : A.AskD} (h : ∀ j r, j < k → qs[j]? = some r → ¬ A.HasA gs r.h) (hr : qs[k]? = some r) (hn : ¬ A.HasA gs r.h) : ∀ j r, j < k + 1 → qs[j]? = some r → ¬ A.HasA gs r.h := by
  intro j q hj hq
  by_cases e : j = k
  · subst e; rw [hr] at hq; cases hq; exact hn
  · exact h j q (by omega) hq
theorem none_all {qs gs : List A.AskD} (h : ∀ j r, j < qs.length → qs[j]? = some r → ¬ A.HasA gs r.h) : ∀ r ∈ qs, ¬ A.HasA gs r.h := by
  intro r hr
  obtain ⟨j, hj⟩ := List.getElem?_of_mem hr
  exact h j r (List.getElem?_eq_some_iff.1 hj).1 hj
theorem each_step {rs : List RunD} {k : Nat} {r : RunD} (h : ∀ j r, j < k → rs[j]? = some r → heldB r = true) (hr : rs[k]? = some r) (hn : heldB r = true) : ∀ j r, j < k + 1 → rs[j]? = some r → heldB r = true := by
  intro j q hj hq
  by_cases e : j = k
  · subst e; rw [hr] at hq; cases hq; exact hn
  · exact h j q (by omega) hq
theorem each_all {rs : List RunD} (h : ∀ j r, j < rs.length → rs[j]? = some r → heldB r = true) : ∀ r ∈ rs, heldB r = true := by
  intro r hr
  obtain ⟨j, hj⟩ := List.getElem?_of_mem hr
  exact h j r (List.getElem?_eq_some_iff.1 hj).1 hj
theorem drewN_top {B : Nat} {w w' : World} (h : Below B w w') {n : Nat} : Below B w (w'.drewN n) := ⟨h.os, h.tape, h.output, h.size, h.block⟩
theorem down_of {m : MateD} (h : Valid m) (hu : m.up = false) : DownSay m := by
  rcases h.2.2.2.2.2 with h' | h'
  · rw [hu] at h'; cases h'
  · exact h'
theorem down_len {k : Bool} {a b c : Nat} (h : k = true ∨ a = 0) (hk : k = false) (hl : b + c = 0) : a + b + c = 0 := by
  rcases h with h | h
  · rw [hk] at h; cases h
  · omega
theorem held_at {m : MateD} {k : Nat} {r : RunD} (hr : m.rs[k]? = some r) (hh : heldB r = false) (h : Valid m) (hu : m.up = false) : False := by
  have := (down_of h hu).2.2.2 r (List.mem_of_getElem? hr); rw [hh] at this; cases this

set_option maxRecDepth 4000 in
set_option maxHeartbeats 8000000 in
theorem specValid (m : MateD) (b1 b2 b3 b4 : Nat) (w : World) (hL : Lists w m b1 b2 b3 b4) (hf : m.fits) :
    Calls Try.prog 20 #[.agg #[.string m.nm, .bool m.up, .int .i64 m.ck, .bool m.kn, .int .i64 m.se, .slice (some ⟨b1, 0, none⟩) m.ws.length m.ws.length, .slice (some ⟨b2, 0, none⟩) m.rs.length m.rs.length, .slice (some ⟨b3, 0, none⟩) m.qs.length m.qs.length, .slice (some ⟨b4, 0, none⟩) m.gs.length m.gs.length]] w fun e w' => (∃ q : Bool, e = .returned (.bool q) ∧ SaysV q m) ∧ Below w.heap.size w w' := by
  have hb0 : Below w.heap.size w (w.alloc (.cells #[.string m.nm, .bool m.up, .int .i64 m.ck, .bool m.kn, .int .i64 m.se, .slice (some ⟨b1, 0, none⟩) m.ws.length m.ws.length, .slice (some ⟨b2, 0, none⟩) m.rs.length m.rs.length, .slice (some ⟨b3, 0, none⟩) m.qs.length m.qs.length, .slice (some ⟨b4, 0, none⟩) m.gs.length m.gs.length] 27)) := bl_alloc (Below.refl _ _) _
  have L0 := hL.keep hb0
  cases qn : nameB m.nm
  · go_enter Try.func20, Try.ntmps20
    go_wp2_with (first | (go_at_call 65; refine (specName_any m.nm _ hf.n).mono ?_; rintro e w' ⟨rfl, rfl⟩) | (go_at_call 66; refine (specIn_any _ _ _ _).mono ?_; rintro e w' ⟨rfl, rfl⟩))
    go_ret
    exact ⟨⟨false, rfl, saysV_no (fun h => by have := h.1; simp [partsB, qn] at this)⟩, hb0⟩
  cases qc : inB m.ck 0 1000000
  · go_enter Try.func20, Try.ntmps20
    go_wp2_with (first | (go_at_call 65; refine (specName_any m.nm _ hf.n).mono ?_; rintro e w' ⟨rfl, rfl⟩) | (go_at_call 66; refine (specIn_any _ _ _ _).mono ?_; rintro e w' ⟨rfl, rfl⟩))
    go_ret
    exact ⟨⟨false, rfl, saysV_no (fun h => by have := h.1; simp [partsB, qc] at this)⟩, hb0⟩
  cases qs : inB m.se 0 1000000
  · go_enter Try.func20, Try.ntmps20
    go_wp2_with (first | (go_at_call 65; refine (specName_any m.nm _ hf.n).mono ?_; rintro e w' ⟨rfl, rfl⟩) | (go_at_call 66; refine (specIn_any _ _ _ _).mono ?_; rintro e w' ⟨rfl, rfl⟩))
    go_ret
    exact ⟨⟨false, rfl, saysV_no (fun h => by have := h.1; simp [partsB, qs] at this)⟩, hb0⟩
  have Hp : Hid (partsB m = true) := by show partsB m = true; simp [partsB, qn, qc, qs]
  have HL : Hid _ := L0
  have Hb0 : Hid _ := hb0
  clear L0 hb0
  go_enter Try.func20, Try.ntmps20
  go_wp2_with (first | (go_at_call 65; refine (specName_any m.nm _ hf.n).mono ?_; rintro e w' ⟨rfl, rfl⟩) | (go_at_call 66; refine (specIn_any _ _ _ _).mono ?_; rintro e w' ⟨rfl, rfl⟩))
  refine (W.specWantsOk b1 0 _ m.ws _ HL.out.r1 HL.out.l1 hf.f1 hf.k1).mono ?_
  rintro e w1 ⟨⟨q1, rfl, h1⟩, c1⟩
  have H1 : Hid _ := h1
  clear h1
  have k1 := box_keep c1
  cases q1
  · have C1 : Hid _ := bl_trans Hb0.out c1
    clear c1
    go_wp2
    go_ret
    exact ⟨⟨false, rfl, saysV_no (fun h => by have := H1.out.2 h.2.1.1; cases this)⟩, C1.out⟩
  have G1 : Hid (WantsSay m) := H1.out.1 rfl
  clear H1
  have L1 := HL.out.keep c1
  have HL1 : Hid _ := L1
  have C1 : Hid _ := c1
  clear c1 L1
  by_cases hkn : m.kn = false ∧ 0 < m.ws.length
  · obtain ⟨g1, g2⟩ := hkn
    have g3 : (0 : Int) < (m.ws.length : Int) := by omega
    go_wp2
    go_ret
    exact ⟨⟨false, rfl, saysV_no (fun h => kn_no g1 g2 h.2.1.2)⟩, bl_trans Hb0.out C1.out⟩
  have Hk : Hid (m.kn = true ∨ m.ws.length = 0) := kn_yes hkn
  clear hkn
  rcases kn_part Hk.out with ⟨hk, hw0⟩ | hk
  · go_wp2_with fail
    refine (specRunsOk b2 0 _ m.rs m.ck _ HL1.out.r2 HL1.out.l2 hf.f2 hf.k2).mono ?_
    rintro e w2 ⟨⟨q2, rfl, h2⟩, c2⟩
    have H2 : Hid _ := h2
    have C2 : Hid _ := bl_trans C1.out c2
    have k2 := box_keep C2.out
    clear k1 h2 c2
    cases q2
    · go_wp2
      go_ret
      exact ⟨⟨false, rfl, saysV_no (fun h => by have := H2.out.2 h.2.2.1; cases this)⟩, bl_trans Hb0.out C2.out⟩
    have G2 : Hid (RunsSay m) := H2.out.1 rfl
    clear H2
    have HL2 : Hid _ := HL.out.keep C2.out
    go_wp2_with fail
    refine (A.specAsksOk b3 0 _ m.qs m.ck _ HL2.out.r3 HL2.out.l3 hf.f3 hf.k3).mono ?_
    rintro e w3 ⟨⟨q3, rfl, h3⟩, c3⟩
    have H3 : Hid _ := h3
    have C3 : Hid _ := bl_trans C2.out c3
    have k3 := box_keep C3.out
    clear k2 h3 c3
    cases q3
    · go_wp2
      go_ret
      exact ⟨⟨false, rfl, saysV_no (fun h => by have := H3.out.2 h.2.2.2.1.1; cases this)⟩, bl_trans Hb0.out C3.out⟩
    have G3 : Hid (AskSay m.ck m.qs) := H3.out.1 rfl
    clear H3
    have HL3 : Hid _ := HL.out.keep C3.out
    go_wp2_with fail
    refine (A.specAsksOk b4 0 _ m.gs m.ck _ HL3.out.r4 HL3.out.l4 hf.f4 hf.k4).mono ?_
    rintro e w4 ⟨⟨q4, rfl, h4⟩, c4⟩
    have H4 : Hid _ := h4
    have C4 : Hid _ := bl_trans C3.out c4
    have k4 := box_keep C4.out
    clear k3 h4 c4
    cases q4
    · go_wp2
      go_ret
      exact ⟨⟨false, rfl, saysV_no (fun h => by have := H4.out.2 h.2.2.2.1.2; cases this)⟩, bl_trans Hb0.out C4.out⟩
    have G4 : Hid (AskSay m.ck m.gs) := H4.out.1 rfl
    clear H4
    have HL4 : Hid _ := HL.out.keep C4.out
    have hk3 := hf.k3
    have hk4 := hf.k4
    go_wp2
    clear k4
    go_loopw [3] (fun i wx => ∃ (k : Nat), k ≤ m.qs.length ∧ i = .int .i64 k ∧ Hid (∀ j r, j < k → m.qs[j]? = some r → ¬ A.HasA m.gs r.h) ∧ Hid (Below (w.alloc (.cells #[.string m.nm, .bool m.up, .int .i64 m.ck, .bool m.kn, .int .i64 m.se, .slice (some ⟨b1, 0, none⟩) m.ws.length m.ws.length, .slice (some ⟨b2, 0, none⟩) m.rs.length m.rs.length, .slice (some ⟨b3, 0, none⟩) m.qs.length m.qs.length, .slice (some ⟨b4, 0, none⟩) m.gs.length m.gs.length] 27)).heap.size (w.alloc (.cells #[.string m.nm, .bool m.up, .int .i64 m.ck, .bool m.kn, .int .i64 m.se, .slice (some ⟨b1, 0, none⟩) m.ws.length m.ws.length, .slice (some ⟨b2, 0, none⟩) m.rs.length m.rs.length, .slice (some ⟨b3, 0, none⟩) m.qs.length m.qs.length, .slice (some ⟨b4, 0, none⟩) m.gs.length m.gs.length] 27)) wx)) (fun i _ => m.qs.length - (intOf i).toNat)
    case atStart => exact ⟨0, Nat.zero_le _, rfl, fun j r hj _ => by omega, C4.out⟩
    case round =>
      obtain ⟨k, hkk, rfl, Ha, HB⟩ := hrel
      have kb := box_keep HB.out
      by_cases hlt : k < m.qs.length
      · obtain ⟨r, hr⟩ : ∃ r, m.qs[k]? = some r := ⟨m.qs[k], List.getElem?_eq_getElem hlt⟩
        have Hr : Hid _ := hr
        have HLx : Hid _ := HL.out.keep HB.out
        obtain ⟨c0, -⟩ := HLx.out.r3.at hr
        simp only [Nat.zero_add] at c0
        clear hr
        have i0 : (0 : Int) ≤ (k : Int) := by omega
        have i1 : (k : Int) < (m.qs.length : Int) := by omega
        by_cases ha : 0 ≤ A.askAt m.gs r.h
        · go_wp2_with fail
          go_quiet (first | (go_at_call 68; refine Calls.quiet_of_same (A.specAsk_x b4 0 _ m.gs r.h _ (fun k r hk j v hj => HLx.out.r4 k r hk j v hj) HLx.out.l4 hf.k4)))
          go_wp2
          go_ret
          exact ⟨⟨false, rfl, saysV_no (fun h => h.2.2.2.2.1 r (List.mem_of_getElem? Hr.out) ((A.askAt_has _ _).1 ha))⟩, drewN_top (bl_trans Hb0.out HB.out)⟩
        · have ha' : A.askAt m.gs r.h < 0 := by omega
          go_wp2_with fail
          go_quiet (first | (go_at_call 68; refine Calls.quiet_of_same (A.specAsk_x b4 0 _ m.gs r.h _ (fun k r hk j v hj => HLx.out.r4 k r hk j v hj) HLx.out.l4 hf.k4)))
          go_wp2
          exact ⟨⟨k + 1, by omega, by go_num, none_step Ha.out Hr.out (fun h => by have := (A.askAt_has _ _).2 h; omega), drewN_top HB.out⟩, by simp [intOf]; omega⟩
      · have ek : k = m.qs.length := by omega
        subst ek
        have G5 : Hid (∀ r ∈ m.qs, ¬ A.HasA m.gs r.h) := none_all Ha.out
        cases hu : m.up
        · have hk2 := hf.k2
          go_wp2
          clear kb
          go_loopw [4] (fun i wx => ∃ (k : Nat), k ≤ m.rs.length ∧ i = .int .i64 k ∧ Hid (∀ j r, j < k → m.rs[j]? = some r → heldB r = true) ∧ Hid (Below (w.alloc (.cells #[.string m.nm, .bool m.up, .int .i64 m.ck, .bool m.kn, .int .i64 m.se, .slice (some ⟨b1, 0, none⟩) m.ws.length m.ws.length, .slice (some ⟨b2, 0, none⟩) m.rs.length m.rs.length, .slice (some ⟨b3, 0, none⟩) m.qs.length m.qs.length, .slice (some ⟨b4, 0, none⟩) m.gs.length m.gs.length] 27)).heap.size (w.alloc (.cells #[.string m.nm, .bool m.up, .int .i64 m.ck, .bool m.kn, .int .i64 m.se, .slice (some ⟨b1, 0, none⟩) m.ws.length m.ws.length, .slice (some ⟨b2, 0, none⟩) m.rs.length m.rs.length, .slice (some ⟨b3, 0, none⟩) m.qs.length m.qs.length, .slice (some ⟨b4, 0, none⟩) m.gs.length m.gs.length] 27)) wx)) (fun i _ => m.rs.length - (intOf i).toNat)
          case atStart => exact ⟨0, Nat.zero_le _, rfl, fun j r hj _ => by omega, HB.out⟩
          case round =>
            clear HB Ha
            obtain ⟨k, hkk, rfl, Ha, HB⟩ := hrel
            have kb := box_keep HB.out
            have lb : w.heap.size < wr.heap.size := by have := HB.out.size; simp at this; omega
            by_cases hlt : k < m.rs.length
            · obtain ⟨r, hr⟩ : ∃ r, m.rs[k]? = some r := ⟨m.rs[k], List.getElem?_eq_getElem hlt⟩
              have Hr : Hid _ := hr
              have HLx : Hid _ := HL.out.keep HB.out
              have bz : b2 < wr.heap.size := HLx.out.l2
              obtain ⟨c0, c1, c2, c3, c4, c5, c6, c7, c8, c9, c10⟩ := HLx.out.r2.at hr
              simp only [Nat.zero_add] at c0 c1 c2 c3 c4 c5 c6 c7 c8 c9 c10
              clear hr
              have i0 : (0 : Int) ≤ (k : Int) := by omega
              have i1 : (k : Int) < (m.rs.length : Int) := by omega
              cases hal : aliveB r.a
              · cases he : r.h.toList.isEmpty
                · go_wp2_with (go_at_call 22; refine (specAlive_x r.c r.h r.v r.p r.s r.d r.g r.a r.b r.i r.u _).mono ?_; rintro e w' ⟨rfl, rfl⟩)
                  exact ⟨⟨k + 1, by omega, by go_num, each_step Ha.out Hr.out (by simp [heldB, hal, he]), (by repeat (first | exact HB.out | refine bl_alloc ?_ _))⟩, by simp [intOf]; omega⟩
                · go_wp2_with (go_at_call 22; refine (specAlive_x r.c r.h r.v r.p r.s r.d r.g r.a r.b r.i r.u _).mono ?_; rintro e w' ⟨rfl, rfl⟩)
                  go_ret
                  exact ⟨⟨false, rfl, saysV_no (fun h => held_at Hr.out (by simp [heldB, hal, he]) h hu)⟩, bl_trans Hb0.out (by repeat (first | exact HB.out | refine bl_alloc ?_ _))⟩
              · go_wp2_with (go_at_call 22; refine (specAlive_x r.c r.h r.v r.p r.s r.d r.g r.a r.b r.i r.u _).mono ?_; rintro e w' ⟨rfl, rfl⟩)
                exact ⟨⟨k + 1, by omega, by go_num, each_step Ha.out Hr.out (by simp [heldB, hal]), (by repeat (first | exact HB.out | refine bl_alloc ?_ _))⟩, by simp [intOf]; omega⟩
            · have ek : k = m.rs.length := by omega
              subst ek
              have G6 : Hid (∀ r ∈ m.rs, heldB r = true) := each_all Ha.out
              go_wp2
              go_ret
              exact ⟨⟨false, rfl, saysV_no (fun h => by have := (down_of h hu).1; rw [hk] at this; cases this)⟩, bl_trans Hb0.out HB.out⟩
        · go_wp2
          go_ret
          exact ⟨⟨true, rfl, ⟨fun _ => ⟨Hp.out, ⟨G1.out, Hk.out⟩, G2.out, ⟨G3.out, G4.out⟩, G5.out, Or.inl hu⟩, fun _ => rfl⟩⟩, bl_trans Hb0.out HB.out⟩
  · go_wp2_with fail
    refine (specRunsOk b2 0 _ m.rs m.ck _ HL1.out.r2 HL1.out.l2 hf.f2 hf.k2).mono ?_
    rintro e w2 ⟨⟨q2, rfl, h2⟩, c2⟩
    have H2 : Hid _ := h2
    have C2 : Hid _ := bl_trans C1.out c2
    have k2 := box_keep C2.out
    clear k1 h2 c2
    cases q2
    · go_wp2
      go_ret
      exact ⟨⟨false, rfl, saysV_no (fun h => by have := H2.out.2 h.2.2.1; cases this)⟩, bl_trans Hb0.out C2.out⟩
    have G2 : Hid (RunsSay m) := H2.out.1 rfl
    clear H2
    have HL2 : Hid _ := HL.out.keep C2.out
    go_wp2_with fail
    refine (A.specAsksOk b3 0 _ m.qs m.ck _ HL2.out.r3 HL2.out.l3 hf.f3 hf.k3).mono ?_
    rintro e w3 ⟨⟨q3, rfl, h3⟩, c3⟩
    have H3 : Hid _ := h3
    have C3 : Hid _ := bl_trans C2.out c3
    have k3 := box_keep C3.out
    clear k2 h3 c3
    cases q3
    · go_wp2
      go_ret
      exact ⟨⟨false, rfl, saysV_no (fun h => by have := H3.out.2 h.2.2.2.1.1; cases this)⟩, bl_trans Hb0.out C3.out⟩
    have G3 : Hid (AskSay m.ck m.qs) := H3.out.1 rfl
    clear H3
    have HL3 : Hid _ := HL.out.keep C3.out
    go_wp2_with fail
    refine (A.specAsksOk b4 0 _ m.gs m.ck _ HL3.out.r4 HL3.out.l4 hf.f4 hf.k4).mono ?_
    rintro e w4 ⟨⟨q4, rfl, h4⟩, c4⟩
    have H4 : Hid _ := h4
    have C4 : Hid _ := bl_trans C3.out c4
    have k4 := box_keep C4.out
    clear k3 h4 c4
    cases q4
    · go_wp2
      go_ret
      exact ⟨⟨false, rfl, saysV_no (fun h => by have := H4.out.2 h.2.2.2.1.2; cases this)⟩, bl_trans Hb0.out C4.out⟩
    have G4 : Hid (AskSay m.ck m.gs) := H4.out.1 rfl
    clear H4
    have HL4 : Hid _ := HL.out.keep C4.out
    have hk3 := hf.k3
    have hk4 := hf.k4
    go_wp2
    clear k4
    go_loopw [3] (fun i wx => ∃ (k : Nat), k ≤ m.qs.length ∧ i = .int .i64 k ∧ Hid (∀ j r, j < k → m.qs[j]? = some r → ¬ A.HasA m.gs r.h) ∧ Hid (Below (w.alloc (.cells #[.string m.nm, .bool m.up, .int .i64 m.ck, .bool m.kn, .int .i64 m.se, .slice (some ⟨b1, 0, none⟩) m.ws.length m.ws.length, .slice (some ⟨b2, 0, none⟩) m.rs.length m.rs.length, .slice (some ⟨b3, 0, none⟩) m.qs.length m.qs.length, .slice (some ⟨b4, 0, none⟩) m.gs.length m.gs.length] 27)).heap.size (w.alloc (.cells #[.string m.nm, .bool m.up, .int .i64 m.ck, .bool m.kn, .int .i64 m.se, .slice (some ⟨b1, 0, none⟩) m.ws.length m.ws.length, .slice (some ⟨b2, 0, none⟩) m.rs.length m.rs.length, .slice (some ⟨b3, 0, none⟩) m.qs.length m.qs.length, .slice (some ⟨b4, 0, none⟩) m.gs.length m.gs.length] 27)) wx)) (fun i _ => m.qs.length - (intOf i).toNat)
    case atStart => exact ⟨0, Nat.zero_le _, rfl, fun j r hj _ => by omega, C4.out⟩
    case round =>
      obtain ⟨k, hkk, rfl, Ha, HB⟩ := hrel
      have kb := box_keep HB.out
      by_cases hlt : k < m.qs.length
      · obtain ⟨r, hr⟩ : ∃ r, m.qs[k]? = some r := ⟨m.qs[k], List.getElem?_eq_getElem hlt⟩
        have Hr : Hid _ := hr
        have HLx : Hid _ := HL.out.keep HB.out
        obtain ⟨c0, -⟩ := HLx.out.r3.at hr
        simp only [Nat.zero_add] at c0
        clear hr
        have i0 : (0 : Int) ≤ (k : Int) := by omega
        have i1 : (k : Int) < (m.qs.length : Int) := by omega
        by_cases ha : 0 ≤ A.askAt m.gs r.h
        · go_wp2_with fail
          go_quiet (first | (go_at_call 68; refine Calls.quiet_of_same (A.specAsk_x b4 0 _ m.gs r.h _ (fun k r hk j v hj => HLx.out.r4 k r hk j v hj) HLx.out.l4 hf.k4)))
          go_wp2
          go_ret
          exact ⟨⟨false, rfl, saysV_no (fun h => h.2.2.2.2.1 r (List.mem_of_getElem? Hr.out) ((A.askAt_has _ _).1 ha))⟩, drewN_top (bl_trans Hb0.out HB.out)⟩
        · have ha' : A.askAt m.gs r.h < 0 := by omega
          go_wp2_with fail
          go_quiet (first | (go_at_call 68; refine Calls.quiet_of_same (A.specAsk_x b4 0 _ m.gs r.h _ (fun k r hk j v hj => HLx.out.r4 k r hk j v hj) HLx.out.l4 hf.k4)))
          go_wp2
          exact ⟨⟨k + 1, by omega, by go_num, none_step Ha.out Hr.out (fun h => by have := (A.askAt_has _ _).2 h; omega), drewN_top HB.out⟩, by simp [intOf]; omega⟩
      · have ek : k = m.qs.length := by omega
        subst ek
        have G5 : Hid (∀ r ∈ m.qs, ¬ A.HasA m.gs r.h) := none_all Ha.out
        cases hu : m.up
        · have hk2 := hf.k2
          go_wp2
          clear kb
          go_loopw [4] (fun i wx => ∃ (k : Nat), k ≤ m.rs.length ∧ i = .int .i64 k ∧ Hid (∀ j r, j < k → m.rs[j]? = some r → heldB r = true) ∧ Hid (Below (w.alloc (.cells #[.string m.nm, .bool m.up, .int .i64 m.ck, .bool m.kn, .int .i64 m.se, .slice (some ⟨b1, 0, none⟩) m.ws.length m.ws.length, .slice (some ⟨b2, 0, none⟩) m.rs.length m.rs.length, .slice (some ⟨b3, 0, none⟩) m.qs.length m.qs.length, .slice (some ⟨b4, 0, none⟩) m.gs.length m.gs.length] 27)).heap.size (w.alloc (.cells #[.string m.nm, .bool m.up, .int .i64 m.ck, .bool m.kn, .int .i64 m.se, .slice (some ⟨b1, 0, none⟩) m.ws.length m.ws.length, .slice (some ⟨b2, 0, none⟩) m.rs.length m.rs.length, .slice (some ⟨b3, 0, none⟩) m.qs.length m.qs.length, .slice (some ⟨b4, 0, none⟩) m.gs.length m.gs.length] 27)) wx)) (fun i _ => m.rs.length - (intOf i).toNat)
          case atStart => exact ⟨0, Nat.zero_le _, rfl, fun j r hj _ => by omega, HB.out⟩
          case round =>
            clear HB Ha
            obtain ⟨k, hkk, rfl, Ha, HB⟩ := hrel
            have kb := box_keep HB.out
            have lb : w.heap.size < wr.heap.size := by have := HB.out.size; simp at this; omega
            by_cases hlt : k < m.rs.length
            · obtain ⟨r, hr⟩ : ∃ r, m.rs[k]? = some r := ⟨m.rs[k], List.getElem?_eq_getElem hlt⟩
              have Hr : Hid _ := hr
              have HLx : Hid _ := HL.out.keep HB.out
              have bz : b2 < wr.heap.size := HLx.out.l2
              obtain ⟨c0, c1, c2, c3, c4, c5, c6, c7, c8, c9, c10⟩ := HLx.out.r2.at hr
              simp only [Nat.zero_add] at c0 c1 c2 c3 c4 c5 c6 c7 c8 c9 c10
              clear hr
              have i0 : (0 : Int) ≤ (k : Int) := by omega
              have i1 : (k : Int) < (m.rs.length : Int) := by omega
              cases hal : aliveB r.a
              · cases he : r.h.toList.isEmpty
                · go_wp2_with (go_at_call 22; refine (specAlive_x r.c r.h r.v r.p r.s r.d r.g r.a r.b r.i r.u _).mono ?_; rintro e w' ⟨rfl, rfl⟩)
                  exact ⟨⟨k + 1, by omega, by go_num, each_step Ha.out Hr.out (by simp [heldB, hal, he]), (by repeat (first | exact HB.out | refine bl_alloc ?_ _))⟩, by simp [intOf]; omega⟩
                · go_wp2_with (go_at_call 22; refine (specAlive_x r.c r.h r.v r.p r.s r.d r.g r.a r.b r.i r.u _).mono ?_; rintro e w' ⟨rfl, rfl⟩)
                  go_ret
                  exact ⟨⟨false, rfl, saysV_no (fun h => held_at Hr.out (by simp [heldB, hal, he]) h hu)⟩, bl_trans Hb0.out (by repeat (first | exact HB.out | refine bl_alloc ?_ _))⟩
              · go_wp2_with (go_at_call 22; refine (specAlive_x r.c r.h r.v r.p r.s r.d r.g r.a r.b r.i r.u _).mono ?_; rintro e w' ⟨rfl, rfl⟩)
                exact ⟨⟨k + 1, by omega, by go_num, each_step Ha.out Hr.out (by simp [heldB, hal]), (by repeat (first | exact HB.out | refine bl_alloc ?_ _))⟩, by simp [intOf]; omega⟩
            · have ek : k = m.rs.length := by omega
              subst ek
              have G6 : Hid (∀ r ∈ m.rs, heldB r = true) := each_all Ha.out
              cases hkn : m.kn
              · by_cases hse : m.se = 0
                · by_cases hln : m.qs.length + m.gs.length = 0
                  · have hl1 : m.qs.length = 0 := by omega
                    have hl2 : m.gs.length = 0 := by omega
                    have hs' : (m.se == 0) = true := by simp [hse]
                    have Hz : Hid (DownSay m) := ⟨hkn, hse, down_len Hk.out hkn hln, G6.out⟩
                    have HV : Hid (Valid m) := ⟨Hp.out, ⟨G1.out, Hk.out⟩, G2.out, ⟨G3.out, G4.out⟩, G5.out, Or.inr Hz.out⟩
                    clear hse hln
                    go_wp2
                    go_ret
                    exact ⟨⟨true, rfl, ⟨fun _ => HV.out, fun _ => rfl⟩⟩, bl_trans Hb0.out HB.out⟩
                  · have hl1 : ((m.qs.length : Int) + (m.gs.length : Int) == 0) = false := beq_false_of_ne (by omega)
                    have Hln : Hid _ := hln
                    clear hln
                    go_wp2
                    go_ret
                    exact ⟨⟨false, rfl, saysV_no (fun h => Hln.out (by have := (down_of h hu).2.2.1; omega))⟩, bl_trans Hb0.out HB.out⟩
                · have hs' : (m.se == 0) = false := by simp [hse]
                  have Hse : Hid _ := hse
                  clear hse
                  go_wp2
                  go_ret
                  exact ⟨⟨false, rfl, saysV_no (fun h => Hse.out (down_of h hu).2.1)⟩, bl_trans Hb0.out HB.out⟩
              · go_wp2
                go_ret
                exact ⟨⟨false, rfl, saysV_no (fun h => by have := (down_of h hu).1; rw [hkn] at this; cases this)⟩, bl_trans Hb0.out HB.out⟩
        · go_wp2
          go_ret
          exact ⟨⟨true, rfl, ⟨fun _ => ⟨Hp.out, ⟨G1.out, Hk.out⟩, G2.out, ⟨G3.out, G4.out⟩, G5.out, Or.inl hu⟩, fun _ => rfl⟩⟩, bl_trans Hb0.out HB.out⟩
end Go.Proofs.Ytkebokkckmgloaa
/- The specification's checks of lists that are given, or nil. -/
namespace Go.Proofs.Ytkebokkckmgloaa
open Go.RowKit
set_option linter.unusedVariables false

theorem W.specWants_zero (a : Option Addr) (cap : Nat) (w : World) :
    Calls Try.prog 29 #[.slice a 0 cap] w fun e w' => e = .returned (.bool true) ∧ w' = w := by
  go_enter Try.func29, Try.ntmps29
  go_wp2
  refine wp_loop_rounds 1 ?_
  rw [rounds_succ]
  go_wp2
  go_ret
  exact ⟨rfl, rfl⟩
theorem specRuns_zero (a : Option Addr) (cap : Nat) (clock : Int) (w : World) :
    Calls Try.prog 36 #[.slice a 0 cap, .int .i64 clock] w fun e w' => e = .returned (.bool true) ∧ w' = w := by
  go_enter Try.func36, Try.ntmps36
  go_wp2
  refine wp_loop_rounds 1 ?_
  rw [rounds_succ]
  go_wp2
  go_ret
  exact ⟨rfl, rfl⟩
theorem A.specAsks_zero (a : Option Addr) (cap : Nat) (clock : Int) (w : World) :
    Calls Try.prog 67 #[.slice a 0 cap, .int .i64 clock] w fun e w' => e = .returned (.bool true) ∧ w' = w := by
  go_enter Try.func67, Try.ntmps67
  go_wp2
  refine wp_loop_rounds 1 ?_
  rw [rounds_succ]
  go_wp2
  go_ret
  exact ⟨rfl, rfl⟩
theorem A.specAsk_zero (a : Option Addr) (cap : Nat) (x : ByteArray) (w : World) :
    Calls Try.prog 68 #[.slice a 0 cap, .string x] w fun e w' => e = .returned (.int .i64 (-1)) ∧ w' = w := by
  go_enter Try.func68, Try.ntmps68
  go_wp2
  refine wp_loop_rounds 1 ?_
  rw [rounds_succ]
  go_wp2
  go_ret
  exact ⟨rfl, rfl⟩
theorem W.specWantsOk_gv (a : Option Addr) (cap : Nat) (ws : List W.WantD) (w : World) (h : W.Gv w a ws) (hfit : ∀ r ∈ ws, r.fits) (hl : ws.length ≤ 1048576) :
    Calls Try.prog 29 #[.slice a ws.length cap] w fun e w' => (∃ q : Bool, e = .returned (.bool q) ∧ W.Says q ws) ∧ Below w.heap.size w w' := by
  rcases h with rfl | ⟨b, rfl, hb, hR⟩
  · refine (W.specWants_zero a cap w).mono ?_
    rintro e w' ⟨rfl, rfl⟩
    exact ⟨⟨true, rfl, ⟨fun _ => ⟨by simp, (fun j r hj hr => by simp at hr), (fun j q r hj hq hr => by simp at hq), (fun j r hj hr => by simp at hr)⟩, fun _ => rfl⟩⟩, Below.refl _ _⟩
  · exact W.specWantsOk b 0 cap ws w hR hb hfit hl
theorem specRunsOk_gv (a : Option Addr) (cap : Nat) (rs : List RunD) (clock : Int) (w : World) (h : Gv w a rs) (hfit : ∀ r ∈ rs, r.fits) (hl : rs.length ≤ 1048576) :
    Calls Try.prog 36 #[.slice a rs.length cap, .int .i64 clock] w fun e w' => (∃ q : Bool, e = .returned (.bool q) ∧ (q = true ↔ rs.length ≤ 20 ∧ AllOk clock rs rs.length)) ∧ Below w.heap.size w w' := by
  rcases h with rfl | ⟨b, rfl, hb, hR⟩
  · refine (specRuns_zero a cap clock w).mono ?_
    rintro e w' ⟨rfl, rfl⟩
    exact ⟨⟨true, rfl, ⟨fun _ => ⟨by simp, (fun j r hj hr => by simp at hr)⟩, fun _ => rfl⟩⟩, Below.refl _ _⟩
  · exact specRunsOk b 0 cap rs clock w hR hb hfit hl
theorem A.specAsksOk_gv (a : Option Addr) (cap : Nat) (rs : List A.AskD) (clock : Int) (w : World) (h : A.Gv w a rs) (hfit : ∀ r ∈ rs, r.fits) (hl : rs.length ≤ 1048576) :
    Calls Try.prog 67 #[.slice a rs.length cap, .int .i64 clock] w fun e w' => (∃ q : Bool, e = .returned (.bool q) ∧ A.SaysA q clock rs) ∧ Below w.heap.size w w' := by
  rcases h with rfl | ⟨b, rfl, hb, hR⟩
  · refine (A.specAsks_zero a cap clock w).mono ?_
    rintro e w' ⟨rfl, rfl⟩
    exact ⟨⟨true, rfl, ⟨fun _ => ⟨by simp, (fun j q r hj hq hr => by simp at hq), (fun r hr => by simp at hr)⟩, fun _ => rfl⟩⟩, Below.refl _ _⟩
  · exact A.specAsksOk b 0 cap rs clock w hR hb hfit hl
theorem A.specAsk_gv (a : Option Addr) (cap : Nat) (rs : List A.AskD) (x : ByteArray) (w : World) (h : A.Gv w a rs) (hl : rs.length ≤ 1048576) :
    Calls Try.prog 68 #[.slice a rs.length cap, .string x] w fun e w' => e = .returned (.int .i64 (A.askAt rs x)) ∧ w' = w := by
  rcases h with rfl | ⟨b, rfl, hb, hR⟩
  · refine (A.specAsk_zero a cap x w).mono ?_
    rintro e w' ⟨rfl, rfl⟩
    exact ⟨rfl, rfl⟩
  · exact A.specAsk_x b 0 cap rs x w hR hb hl
/-- A mate's lists, each given or nil. -/
structure ListsX (w : World) (m : MateD) (a1 a2 a3 a4 : Option Addr) : Prop where
  r1 : W.Gv w a1 m.ws
  r2 : Gv w a2 m.rs
  r3 : A.Gv w a3 m.qs
  r4 : A.Gv w a4 m.gs
theorem ListsX.keep {w w' : World} {m : MateD} {a1 a2 a3 a4 : Option Addr} (h : ListsX w m a1 a2 a3 a4) (hB : Below w.heap.size w w') : ListsX w' m a1 a2 a3 a4 := ⟨h.r1.keep hB, h.r2.keep hB, h.r3.keep hB, h.r4.keep hB⟩
end Go.Proofs.Ytkebokkckmgloaa
/- A list's cells, one behind the other. -/
namespace Go.Proofs.Ytkebokkckmgloaa
open Go.RowKit
set_option linter.unusedVariables false

theorem flat_cells {w : World} {g : Nat} {l : List RunD} (h : RowsAt w g 0 l) : ∀ j u, (flatR l)[j]? = some u → w.cell? ((⟨g, 0, none⟩ : Addr).add j) = some u := by
  intro j u hj
  have hlt : j < l.length * 11 := by rw [← flatR_len]; exact (List.getElem?_eq_some_iff.1 hj).1
  have hk : j / 11 < l.length := by omega
  have hr : j % 11 < 11 := Nat.mod_lt _ (by decide)
  have e : j / 11 * 11 + j % 11 = j := by omega
  have h1 := flatR_at l (j / 11) l[j / 11] (List.getElem?_eq_getElem hk) (j % 11) hr
  rw [e, hj] at h1
  have h2 := h (j / 11) l[j / 11] (List.getElem?_eq_getElem hk) (j % 11) u h1.symm
  rw [Addr.add_mid]
  rw [show 0 + j / 11 * 11 + j % 11 = 0 + j from by omega] at h2
  exact h2
end Go.Proofs.Ytkebokkckmgloaa
/- A list is copied by append. -/
namespace Go.Proofs.Ytkebokkckmgloaa
open Go.RowKit
set_option linter.unusedVariables false

set_option maxHeartbeats 1000000 in
theorem fresh (g cap : Nat) (l : List RunD) (w : World) (h : RowsAt w g 0 l) (hl : l.length ≤ 1048576) :
    Calls Try.prog 127 #[.slice (some ⟨g, 0, none⟩) l.length cap] w fun e w' => (∃ v, e = .returned v ∧ Sl w' v l w.heap.size) ∧ Below w.heap.size w w' := by
  obtain ⟨i0, hi, hz0, hz1, hz2⟩ := info_parts infoR
  go_enter Try.func127, Try.ntmps127
  go_wp2_with (at_builtin; refine wpList_append_own _ rfl _ _ 24 rfl w.heap.size 38 i0 _ 11 104 Try.underlying24 hi hz0 hz1 hz2 rfl (by decide) (.slice none 0 0) 0 [] rfl (World.ownsRow_nil _ _ _ _) ⟨g, 0, none⟩ l.length cap (flatR l) rfl (flatR_len l) (flat_cells h) (flatR_one l) (by unfold maxLen; omega) (by omega) (Nat.le_refl _) ?_; intro v' w1 ho1 hg1 hn1)
  go_ret
  have ho2 : w1.ownsRow w.heap.size 38 11 v' l.length (flatR l) := by simpa using ho1
  exact ⟨⟨v', rfl, Sl.of_owns ho2⟩, Below.grown (Below.refl _ _) hg1 (Nat.le_refl _) (fun j hj => by cases hj)⟩
end Go.Proofs.Ytkebokkckmgloaa
/- A list's cells, one behind the other. -/
namespace Go.Proofs.Ytkebokkckmgloaa.W
open Go.RowKit
set_option linter.unusedVariables false

theorem flat_cells {w : World} {g : Nat} {l : List WantD} (h : RowsAt w g 0 l) : ∀ j u, (flatR l)[j]? = some u → w.cell? ((⟨g, 0, none⟩ : Addr).add j) = some u := by
  intro j u hj
  have hlt : j < l.length * 7 := by rw [← flatR_len]; exact (List.getElem?_eq_some_iff.1 hj).1
  have hk : j / 7 < l.length := by omega
  have hr : j % 7 < 7 := Nat.mod_lt _ (by decide)
  have e : j / 7 * 7 + j % 7 = j := by omega
  have h1 := flatR_at l (j / 7) l[j / 7] (List.getElem?_eq_getElem hk) (j % 7) hr
  rw [e, hj] at h1
  have h2 := h (j / 7) l[j / 7] (List.getElem?_eq_getElem hk) (j % 7) u h1.symm
  rw [Addr.add_mid]
  rw [show 0 + j / 7 * 7 + j % 7 = 0 + j from by omega] at h2
  exact h2
end Go.Proofs.Ytkebokkckmgloaa.W
