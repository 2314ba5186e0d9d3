import Derived.Test.YtgakmkhbnjofhaaGreatDoorJ21
import Derived.Test.YtgakmkhbnjofhaaGreatDoorJ13
import Derived.Test.YtgakmkhbnjofhaaGreatDoorJ25
/- MateWantsOk at no wants, and at a list that has room behind it. -/
namespace Go.Proofs.YtgakmkhbnjofhaaGreatDoor.W
open Go.RowKit
set_option linter.unusedVariables false

set_option maxHeartbeats 1000000 in
theorem holdsDifferC (b off cap : Nat) (ws : List WantD) (w : World) (hR : RowsAt w b off ws) (l1 : b < w.heap.size) (hl : ws.length ≤ 10) (hcap : ws.length ≤ cap) :
    Calls Tryz.prog 43 #[.slice (some ⟨b, off, none⟩) ws.length cap] w fun e w' => (∃ q : Bool, e = .returned (.bool q) ∧ (q = true ↔ Diff ws ws.length)) ∧ Below w.heap.size w w' := by
  go_enter Tryz.func43, Tryz.ntmps43
  go_wp2
  go_loopw [9] (fun i wx => ∃ (k : Nat), k ≤ ws.length ∧ i = .int .i64 k ∧ Hid (Diff ws k) ∧ Below w.heap.size w wx) (fun i _ => ws.length - (intOf i).toNat)
  case atStart => exact ⟨0, Nat.zero_le _, rfl, fun j r h => by omega, Below.refl _ _⟩
  case round =>
    obtain ⟨k, hk, rfl, Ha, hB⟩ := hrel
    by_cases hlt : k < ws.length
    · obtain ⟨r, hr⟩ : ∃ r, ws[k]? = some r := ⟨ws[k], List.getElem?_eq_getElem hlt⟩
      have Hr : Hid _ := hr
      clear hr
      have i0 : (0 : Int) ≤ (k : Int) := by omega
      have i1 : (k : Int) ≤ (ws.length : Int) := by omega
      have i2 : (k : Int) ≤ (cap : Int) := by omega
      obtain ⟨c0, c1, c2, c3, c4, c5, c6⟩ := (hR.keep l1 hB).at Hr.out
      obtain ⟨wo, rfl⟩ : ∃ wo : World, wo = wr := ⟨_, rfl⟩
      go_wp2_with fail
      clear c0 c1 c2 c3 c4 c5 c6
      go_loopw [18] (fun j wx => ∃ (n : Nat), n ≤ k ∧ j = .int .i64 n ∧ Hid (NoneOf ws r n) ∧ Below (wo.alloc (.cells #[.string r.c, .int .i64 r.v, .string r.h, .int .i64 r.p, .int .i64 r.s, .int .i64 r.d, .int .i64 r.g] 46)).heap.size (wo.alloc (.cells #[.string r.c, .int .i64 r.v, .string r.h, .int .i64 r.p, .int .i64 r.s, .int .i64 r.d, .int .i64 r.g] 46)) wx) (fun j _ => k - (intOf j).toNat)
      case atStart => exact ⟨0, Nat.zero_le _, rfl, fun i q h => by omega, Below.refl _ _⟩
      case round =>
        obtain ⟨n, hn, rfl, Hn, hBn⟩ := hrel
        have bo : Below w.heap.size w wr := bl_trans (bl_trans hB (bl_alloc (Below.refl _ _) _)) hBn
        by_cases hnl : n < k
        · obtain ⟨t, ht⟩ : ∃ t, ws[n]? = some t := ⟨ws[n], List.getElem?_eq_getElem (by omega)⟩
          have Ht : Hid _ := ht
          clear ht
          have j0 : (0 : Int) ≤ (n : Int) := by omega
          have j1 : (n : Int) < (k : Int) := by omega
          obtain ⟨c0, c1, c2, c3, c4, c5, c6⟩ := (hR.keep l1 bo).at Ht.out
          have hkb := box_keep hBn
          have hzb := boxlt hBn
          cases he : r.h.toList.isEmpty
          · cases hcl : (t.h.toList == r.h.toList)
            · go_wp2
              exact ⟨⟨n + 1, by omega, by go_num, NoneOf.step Hn.out Ht.out (by simp [clash, he, hcl]), bl_trans hBn (bl_alloc (Below.refl _ _) _)⟩, by simp [intOf]; omega⟩
            · go_wp2
              go_ret
              exact ⟨⟨false, rfl, ⟨fun h => (by cases h), fun h => by have := h k r hlt Hr.out n t hnl Ht.out; simp [clash, he, hcl] at this⟩⟩, bl_alloc bo _⟩
          · go_wp2
            exact ⟨⟨n + 1, by omega, by go_num, NoneOf.step Hn.out Ht.out (by simp [clash, he]), bl_trans hBn (bl_alloc (Below.refl _ _) _)⟩, by simp [intOf]; omega⟩
        · have hne : n = k := by omega
          subst hne
          go_wp2
          exact ⟨⟨n + 1, by omega, by go_num, Ha.out.step Hr.out Hn.out, bo⟩, by simp [intOf]; omega⟩
    · go_wp2
      go_ret
      exact ⟨⟨true, rfl, ⟨fun _ j r hj hr => Ha.out j r (by omega) hr, fun _ => rfl⟩⟩, hB⟩

set_option maxHeartbeats 1000000 in
theorem implWantsOkC (b off cap : Nat) (ws : List WantD) (w : World) (hR : RowsAt w b off ws) (l1 : b < w.heap.size) (hfit : ∀ r ∈ ws, r.fits) (hl : ws.length ≤ 1048576) (hcap : ws.length ≤ cap) :
    Calls Tryz.prog 13 #[.slice (some ⟨b, off, none⟩) ws.length cap] w fun e w' => (∃ q : Bool, e = .returned (.bool q) ∧ Says q ws) ∧ Below w.heap.size w w' := by
  have hba := build_all
  by_cases h10 : ws.length ≤ 10
  · go_enter Tryz.func13, Tryz.ntmps13
    go_wp2_with go_in
    clear hba
    refine wp_loop_rounds 5 ?_
    rw [rounds_succ]
    go_wp2_with fail
    refine (fewWants_any _ _ _ _).mono ?_
    rintro e w1 ⟨rfl, rfl⟩
    have d10 : decide (ws.length ≤ 10) = true := by simpa using h10
    go_wp2_with fail
    rw [rounds_succ]
    go_wp2_with fail
    have R0 := hR.keep l1 (bl_alloc (Below.refl _ _) (.cells #[.func (.func 40) #[] #[], .func (.func 41) #[] #[], .func (.func 42) #[] #[], .func (.func 43) #[] #[]] 36))
    have z0 : b < (w.alloc (.cells #[.func (.func 40) #[] #[], .func (.func 41) #[] #[], .func (.func 42) #[] #[], .func (.func 43) #[] #[]] 36)).heap.size := by simp; omega
    refine (eachWant b off _ ws _ R0 z0 hfit h10).mono ?_
    rintro e w2 ⟨⟨q2, rfl, h2⟩, b2⟩
    have k2 := box_keep b2
    cases q2
    · go_wp2
      go_ret
      exact ⟨⟨false, rfl, says_no (fun _ h => by have := h2.2 h.1; cases this)⟩, bl_trans (bl_alloc (Below.refl _ _) _) b2⟩
    have e2 : Hid _ := h2.1 rfl
    clear h2
    go_wp2_with fail
    rw [rounds_succ]
    go_wp2_with fail
    have R2 := R0.keep z0 b2
    have z2 : b < w2.heap.size := Nat.lt_of_lt_of_le z0 b2.size
    refine (ascendWants b off _ ws _ R2 z2 h10).mono ?_
    rintro e w3 ⟨⟨q3, rfl, h3⟩, b3⟩
    have b3' := bl_trans b2 b3
    clear k2
    have k3 := box_keep b3'
    cases q3
    · go_wp2
      go_ret
      exact ⟨⟨false, rfl, says_no (fun _ h => by have := h3.2 h.2.1; cases this)⟩, bl_trans (bl_alloc (Below.refl _ _) _) b3'⟩
    have e3 : Hid _ := h3.1 rfl
    clear h3
    go_wp2_with fail
    rw [rounds_succ]
    go_wp2_with fail
    have R3 := R2.keep z2 b3
    have z3 : b < w3.heap.size := Nat.lt_of_lt_of_le z2 b3.size
    refine (holdsDifferC b off cap ws _ R3 z3 h10 hcap).mono ?_
    rintro e w4 ⟨⟨q4, rfl, h4⟩, b4⟩
    have b4' := bl_trans b3' b4
    clear k3
    cases q4
    · go_wp2
      go_ret
      exact ⟨⟨false, rfl, says_no (fun _ h => by have := h4.2 h.2.2; cases this)⟩, bl_trans (bl_alloc (Below.refl _ _) _) b4'⟩
    have e4 : Hid _ := h4.1 rfl
    clear h4
    go_wp2_with fail
    rw [rounds_succ]
    go_wp2
    go_ret
    exact ⟨⟨true, rfl, says_yes ⟨e2.out, e3.out, e4.out⟩ (Nat.le_refl _) h10⟩, bl_trans (bl_alloc (Below.refl _ _) _) b4'⟩
  · go_enter Tryz.func13, Tryz.ntmps13
    go_wp2_with go_in
    clear hba
    refine wp_loop_rounds 1 ?_
    rw [rounds_succ]
    go_wp2_with fail
    refine (fewWants_any _ _ _ _).mono ?_
    rintro e w1 ⟨rfl, rfl⟩
    have d10 : decide (ws.length ≤ 10) = false := by simpa using h10
    go_wp2
    go_ret
    exact ⟨⟨false, rfl, says_no (fun h _ => h10 h)⟩, bl_alloc (Below.refl _ _) _⟩

theorem says_nil : Says true [] := says_yes (k := 0) ⟨fun j r h => by omega, fun j q r h => by omega, fun j r h => by omega⟩ (Nat.zero_le _) (Nat.zero_le _)
theorem specWants0 (A : Option Addr) (cap : Nat) (w : World) : Calls Tryz.prog 14 #[.slice A 0 cap] w fun e w' => e = .returned (.bool true) ∧ Below w.heap.size w w' := by
  go_enter Tryz.func14, Tryz.ntmps14
  go_wp2
  refine wp_loop_rounds 1 ?_
  rw [rounds_succ]
  go_wp2
  go_ret
  exact ⟨rfl, Below.refl _ _⟩
theorem all0 (A : Option Addr) (cap : Nat) (f : Value) (w : World) : Calls Tryz.prog 61 #[.slice A 0 cap, f] w fun e w' => e = .returned (.bool true) ∧ Below w.heap.size w w' := by
  go_enter Tryz.func61, Tryz.ntmps61
  go_wp2
  refine wp_loop_rounds 1 ?_
  rw [rounds_succ]
  go_wp2
  go_ret
  exact ⟨rfl, Below.refl _ _⟩
theorem each0 (A : Option Addr) (cap : Nat) (w : World) : Calls Tryz.prog 41 #[.slice A 0 cap] w fun e w' => e = .returned (.bool true) ∧ Below w.heap.size w w' := by
  go_enter Tryz.func41, Tryz.ntmps41
  go_wp2_with (go_at_call 61; refine (all0 A cap _ _).mono ?_; rintro e w' ⟨rfl, hb⟩)
  go_ret
  exact ⟨rfl, hb⟩
theorem asc0 (A : Option Addr) (cap : Nat) (f : Value) (w : World) : Calls Tryz.prog 63 #[.slice A 0 cap, f] w fun e w' => e = .returned (.bool true) ∧ Below w.heap.size w w' := by
  go_enter Tryz.func63, Tryz.ntmps63
  go_wp2
  refine wp_loop_rounds 1 ?_
  rw [rounds_succ]
  go_wp2
  go_ret
  exact ⟨rfl, Below.refl _ _⟩
theorem ascend0 (A : Option Addr) (cap : Nat) (w : World) : Calls Tryz.prog 42 #[.slice A 0 cap] w fun e w' => e = .returned (.bool true) ∧ Below w.heap.size w w' := by
  go_enter Tryz.func42, Tryz.ntmps42
  go_wp2_with (go_at_call 63; refine (asc0 A cap _ _).mono ?_; rintro e w' ⟨rfl, hb⟩)
  go_ret
  exact ⟨rfl, hb⟩
theorem differ0 (A : Option Addr) (cap : Nat) (w : World) : Calls Tryz.prog 43 #[.slice A 0 cap] w fun e w' => e = .returned (.bool true) ∧ Below w.heap.size w w' := by
  go_enter Tryz.func43, Tryz.ntmps43
  go_wp2
  refine wp_loop_rounds 1 ?_
  rw [rounds_succ]
  go_wp2
  go_ret
  exact ⟨rfl, Below.refl _ _⟩
set_option maxHeartbeats 1000000 in
theorem implWants0 (A : Option Addr) (cap : Nat) (w : World) : Calls Tryz.prog 13 #[.slice A 0 cap] w fun e w' => e = .returned (.bool true) ∧ Below w.heap.size w w' := by
  have hba := build_all
  go_enter Tryz.func13, Tryz.ntmps13
  go_wp2_with go_in
  clear hba
  refine wp_loop_rounds 5 ?_
  rw [rounds_succ]
  go_wp2_with fail
  refine (fewWants_any _ _ _ _).mono ?_
  rintro e w1 ⟨rfl, rfl⟩
  go_wp2_with fail
  rw [rounds_succ]
  go_wp2_with fail
  refine (each0 A cap _).mono ?_
  rintro e w2 ⟨rfl, b2⟩
  have k2 := box_keep b2
  go_wp2_with fail
  rw [rounds_succ]
  go_wp2_with fail
  refine (ascend0 A cap _).mono ?_
  rintro e w3 ⟨rfl, b3⟩
  have b3' := bl_trans b2 b3
  clear k2
  have k3 := box_keep b3'
  go_wp2_with fail
  rw [rounds_succ]
  go_wp2_with fail
  refine (differ0 A cap _).mono ?_
  rintro e w4 ⟨rfl, b4⟩
  have b4' := bl_trans b3' b4
  clear k3
  go_wp2_with fail
  rw [rounds_succ]
  go_wp2
  go_ret
  exact ⟨rfl, bl_trans (bl_alloc (Below.refl _ _) _) b4'⟩
end Go.Proofs.YtgakmkhbnjofhaaGreatDoor.W
/- MateForm: the program, where the list of wants is nil or has room. -/
namespace Go.Proofs.YtgakmkhbnjofhaaGreatDoor
open Go.RowKit
set_option linter.unusedVariables false
set_option linter.unusedSimpArgs false

structure ParSz (P : ParD) : Prop where
  b : P.b.size ≤ 1048576
  h : P.h.size ≤ 1048576
  c : P.c.size ≤ 1048576
  l : P.ws.length ≤ 1048576
set_option maxRecDepth 4000 in
set_option maxHeartbeats 2000000 in
theorem fitsToldC (k : Int) (b : ByteArray) (se : Int) (ws : List W.WantD) (h c : ByteArray) (t : Int) (g cp : Nat) (w : World) (hP : ParIn w ⟨k, b, se, ws, h, c, t⟩ g) (hcp : ws.length ≤ cp) :
    Calls Tryz.prog 73 #[.agg #[.int .i64 k, .string b, .int .i64 se, .slice (some ⟨g, 0, none⟩) ws.length cp, .string h, .string c, .int .i64 t]] w fun e w' => e = .returned (.bool (toldB b h c se t ws)) ∧ Below w.heap.size w w' := by
  have HP0 : Hid (ParIn w ⟨k, b, se, ws, h, c, t⟩ g) := hP
  have zb : b.size ≤ maxLen := Nat.le_trans hP.b (by unfold maxLen; decide)
  clear hP
  have HRW : Hid (W.RowsAt (w.alloc (.cells #[.int .i64 k, .string b, .int .i64 se, .slice (some ⟨g, 0, none⟩) ws.length cp, .string h, .string c, .int .i64 t] 25)) g 0 ws) := HP0.out.r.keep HP0.out.g (bl_alloc (Below.refl _ _) _)
  have HGW : Hid (g < (w.alloc (.cells #[.int .i64 k, .string b, .int .i64 se, .slice (some ⟨g, 0, none⟩) ws.length cp, .string h, .string c, .int .i64 t] 25)).heap.size) := Nat.lt_of_lt_of_le HP0.out.g (by simp)
  go_enter Tryz.func73, Tryz.ntmps73
  go_wp2_with (first | (go_at_call 95; refine (implName_any b _ zb).mono ?_; rintro e w' ⟨rfl, rfl⟩) | (go_at_call 67; refine (within_any _ _ _ _).mono ?_; rintro e w' ⟨rfl, rfl⟩) | (go_at_call 13; refine (W.implWantsOkC g 0 cp ws _ HRW.out HGW.out HP0.out.f HP0.out.l hcp).mono ?_; rintro e w1 ⟨⟨q, rfl, hq⟩, b1⟩; have HQ : Hid (q = wantsB ws) := says_eq hq; have kb1 := box_keep b1; have HB1 : Hid (Below w.heap.size w w1) := bl_trans (bl_alloc (Below.refl _ _) _) b1; clear hq b1) | (go_at_call 96; refine (noHold_any k b se _ _ _ h c t _).mono ?_; rintro e w2 ⟨rfl, b2⟩; have HB2 : Hid (Below w.heap.size w w2) := bl_trans HB1.out b2; clear b2))
  all_goals (go_ret; refine ⟨ret_b ?_, ?_⟩)
  all_goals first | exact HB2.out | exact HB1.out | exact bl_alloc (Below.refl _ _) _ | (have e := HQ.out; simp [toldB, ← e, *]; done) | (simp [toldB, *]; done)
set_option maxRecDepth 4000 in
set_option maxHeartbeats 2000000 in
theorem fitsTold0 (k : Int) (b : ByteArray) (se : Int) (h c : ByteArray) (t : Int) (A : Option Addr) (cp : Nat) (w : World) (hb : b.size ≤ 1048576) :
    Calls Tryz.prog 73 #[.agg #[.int .i64 k, .string b, .int .i64 se, .slice A 0 cp, .string h, .string c, .int .i64 t]] w fun e w' => e = .returned (.bool (toldB b h c se t [])) ∧ Below w.heap.size w w' := by
  have zb : b.size ≤ maxLen := Nat.le_trans hb (by unfold maxLen; decide)
  clear hb
  go_enter Tryz.func73, Tryz.ntmps73
  go_wp2_with (first | (go_at_call 95; refine (implName_any b _ zb).mono ?_; rintro e w' ⟨rfl, rfl⟩) | (go_at_call 67; refine (within_any _ _ _ _).mono ?_; rintro e w' ⟨rfl, rfl⟩) | (go_at_call 13; refine (W.implWants0 A cp _).mono ?_; rintro e w1 ⟨rfl, b1⟩; have HQ : Hid (wantsB [] = true) := (says_eq W.says_nil).symm; have kb1 := box_keep b1; have HB1 : Hid (Below w.heap.size w w1) := bl_trans (bl_alloc (Below.refl _ _) _) b1; clear b1) | (go_at_call 96; refine (noHold_any k b se _ _ _ h c t _).mono ?_; rintro e w2 ⟨rfl, b2⟩; have HB2 : Hid (Below w.heap.size w w2) := bl_trans HB1.out b2; clear b2))
  all_goals (go_ret; refine ⟨ret_b ?_, ?_⟩)
  all_goals first | exact HB2.out | exact HB1.out | exact bl_alloc (Below.refl _ _) _ | (have e := HQ.out; simp [toldB, e, *]; done) | (simp [toldB, *]; done)
set_option maxRecDepth 4000 in
set_option maxHeartbeats 8000000 in
theorem implF7g (k : Int) (b : ByteArray) (se : Int) (ws : List W.WantD) (h c : ByteArray) (t : Int) (A : Option Addr) (cp : Nat) (w : World) (hk : ¬ (1 ≤ k ∧ k ≤ 6)) (hP : ParSz ⟨k, b, se, ws, h, c, t⟩) (ht : Tab w) :
    Calls Tryz.prog 5 #[.agg #[.int .i64 k, .string b, .int .i64 se, .slice A ws.length cp, .string h, .string c, .int .i64 t]] w fun e w' => e = .returned (.string (formT ⟨k, b, se, ws, h, c, t⟩)) ∧ Below w.heap.size w w' := by
  have HE : Hid (formT ⟨k, b, se, ws, h, c, t⟩ = { data := #[] }) := other_no hk
  have HK : Hid (¬ (1 ≤ k ∧ k ≤ 6)) := hk
  clear hk
  obtain ⟨W1, hW1⟩ : ∃ W1, W1 = (w.alloc (.cells #[.int .i64 k, .string b, .int .i64 se, .slice A ws.length cp, .string h, .string c, .int .i64 t] 25)) := ⟨_, rfl⟩
  have HB : Hid (Below w.heap.size w W1) := by rw [hW1]; exact bl_alloc (Below.refl _ _) _
  have HL : Hid (w.heap.size < W1.heap.size) := by rw [hW1]; show _ < _; simp
  have HTab : Hid (∀ y, Below W1.heap.size W1 y → Tab y) := fun y hb => (ht.keep HB.out).keep hb
  have ZB : Hid (b.size ≤ maxLen) := Nat.le_trans hP.b (by unfold maxLen; decide)
  have ZH : Hid (h.size ≤ maxLen) := Nat.le_trans hP.h (by unfold maxLen; decide)
  have ZC : Hid (c.size ≤ maxLen) := Nat.le_trans hP.c (by unfold maxLen; decide)
  have SB : Hid (b.size ≤ 1048576) := hP.b
  have SH : Hid (h.size ≤ 1048576) := hP.h
  have SC : Hid (c.size ≤ 1048576) := hP.c
  have SL : ws.length ≤ 1048576 := hP.l
  have KX : Hid (∀ y, Below W1.heap.size W1 y → ∀ k', y.cell? ⟨w.heap.size, k', none⟩ = (#[.int .i64 k, .string b, .int .i64 se, .slice A ws.length cp, .string h, .string c, .int .i64 t] : Array Value)[k']?) := by
    intro y hb k'
    rw [hW1] at hb
    rw [box_keep hb k']
    simp [go_sem]
  have HW1 : Hid (W1 = (w.alloc (.cells #[.int .i64 k, .string b, .int .i64 se, .slice A ws.length cp, .string h, .string c, .int .i64 t] 25))) := hW1
  clear hW1 ht hP
  go_enter Tryz.func5, Tryz.ntmps5
  go_wp2_with (go_at_call 20; rw [← HW1.out]; refine (find7 k HK.out w.heap.size W1 (KX.out W1 (Below.refl _ _) 0) HL.out).mono ?_; rintro e w2 ⟨rfl, b2⟩; have Y : Hid (Below W1.heap.size W1 (w2.alloc (.cells #[.int .i64 0, .string { data := #[] }, .nilFunc, .nilFunc, .nilFunc] 51))) := bl_alloc b2 _; have Y2 : Hid (Below W1.heap.size W1 w2) := b2; clear b2; have kb0 := KX.out _ Y.out 0; have kb1 := KX.out _ Y.out 1; have kb2 := KX.out _ Y.out 2; have kb3 := KX.out _ Y.out 3; have kb4 := KX.out _ Y.out 4; have kb5 := KX.out _ Y.out 5; have kb6 := KX.out _ Y.out 6)
  go_ret
  exact ⟨by rw [HE.out]; rfl, bl_trans HB.out Y.out⟩
end Go.Proofs.YtgakmkhbnjofhaaGreatDoor
