import Derived.Test.YtgakmkhbnjofhaaGreatDoorJ16
import Derived.Test.YtgakmkhbnjofhaaGreatDoorJ10
import Derived.Test.YtgakmkhbnjofhaaGreatDoorJ19
namespace Go.Proofs.YtgakmkhbnjofhaaGreatDoor.W
open Go.RowKit
set_option linter.unusedVariables false
set_option maxHeartbeats 1000000 in
theorem holdsDifferC (b off cap : Nat) (ws : List WantD) (w : World) (hR : RowsAt w b off ws) (l1 : b < w.heap.size) (hl : ws.length ≤ 10) (hcap : ws.length ≤ cap) :
  Calls Tryz.prog 43 #[.slice (some ⟨b, off, none⟩) ws.length cap] w fun e w' => (∃ q : Bool, e = .returned (.bool q) ∧ (q = true ↔ Diff ws ws.length)) ∧ Below w.heap.size w w' := by
 go_enter Tryz.func43, Tryz.ntmps43
 go_wp2
 go_loopw [9] (fun i wx => ∃ (k : Nat), k ≤ ws.length ∧ i = .int .i64 k ∧ Hid (Diff ws k) ∧ Below w.heap.size w wx) (fun i _ => ws.length - (intOf i).toNat)
 case atStart => exact ⟨0, Nat.zero_le _, rfl, fun j r h => by omega, Below.refl _ _⟩
 case round =>
  obtain ⟨k, hk, rfl, Ha, hB⟩ := hrel
  by_cases hlt : k < ws.length
  ·
   obtain ⟨r, hr⟩ : ∃ r, ws[k]? = some r := ⟨ws[k], List.getElem?_eq_getElem hlt⟩
   have Hr : Hid _ := hr
   clear hr
   have i0 : (0 : Int) ≤ (k : Int) := by omega
   have i1 : (k : Int) ≤ (ws.length : Int) := by omega
   have i2 : (k : Int) ≤ (cap : Int) := by omega
   obtain ⟨c0, c1, c2, c3, c4, c5, c6⟩ := (hR.keep l1 hB).at Hr.out
   obtain ⟨wo, rfl⟩ : ∃ wo : World, wo = wr := ⟨_, rfl⟩
   go_wp2_with fail
   clear c0 c1 c2 c3 c4 c5 c6
   go_loopw [18] (fun j wx => ∃ (n : Nat), n ≤ k ∧ j = .int .i64 n ∧ Hid (NoneOf ws r n) ∧ Below (wo.alloc (.cells #[.string r.c, .int .i64 r.v, .string r.h, .int .i64 r.p, .int .i64 r.s, .int .i64 r.d, .int .i64 r.g] 46)).heap.size (wo.alloc (.cells #[.string r.c, .int .i64 r.v, .string r.h, .int .i64 r.p, .int .i64 r.s, .int .i64 r.d, .int .i64 r.g] 46)) wx) (fun j _ => k - (intOf j).toNat)
   case atStart => exact ⟨0, Nat.zero_le _, rfl, fun i q h => by omega, Below.refl _ _⟩
   case round =>
    obtain ⟨n, hn, rfl, Hn, hBn⟩ := hrel
    have bo : Below w.heap.size w wr := bl_trans (bl_trans hB (bl_alloc (Below.refl _ _) _)) hBn
    by_cases hnl : n < k
    ·
     obtain ⟨t, ht⟩ : ∃ t, ws[n]? = some t := ⟨ws[n], List.getElem?_eq_getElem (by omega)⟩
     have Ht : Hid _ := ht
     clear ht
     have j0 : (0 : Int) ≤ (n : Int) := by omega
     have j1 : (n : Int) < (k : Int) := by omega
     obtain ⟨c0, c1, c2, c3, c4, c5, c6⟩ := (hR.keep l1 bo).at Ht.out
     have hkb := box_keep hBn
     have hzb := boxlt hBn
     cases he : r.h.toList.isEmpty
     ·
      cases hcl : (t.h.toList == r.h.toList)
      ·
       go_wp2
       exact ⟨⟨n + 1, by omega, by go_num, NoneOf.step Hn.out Ht.out (by simp [clash, he, hcl]), bl_trans hBn (bl_alloc (Below.refl _ _) _)⟩, by simp [intOf]; omega⟩
      ·
       go_wp2
       go_ret
       exact ⟨⟨false, rfl, ⟨fun h => (by cases h), fun h => by have := h k r hlt Hr.out n t hnl Ht.out; simp [clash, he, hcl] at this⟩⟩, bl_alloc bo _⟩
     ·
      go_wp2
      exact ⟨⟨n + 1, by omega, by go_num, NoneOf.step Hn.out Ht.out (by simp [clash, he]), bl_trans hBn (bl_alloc (Below.refl _ _) _)⟩, by simp [intOf]; omega⟩
    ·
     have hne : n = k := by omega
     subst hne
     go_wp2
     exact ⟨⟨n + 1, by omega, by go_num, Ha.out.step Hr.out Hn.out, bo⟩, by simp [intOf]; omega⟩
  ·
   go_wp2
   go_ret
   exact ⟨⟨true, rfl, ⟨fun _ j r hj hr => Ha.out j r (by omega) hr, fun _ => rfl⟩⟩, hB⟩
set_option maxHeartbeats 1000000 in
theorem implWantsOkC (b off cap : Nat) (ws : List WantD) (w : World) (hR : RowsAt w b off ws) (l1 : b < w.heap.size) (hfit : ∀ r ∈ ws, r.fits) (hl : ws.length ≤ 1048576) (hcap : ws.length ≤ cap) :
  Calls Tryz.prog 13 #[.slice (some ⟨b, off, none⟩) ws.length cap] w fun e w' => (∃ q : Bool, e = .returned (.bool q) ∧ Says q ws) ∧ Below w.heap.size w w' := by
 have hba := build_all
 by_cases h10 : ws.length ≤ 10
 ·
  go_enter Tryz.func13, Tryz.ntmps13
  go_wp2_with go_in
  clear hba
  refine wp_loop_rounds 5 ?_
  rw [rounds_succ]
  go_wp2_with fail
  refine (fewWants_any _ _ _ _).mono ?_
  rintro e w1 ⟨rfl, rfl⟩
  have d10 : decide (ws.length ≤ 10) = true := by simpa using h10
  go_wp2_with fail
  rw [rounds_succ]
  go_wp2_with fail
  have R0 := hR.keep l1 (bl_alloc (Below.refl _ _) (.cells #[.func (.func 40) #[] #[], .func (.func 41) #[] #[], .func (.func 42) #[] #[], .func (.func 43) #[] #[]] 36))
  have z0 : b < (w.alloc (.cells #[.func (.func 40) #[] #[], .func (.func 41) #[] #[], .func (.func 42) #[] #[], .func (.func 43) #[] #[]] 36)).heap.size := by simp; omega
  refine (eachWant b off _ ws _ R0 z0 hfit h10).mono ?_
  rintro e w2 ⟨⟨q2, rfl, h2⟩, b2⟩
  have k2 := box_keep b2
  cases q2
  ·
   go_wp2
   go_ret
   exact ⟨⟨false, rfl, says_no (fun _ h => by have := h2.2 h.1; cases this)⟩, bl_trans (bl_alloc (Below.refl _ _) _) b2⟩
  have e2 : Hid _ := h2.1 rfl
  clear h2
  go_wp2_with fail
  rw [rounds_succ]
  go_wp2_with fail
  have R2 := R0.keep z0 b2
  have z2 : b < w2.heap.size := Nat.lt_of_lt_of_le z0 b2.size
  refine (ascendWants b off _ ws _ R2 z2 h10).mono ?_
  rintro e w3 ⟨⟨q3, rfl, h3⟩, b3⟩
  have b3' := bl_trans b2 b3
  clear k2
  have k3 := box_keep b3'
  cases q3
  ·
   go_wp2
   go_ret
   exact ⟨⟨false, rfl, says_no (fun _ h => by have := h3.2 h.2.1; cases this)⟩, bl_trans (bl_alloc (Below.refl _ _) _) b3'⟩
  have e3 : Hid _ := h3.1 rfl
  clear h3
  go_wp2_with fail
  rw [rounds_succ]
  go_wp2_with fail
  have R3 := R2.keep z2 b3
  have z3 : b < w3.heap.size := Nat.lt_of_lt_of_le z2 b3.size
  refine (holdsDifferC b off cap ws _ R3 z3 h10 hcap).mono ?_
  rintro e w4 ⟨⟨q4, rfl, h4⟩, b4⟩
  have b4' := bl_trans b3' b4
  clear k3
  cases q4
  ·
   go_wp2
   go_ret
   exact ⟨⟨false, rfl, says_no (fun _ h => by have := h4.2 h.2.2; cases this)⟩, bl_trans (bl_alloc (Below.refl _ _) _) b4'⟩
  have e4 : Hid _ := h4.1 rfl
  clear h4
  go_wp2_with fail
  rw [rounds_succ]
  go_wp2
  go_ret
  exact ⟨⟨true, rfl, says_yes ⟨e2.out, e3.out, e4.out⟩ (Nat.le_refl _) h10⟩, bl_trans (bl_alloc (Below.refl _ _) _) b4'⟩
 ·
  go_enter Tryz.func13, Tryz.ntmps13
  go_wp2_with go_in
  clear hba
  refine wp_loop_rounds 1 ?_
  rw [rounds_succ]
  go_wp2_with fail
  refine (fewWants_any _ _ _ _).mono ?_
  rintro e w1 ⟨rfl, rfl⟩
  have d10 : decide (ws.length ≤ 10) = false := by simpa using h10
  go_wp2
  go_ret
  exact ⟨⟨false, rfl, says_no (fun h _ => h10 h)⟩, bl_alloc (Below.refl _ _) _⟩
theorem says_nil : Says true [] := says_yes (k := 0) ⟨fun j r h => by omega, fun j q r h => by omega, fun j r h => by omega⟩ (Nat.zero_le _) (Nat.zero_le _)
theorem specWants0 (A : Option Addr) (cap : Nat) (w : World) : Calls Tryz.prog 14 #[.slice A 0 cap] w fun e w' => e = .returned (.bool true) ∧ Below w.heap.size w w' := by
 go_enter Tryz.func14, Tryz.ntmps14
 go_wp2
 refine wp_loop_rounds 1 ?_
 rw [rounds_succ]
 go_wp2
 go_ret
 exact ⟨rfl, Below.refl _ _⟩
theorem all0 (A : Option Addr) (cap : Nat) (f : Value) (w : World) : Calls Tryz.prog 61 #[.slice A 0 cap, f] w fun e w' => e = .returned (.bool true) ∧ Below w.heap.size w w' := by
 go_enter Tryz.func61, Tryz.ntmps61
 go_wp2
 refine wp_loop_rounds 1 ?_
 rw [rounds_succ]
 go_wp2
 go_ret
 exact ⟨rfl, Below.refl _ _⟩
theorem each0 (A : Option Addr) (cap : Nat) (w : World) : Calls Tryz.prog 41 #[.slice A 0 cap] w fun e w' => e = .returned (.bool true) ∧ Below w.heap.size w w' := by
 go_enter Tryz.func41, Tryz.ntmps41
 go_wp2_with (go_at_call 61; refine (all0 A cap _ _).mono ?_; rintro e w' ⟨rfl, hb⟩)
 go_ret
 exact ⟨rfl, hb⟩
theorem asc0 (A : Option Addr) (cap : Nat) (f : Value) (w : World) : Calls Tryz.prog 63 #[.slice A 0 cap, f] w fun e w' => e = .returned (.bool true) ∧ Below w.heap.size w w' := by
 go_enter Tryz.func63, Tryz.ntmps63
 go_wp2
 refine wp_loop_rounds 1 ?_
 rw [rounds_succ]
 go_wp2
 go_ret
 exact ⟨rfl, Below.refl _ _⟩
theorem ascend0 (A : Option Addr) (cap : Nat) (w : World) : Calls Tryz.prog 42 #[.slice A 0 cap] w fun e w' => e = .returned (.bool true) ∧ Below w.heap.size w w' := by
 go_enter Tryz.func42, Tryz.ntmps42
 go_wp2_with (go_at_call 63; refine (asc0 A cap _ _).mono ?_; rintro e w' ⟨rfl, hb⟩)
 go_ret
 exact ⟨rfl, hb⟩
theorem differ0 (A : Option Addr) (cap : Nat) (w : World) : Calls Tryz.prog 43 #[.slice A 0 cap] w fun e w' => e = .returned (.bool true) ∧ Below w.heap.size w w' := by
 go_enter Tryz.func43, Tryz.ntmps43
 go_wp2
 refine wp_loop_rounds 1 ?_
 rw [rounds_succ]
 go_wp2
 go_ret
 exact ⟨rfl, Below.refl _ _⟩
set_option maxHeartbeats 1000000 in
theorem implWants0 (A : Option Addr) (cap : Nat) (w : World) : Calls Tryz.prog 13 #[.slice A 0 cap] w fun e w' => e = .returned (.bool true) ∧ Below w.heap.size w w' := by
 have hba := build_all
 go_enter Tryz.func13, Tryz.ntmps13
 go_wp2_with go_in
 clear hba
 refine wp_loop_rounds 5 ?_
 rw [rounds_succ]
 go_wp2_with fail
 refine (fewWants_any _ _ _ _).mono ?_
 rintro e w1 ⟨rfl, rfl⟩
 go_wp2_with fail
 rw [rounds_succ]
 go_wp2_with fail
 refine (each0 A cap _).mono ?_
 rintro e w2 ⟨rfl, b2⟩
 have k2 := box_keep b2
 go_wp2_with fail
 rw [rounds_succ]
 go_wp2_with fail
 refine (ascend0 A cap _).mono ?_
 rintro e w3 ⟨rfl, b3⟩
 have b3' := bl_trans b2 b3
 clear k2
 have k3 := box_keep b3'
 go_wp2_with fail
 rw [rounds_succ]
 go_wp2_with fail
 refine (differ0 A cap _).mono ?_
 rintro e w4 ⟨rfl, b4⟩
 have b4' := bl_trans b3' b4
 clear k3
 go_wp2_with fail
 rw [rounds_succ]
 go_wp2
 go_ret
 exact ⟨rfl, bl_trans (bl_alloc (Below.refl _ _) _) b4'⟩
end Go.Proofs.YtgakmkhbnjofhaaGreatDoor.W
namespace Go.Proofs.YtgakmkhbnjofhaaGreatDoor
open Go.RowKit
set_option linter.unusedVariables false
set_option linter.unusedSimpArgs false
set_option maxRecDepth 4000 in
set_option maxHeartbeats 2000000 in
theorem fitsToldC (k : Int) (b : ByteArray) (se : Int) (ws : List W.WantD) (h c : ByteArray) (t : Int) (g cp : Nat) (w : World) (hP : ParIn w ⟨k, b, se, ws, h, c, t⟩ g) (hcp : ws.length ≤ cp) :
  Calls Tryz.prog 73 #[.agg #[.int .i64 k, .string b, .int .i64 se, .slice (some ⟨g, 0, none⟩) ws.length cp, .string h, .string c, .int .i64 t]] w fun e w' => e = .returned (.bool (toldB b h c se t ws)) ∧ Below w.heap.size w w' := by
 have HP0 : Hid (ParIn w ⟨k, b, se, ws, h, c, t⟩ g) := hP
 have zb : b.size ≤ maxLen := Nat.le_trans hP.b (by unfold maxLen; decide)
 clear hP
 have HRW : Hid (W.RowsAt (w.alloc (.cells #[.int .i64 k, .string b, .int .i64 se, .slice (some ⟨g, 0, none⟩) ws.length cp, .string h, .string c, .int .i64 t] 25)) g 0 ws) := HP0.out.r.keep HP0.out.g (bl_alloc (Below.refl _ _) _)
 have HGW : Hid (g < (w.alloc (.cells #[.int .i64 k, .string b, .int .i64 se, .slice (some ⟨g, 0, none⟩) ws.length cp, .string h, .string c, .int .i64 t] 25)).heap.size) := Nat.lt_of_lt_of_le HP0.out.g (by simp)
 go_enter Tryz.func73, Tryz.ntmps73
 go_wp2_with (first | (go_at_call 95; refine (implName_any b _ zb).mono ?_; rintro e w' ⟨rfl, rfl⟩) | (go_at_call 67; refine (within_any _ _ _ _).mono ?_; rintro e w' ⟨rfl, rfl⟩) | (go_at_call 13; refine (W.implWantsOkC g 0 cp ws _ HRW.out HGW.out HP0.out.f HP0.out.l hcp).mono ?_; rintro e w1 ⟨⟨q, rfl, hq⟩, b1⟩; have HQ : Hid (q = wantsB ws) := says_eq hq; have kb1 := box_keep b1; have HB1 : Hid (Below w.heap.size w w1) := bl_trans (bl_alloc (Below.refl _ _) _) b1; clear hq b1) | (go_at_call 96; refine (noHold_any k b se _ _ _ h c t _).mono ?_; rintro e w2 ⟨rfl, b2⟩; have HB2 : Hid (Below w.heap.size w w2) := bl_trans HB1.out b2; clear b2))
 all_goals (go_ret; refine ⟨ret_b ?_, ?_⟩)
 all_goals first | exact HB2.out | exact HB1.out | exact bl_alloc (Below.refl _ _) _ | (have e := HQ.out; simp [toldB, ← e, *]; done) | (simp [toldB, *]; done)
set_option maxRecDepth 4000 in
set_option maxHeartbeats 2000000 in
theorem fitsTold0 (k : Int) (b : ByteArray) (se : Int) (h c : ByteArray) (t : Int) (A : Option Addr) (cp : Nat) (w : World) (hb : b.size ≤ 1048576) :
  Calls Tryz.prog 73 #[.agg #[.int .i64 k, .string b, .int .i64 se, .slice A 0 cp, .string h, .string c, .int .i64 t]] w fun e w' => e = .returned (.bool (toldB b h c se t [])) ∧ Below w.heap.size w w' := by
 have zb : b.size ≤ maxLen := Nat.le_trans hb (by unfold maxLen; decide)
 clear hb
 go_enter Tryz.func73, Tryz.ntmps73
 go_wp2_with (first | (go_at_call 95; refine (implName_any b _ zb).mono ?_; rintro e w' ⟨rfl, rfl⟩) | (go_at_call 67; refine (within_any _ _ _ _).mono ?_; rintro e w' ⟨rfl, rfl⟩) | (go_at_call 13; refine (W.implWants0 A cp _).mono ?_; rintro e w1 ⟨rfl, b1⟩; have HQ : Hid (wantsB [] = true) := (says_eq W.says_nil).symm; have kb1 := box_keep b1; have HB1 : Hid (Below w.heap.size w w1) := bl_trans (bl_alloc (Below.refl _ _) _) b1; clear b1) | (go_at_call 96; refine (noHold_any k b se _ _ _ h c t _).mono ?_; rintro e w2 ⟨rfl, b2⟩; have HB2 : Hid (Below w.heap.size w w2) := bl_trans HB1.out b2; clear b2))
 all_goals (go_ret; refine ⟨ret_b ?_, ?_⟩)
 all_goals first | exact HB2.out | exact HB1.out | exact bl_alloc (Below.refl _ _) _ | (have e := HQ.out; simp [toldB, e, *]; done) | (simp [toldB, *]; done)
set_option maxRecDepth 4000 in
set_option maxHeartbeats 8000000 in
theorem implF7g (k : Int) (b : ByteArray) (se : Int) (ws : List W.WantD) (h c : ByteArray) (t : Int) (A : Option Addr) (cp : Nat) (w : World) (hk : ¬ (1 ≤ k ∧ k ≤ 6)) (hP : ParSz ⟨k, b, se, ws, h, c, t⟩) (ht : Tab w) :
  Calls Tryz.prog 5 #[.agg #[.int .i64 k, .string b, .int .i64 se, .slice A ws.length cp, .string h, .string c, .int .i64 t]] w fun e w' => e = .returned (.string (formT ⟨k, b, se, ws, h, c, t⟩)) ∧ Below w.heap.size w w' := by
 have HE : Hid (formT ⟨k, b, se, ws, h, c, t⟩ = { data := #[] }) := other_no hk
 have HK : Hid (¬ (1 ≤ k ∧ k ≤ 6)) := hk
 clear hk
 obtain ⟨W1, hW1⟩ : ∃ W1, W1 = (w.alloc (.cells #[.int .i64 k, .string b, .int .i64 se, .slice A ws.length cp, .string h, .string c, .int .i64 t] 25)) := ⟨_, rfl⟩
 have HB : Hid (Below w.heap.size w W1) := by rw [hW1]; exact bl_alloc (Below.refl _ _) _
 have HL : Hid (w.heap.size < W1.heap.size) := by rw [hW1]; show _ < _; simp
 have HTab : Hid (∀ y, Below W1.heap.size W1 y → Tab y) := fun y hb => (ht.keep HB.out).keep hb
 have ZB : Hid (b.size ≤ maxLen) := Nat.le_trans hP.b (by unfold maxLen; decide)
 have ZH : Hid (h.size ≤ maxLen) := Nat.le_trans hP.h (by unfold maxLen; decide)
 have ZC : Hid (c.size ≤ maxLen) := Nat.le_trans hP.c (by unfold maxLen; decide)
 have SB : Hid (b.size ≤ 1048576) := hP.b
 have SH : Hid (h.size ≤ 1048576) := hP.h
 have SC : Hid (c.size ≤ 1048576) := hP.c
 have SL : ws.length ≤ 1048576 := hP.l
 have KX : Hid (∀ y, Below W1.heap.size W1 y → ∀ k', y.cell? ⟨w.heap.size, k', none⟩ = (#[.int .i64 k, .string b, .int .i64 se, .slice A ws.length cp, .string h, .string c, .int .i64 t] : Array Value)[k']?) := by
  intro y hb k'
  rw [hW1] at hb
  rw [box_keep hb k']
  simp [go_sem]
 have HW1 : Hid (W1 = (w.alloc (.cells #[.int .i64 k, .string b, .int .i64 se, .slice A ws.length cp, .string h, .string c, .int .i64 t] 25))) := hW1
 clear hW1 ht hP
 go_enter Tryz.func5, Tryz.ntmps5
 go_wp2_with (go_at_call 20; rw [← HW1.out]; refine (find7 k HK.out w.heap.size W1 (KX.out W1 (Below.refl _ _) 0) HL.out).mono ?_; rintro e w2 ⟨rfl, b2⟩; have Y : Hid (Below W1.heap.size W1 (w2.alloc (.cells #[.int .i64 0, .string ⟨#[]⟩, .nilFunc, .nilFunc, .nilFunc] 51))) := bl_alloc b2 _; have Y2 : Hid (Below W1.heap.size W1 w2) := b2; clear b2; have kb0 := KX.out _ Y.out 0; have kb1 := KX.out _ Y.out 1; have kb2 := KX.out _ Y.out 2; have kb3 := KX.out _ Y.out 3; have kb4 := KX.out _ Y.out 4; have kb5 := KX.out _ Y.out 5; have kb6 := KX.out _ Y.out 6)
 go_ret
 exact ⟨by rw [HE.out]; rfl, bl_trans HB.out Y.out⟩
theorem slF10_far (j : Nat) (h1 : j ≠ 4) (h2 : j < 71 ∨ 71 + 9 ≤ j) : ∀ i, i < 10 → slF10 i ≠ j := by
 intro i hi
 obtain rfl | rfl | rfl | rfl | rfl | rfl | rfl | rfl | rfl | rfl : i = 0 ∨ i = 1 ∨ i = 2 ∨ i = 3 ∨ i = 4 ∨ i = 5 ∨ i = 6 ∨ i = 7 ∨ i = 8 ∨ i = 9 := by omega
 all_goals (simp only [slF10]; omega)
set_option maxRecDepth 4000 in
set_option maxHeartbeats 4000000 in
theorem specK1 (b : ByteArray) (se : Int) (ws : List W.WantD) (h c : ByteArray) (t : Int) (g cap : Nat) (w : World) (hP : ParIn w ⟨1, b, se, ws, h, c, t⟩ g) (hb : nameB b = true) :
  Calls Tryz.prog 7 #[.agg #[.int .i64 (1), .string b, .int .i64 se, .slice (some ⟨g, 0, none⟩) ws.length cap, .string h, .string c, .int .i64 t]] w fun e w' => e = .returned (.string (formT ⟨1, b, se, ws, h, c, t⟩)) ∧ Below w.heap.size w w' := by
 have HP0 : Hid (ParIn w ⟨1, b, se, ws, h, c, t⟩ g) := hP
 have zb : b.size ≤ maxLen := Nat.le_trans hP.b (by unfold maxLen; decide)
 have zh : h.size ≤ maxLen := Nat.le_trans hP.h (by unfold maxLen; decide)
 have zc : c.size ≤ maxLen := Nat.le_trans hP.c (by unfold maxLen; decide)
 clear hP
 cases hi : inB se 1 1000000
 ·
  have e0 : formT ⟨1, b, se, ws, h, c, t⟩ = { data := #[] } := by simp [formT, hb, hi]
  have HE0 : Hid (formT ⟨1, b, se, ws, h, c, t⟩ = { data := #[] }) := e0
  clear e0
  have HRW : Hid (W.RowsAt (w.alloc (.cells #[.int .i64 1, .string b, .int .i64 se, .slice (some ⟨g, 0, none⟩) ws.length cap, .string h, .string c, .int .i64 t] 25)) g 0 ws) := HP0.out.r.keep HP0.out.g (bl_alloc (Below.refl _ _) _)
  have HGW : Hid (g < (w.alloc (.cells #[.int .i64 1, .string b, .int .i64 se, .slice (some ⟨g, 0, none⟩) ws.length cap, .string h, .string c, .int .i64 t] 25)).heap.size) := Nat.lt_of_lt_of_le HP0.out.g (by simp)
  go_enter Tryz.func7, Tryz.ntmps7
  go_wp2_with (first | (go_at_call 25; refine (specName_any _ _ (by assumption)).mono ?_; rintro e w' ⟨rfl, rfl⟩; first | rw [hb] | rw [hn] | skip) | (go_at_call 26; refine (specHold_any h _ zh).mono ?_; rintro e w' ⟨rfl, rfl⟩; first | rw [hq] | rw [hh] | skip) | (go_at_call 27; refine (specIn_any _ _ _ _).mono ?_; rintro e w' ⟨rfl, rfl⟩; try rw [ht]; try rw [hi]) | (go_at_call 14; refine (W.specWantsOk g 0 cap ws _ HRW.out HGW.out HP0.out.f HP0.out.l).mono ?_; rintro e w2 ⟨⟨q, rfl, hq0⟩, b2⟩; have HQ : Hid (W.Says q ws) := hq0; have B2 : Hid (Below (w.alloc (.cells #[.int .i64 1, .string b, .int .i64 se, .slice (some ⟨g, 0, none⟩) ws.length cap, .string h, .string c, .int .i64 t] 25)).heap.size (w.alloc (.cells #[.int .i64 1, .string b, .int .i64 se, .slice (some ⟨g, 0, none⟩) ws.length cap, .string h, .string c, .int .i64 t] 25)) w2) := b2; have kb2 := box_keep b2; clear hq0 b2))
  all_goals (go_ret; exact ⟨by rw [HE0.out]; rfl, bl_trans (bl_alloc (Below.refl _ _) _) B2.out⟩)
 ·
  cases hh : h.toList.isEmpty
  ·
   have e0 : formT ⟨1, b, se, ws, h, c, t⟩ = { data := #[] } := by simp [formT, hb, hi, hh]
   have HE0 : Hid (formT ⟨1, b, se, ws, h, c, t⟩ = { data := #[] }) := e0
   clear e0
   have HRW : Hid (W.RowsAt (w.alloc (.cells #[.int .i64 1, .string b, .int .i64 se, .slice (some ⟨g, 0, none⟩) ws.length cap, .string h, .string c, .int .i64 t] 25)) g 0 ws) := HP0.out.r.keep HP0.out.g (bl_alloc (Below.refl _ _) _)
   have HGW : Hid (g < (w.alloc (.cells #[.int .i64 1, .string b, .int .i64 se, .slice (some ⟨g, 0, none⟩) ws.length cap, .string h, .string c, .int .i64 t] 25)).heap.size) := Nat.lt_of_lt_of_le HP0.out.g (by simp)
   go_enter Tryz.func7, Tryz.ntmps7
   go_wp2_with (first | (go_at_call 25; refine (specName_any _ _ (by assumption)).mono ?_; rintro e w' ⟨rfl, rfl⟩; first | rw [hb] | rw [hn] | skip) | (go_at_call 26; refine (specHold_any h _ zh).mono ?_; rintro e w' ⟨rfl, rfl⟩; first | rw [hq] | rw [hh] | skip) | (go_at_call 27; refine (specIn_any _ _ _ _).mono ?_; rintro e w' ⟨rfl, rfl⟩; try rw [ht]; try rw [hi]) | (go_at_call 14; refine (W.specWantsOk g 0 cap ws _ HRW.out HGW.out HP0.out.f HP0.out.l).mono ?_; rintro e w2 ⟨⟨q, rfl, hq0⟩, b2⟩; have HQ : Hid (W.Says q ws) := hq0; have B2 : Hid (Below (w.alloc (.cells #[.int .i64 1, .string b, .int .i64 se, .slice (some ⟨g, 0, none⟩) ws.length cap, .string h, .string c, .int .i64 t] 25)).heap.size (w.alloc (.cells #[.int .i64 1, .string b, .int .i64 se, .slice (some ⟨g, 0, none⟩) ws.length cap, .string h, .string c, .int .i64 t] 25)) w2) := b2; have kb2 := box_keep b2; clear hq0 b2))
   all_goals (go_ret; exact ⟨by rw [HE0.out]; rfl, bl_trans (bl_alloc (Below.refl _ _) _) B2.out⟩)
  ·
   cases hn : c.toList.isEmpty
   ·
    have e0 : formT ⟨1, b, se, ws, h, c, t⟩ = { data := #[] } := by simp [formT, hb, hi, hh, hn]
    have HE0 : Hid (formT ⟨1, b, se, ws, h, c, t⟩ = { data := #[] }) := e0
    clear e0
    have HRW : Hid (W.RowsAt (w.alloc (.cells #[.int .i64 1, .string b, .int .i64 se, .slice (some ⟨g, 0, none⟩) ws.length cap, .string h, .string c, .int .i64 t] 25)) g 0 ws) := HP0.out.r.keep HP0.out.g (bl_alloc (Below.refl _ _) _)
    have HGW : Hid (g < (w.alloc (.cells #[.int .i64 1, .string b, .int .i64 se, .slice (some ⟨g, 0, none⟩) ws.length cap, .string h, .string c, .int .i64 t] 25)).heap.size) := Nat.lt_of_lt_of_le HP0.out.g (by simp)
    go_enter Tryz.func7, Tryz.ntmps7
    go_wp2_with (first | (go_at_call 25; refine (specName_any _ _ (by assumption)).mono ?_; rintro e w' ⟨rfl, rfl⟩; first | rw [hb] | rw [hn] | skip) | (go_at_call 26; refine (specHold_any h _ zh).mono ?_; rintro e w' ⟨rfl, rfl⟩; first | rw [hq] | rw [hh] | skip) | (go_at_call 27; refine (specIn_any _ _ _ _).mono ?_; rintro e w' ⟨rfl, rfl⟩; try rw [ht]; try rw [hi]) | (go_at_call 14; refine (W.specWantsOk g 0 cap ws _ HRW.out HGW.out HP0.out.f HP0.out.l).mono ?_; rintro e w2 ⟨⟨q, rfl, hq0⟩, b2⟩; have HQ : Hid (W.Says q ws) := hq0; have B2 : Hid (Below (w.alloc (.cells #[.int .i64 1, .string b, .int .i64 se, .slice (some ⟨g, 0, none⟩) ws.length cap, .string h, .string c, .int .i64 t] 25)).heap.size (w.alloc (.cells #[.int .i64 1, .string b, .int .i64 se, .slice (some ⟨g, 0, none⟩) ws.length cap, .string h, .string c, .int .i64 t] 25)) w2) := b2; have kb2 := box_keep b2; clear hq0 b2))
    all_goals (go_ret; exact ⟨by rw [HE0.out]; rfl, bl_trans (bl_alloc (Below.refl _ _) _) B2.out⟩)
   ·
    by_cases ht : t = 0
    ·
     subst ht
     have hq := hold_empty hh
     obtain ⟨s0, s1⟩ : 1 ≤ se ∧ se ≤ 1000000 := by simp [inB] at hi; exact hi
     have s3 : 0 ≤ se := by omega
     have s2 : se < 1000000000 := by omega
     have ks := decT_le se s3 s2
     have yb : b.size ≤ 1000000000 := by have := HP0.out.b; exact Nat.le_trans this (by decide)
     have yh : h.size ≤ 1000000000 := by have := HP0.out.h; exact Nat.le_trans this (by decide)
     have yc : c.size ≤ 1000000000 := by have := HP0.out.c; exact Nat.le_trans this (by decide)
     have HP : Hid (∀ p ∈ [{ data := #[116, 111, 108, 100, 32] }, b, { data := #[32] }, (decT se), { data := #[10] }], p.size ≤ 1000000000) := by
      intro p hp
      simp only [List.mem_cons, List.not_mem_nil, or_false] at hp
      rcases hp with rfl | rfl | rfl | rfl | rfl
      all_goals first | assumption | decide | omega
     have HRW : Hid (W.RowsAt (w.alloc (.cells #[.int .i64 1, .string b, .int .i64 se, .slice (some ⟨g, 0, none⟩) ws.length cap, .string h, .string c, .int .i64 0] 25)) g 0 ws) := HP0.out.r.keep HP0.out.g (bl_alloc (Below.refl _ _) _)
     have HGW : Hid (g < (w.alloc (.cells #[.int .i64 1, .string b, .int .i64 se, .slice (some ⟨g, 0, none⟩) ws.length cap, .string h, .string c, .int .i64 0] 25)).heap.size) := Nat.lt_of_lt_of_le HP0.out.g (by simp)
     go_enter Tryz.func7, Tryz.ntmps7
     go_wp2_with (first | (go_at_call 25; refine (specName_any _ _ (by assumption)).mono ?_; rintro e w' ⟨rfl, rfl⟩; first | rw [hb] | rw [hn] | skip) | (go_at_call 26; refine (specHold_any h _ zh).mono ?_; rintro e w' ⟨rfl, rfl⟩; first | rw [hq] | rw [hh] | skip) | (go_at_call 27; refine (specIn_any _ _ _ _).mono ?_; rintro e w' ⟨rfl, rfl⟩; try rw [ht]; try rw [hi]))
     refine (W.specWantsOk g 0 cap ws _ HRW.out HGW.out HP0.out.f HP0.out.l).mono ?_
     rintro e w2 ⟨⟨q, rfl, hq0⟩, b2⟩
     have HQ : Hid (q = wantsB ws) := says_eq hq0
     have HS : Hid (W.Says q ws) := hq0
     obtain ⟨W1, hW1⟩ : ∃ W1, W1 = (w.alloc (.cells #[.int .i64 1, .string b, .int .i64 se, .slice (some ⟨g, 0, none⟩) ws.length cap, .string h, .string c, .int .i64 0] 25)) := ⟨_, rfl⟩
     rw [← hW1] at b2
     have HB : Hid (Below w.heap.size w W1) := by rw [hW1]; exact bl_alloc (Below.refl _ _) _
     have KX : Hid (∀ y, Below W1.heap.size W1 y → ∀ k, y.cell? ⟨w.heap.size, k, none⟩ = (#[.int .i64 1, .string b, .int .i64 se, .slice (some ⟨g, 0, none⟩) ws.length cap, .string h, .string c, .int .i64 0] : Array Value)[k]?) := by
      intro y hb k
      rw [hW1] at hb
      rw [box_keep hb k]
      simp [go_sem]
     have KR : Hid (∀ y, Below W1.heap.size W1 y → W.RowsAt y g 0 ws ∧ g < y.heap.size ∧ w.heap.size < y.heap.size) := by
      intro y hb
      rw [hW1] at hb
      exact ⟨HRW.out.keep HGW.out hb, Nat.lt_of_lt_of_le HGW.out hb.size, Nat.lt_of_lt_of_le (by simp) hb.size⟩
     have B2 : Hid (Below W1.heap.size W1 w2) := b2
     have kb2 := KX.out _ b2
     clear hq0 b2 hW1
     cases q
     ·
      have e0 : formT ⟨1, b, se, ws, h, c, 0⟩ = { data := #[] } := by simp [formT, hb, ← HQ.out]
      have HE0 : Hid (formT ⟨1, b, se, ws, h, c, 0⟩ = { data := #[] }) := e0
      clear e0
      go_wp2_with (first | (go_at_call 25; refine (specName_any _ _ (by assumption)).mono ?_; rintro e w' ⟨rfl, rfl⟩; first | rw [hb] | rw [hn] | skip) | (go_at_call 26; refine (specHold_any h _ zh).mono ?_; rintro e w' ⟨rfl, rfl⟩; first | rw [hq] | rw [hh] | skip) | (go_at_call 27; refine (specIn_any _ _ _ _).mono ?_; rintro e w' ⟨rfl, rfl⟩; try rw [ht]; try rw [hi]))
      go_ret
      exact ⟨by rw [HE0.out]; rfl, bl_trans HB.out B2.out⟩
     have e0 : formT ⟨1, b, se, ws, h, c, 0⟩ = tailT ws (catL [{ data := #[116, 111, 108, 100, 32] }, b, { data := #[32] }, (decT se), { data := #[10] }]) := by simp [formT, hb, ← HQ.out, hi, hh, hn]
     have HE0 : Hid (formT ⟨1, b, se, ws, h, c, 0⟩ = tailT ws (catL [{ data := #[116, 111, 108, 100, 32] }, b, { data := #[32] }, (decT se), { data := #[10] }])) := e0
     clear e0
     go_wp2_with (first | (go_at_call 25; refine (specName_any _ _ (by assumption)).mono ?_; rintro e w' ⟨rfl, rfl⟩; first | rw [hb] | rw [hn] | skip) | (go_at_call 26; refine (specHold_any h _ zh).mono ?_; rintro e w' ⟨rfl, rfl⟩; first | rw [hq] | rw [hh] | skip) | (go_at_call 27; refine (specIn_any _ _ _ _).mono ?_; rintro e w' ⟨rfl, rfl⟩; try rw [ht]; try rw [hi]))
     clear kb2 hb
     refine wp_region_any (by kernel_rfl) ?_
     refine reg_invP slF10 10 (GF1 w.heap.size b h c 1 se 0) (fun y => Below W1.heap.size W1 y) (by decide) rfl (bl_drew B2.out) ?donef1 ?stepf1
     case donef1 =>
      intro a y hI
      have r4 : a.tmps.getD 4 undef = .string (catL [{ data := #[116, 111, 108, 100, 32] }, b, { data := #[32] }, (decT se), { data := #[10] }]) := hI.all 9 (by omega)
      obtain ⟨l, hl, ha⟩ := frameP_two (lo := 71) (n := 9) (se := 4) hI.df hI.sz (lb rfl) (lb rfl) (fun j hj1 hj2 => hI.out j (fun i hi => slF10_far j hj1 hj2 i hi))
      rw [r4] at ha
      have HY : Hid (Below W1.heap.size W1 y) := hI.d
      clear r4 hI
      subst ha
      obtain ⟨v0, l0, rfl, hl0⟩ := lenP_succ hl
      obtain ⟨v1, l1, rfl, hl1⟩ := lenP_succ hl0
      obtain ⟨v2, l2, rfl, hl2⟩ := lenP_succ hl1
      obtain ⟨v3, l3, rfl, hl3⟩ := lenP_succ hl2
      obtain ⟨v4, l4, rfl, hl4⟩ := lenP_succ hl3
      obtain ⟨v5, l5, rfl, hl5⟩ := lenP_succ hl4
      obtain ⟨v6, l6, rfl, hl6⟩ := lenP_succ hl5
      obtain ⟨v7, l7, rfl, hl7⟩ := lenP_succ hl6
      obtain ⟨v8, l8, rfl, hl8⟩ := lenP_succ hl7
      obtain rfl := lenP_zero hl8
      simp only [List.setIfInBounds_toArray, List.set_cons_succ, List.set_cons_zero, List.take_succ_cons, List.take_zero, List.drop_succ_cons, List.drop_zero, List.cons_append, List.nil_append, Nat.reduceAdd]
      have hall : ws.length ≤ 10 ∧ W.AllW ws ws.length := HS.out.1 rfl
      have hlen : ws.length ≤ 10 := hall.1
      have HWr : Hid (∀ r ∈ ws, Writes r) := fun r hr => by
       obtain ⟨j, hj⟩ := List.getElem?_of_mem hr
       exact writes_of (hall.2.1 j r (List.getElem?_eq_some_iff.1 hj).1 hj)
      have hT0 := catL_n 1000000000 5 [{ data := #[116, 111, 108, 100, 32] }, b, { data := #[32] }, (decT se), { data := #[10] }] HP.out rfl
      have hT1 : (catL [{ data := #[116, 111, 108, 100, 32] }, b, { data := #[32] }, (decT se), { data := #[10] }]).size ≤ 5000000000 := by omega
      have HT0 : Hid ((catL [{ data := #[116, 111, 108, 100, 32] }, b, { data := #[32] }, (decT se), { data := #[10] }]).size ≤ 5000000000) := hT1
      clear hT0 hT1
      clear hall
      go_wp2_with fail
      go_loopw [4, 5] (fun x i wx => ∃ (j : Nat), i = .int .i64 (j : Int) ∧ j ≤ ws.length ∧ x = .string (tailT (ws.take j) (catL [{ data := #[116, 111, 108, 100, 32] }, b, { data := #[32] }, (decT se), { data := #[10] }])) ∧ Hid (Below W1.heap.size W1 wx)) (fun _ i _ => ws.length - (intOf i).toNat)
      case atStart => exact ⟨0, rfl, Nat.zero_le _, rfl, HY.out⟩
      case round =>
       obtain ⟨j, rfl, hj, rfl, HW⟩ := hrel
       have kb3 : wr.cell? ⟨w.heap.size, 3, none⟩ = some (.slice (some ⟨g, 0, none⟩) ws.length cap) := KX.out _ HW.out 3
       by_cases hlt : j < ws.length
       ·
        obtain ⟨r, hr⟩ : ∃ r, ws[j]? = some r := ⟨ws[j], List.getElem?_eq_getElem hlt⟩
        have Hr : Hid (ws[j]? = some r) := hr
        have Hw : Hid (Writes r) := HWr.out r (List.mem_of_getElem? hr)
        obtain ⟨c0, c1, c2, c3, c4, c5, c6⟩ := W.RowsAt.at (KR.out _ HW.out).1 hr
        simp only [Nat.zero_add] at c0 c1 c2 c3 c4 c5 c6
        have j0 : (0 : Int) ≤ (j : Int) := by omega
        have j1 : (j : Int) < (ws.length : Int) := by omega
        have hz : ¬ (9223372036854775807 < (tailT (ws.take j) (catL [{ data := #[116, 111, 108, 100, 32] }, b, { data := #[32] }, (decT se), { data := #[10] }])).size + (wantT r).size) := by
         have h1 := tail_le (ws.take j) (catL [{ data := #[116, 111, 108, 100, 32] }, b, { data := #[32] }, (decT se), { data := #[10] }]) (fun q hq => HWr.out q (List.mem_of_mem_take hq))
         have h2 := wantT_size Hw.out
         have h3 := HT0.out
         have h4 : (ws.take j).length ≤ 10 := by simp; omega
         have h5 : (ws.take j).length * 15000000000 ≤ 10 * 15000000000 := Nat.mul_le_mul_right _ h4
         omega
        clear hr
        go_wp2_with (go_at_call 29; refine (specWantT r _ Hw.out).mono ?_; rintro e w3 ⟨rfl, b3⟩; have B3 : Hid (Below W1.heap.size W1 w3) := bl_trans HW.out b3; clear b3)
        exact ⟨⟨j + 1, by go_num, by omega, by rw [tail_succ Hr.out], B3.out⟩, by simp [intOf]; omega⟩
       ·
        go_wp2_with fail
        go_ret
        have hjl : j = ws.length := by omega
        exact ⟨by rw [HE0.out, hjl, List.take_length]; rfl, bl_trans HB.out HW.out⟩
     case stepf1 =>
      intro listed x y i hI hi hlt
      obtain rfl | rfl | rfl | rfl | rfl | rfl | rfl | rfl | rfl | rfl : i = 0 ∨ i = 1 ∨ i = 2 ∨ i = 3 ∨ i = 4 ∨ i = 5 ∨ i = 6 ∨ i = 7 ∨ i = 8 ∨ i = 9 := by omega
      ·
       clear hi
       refine wpOp_plain rfl rfl (wp_cover fun K hK => ?_)
       have i1 : x.tmps[1]?.getD undef = _ := ev_tmp (hI.out 1 (slF10_out 1 (by decide)))
       have HJ := hidP hI
       clear hI
       go_simp
       exact HJ.out.sm hK (by omega) (lb rfl) (slF10_inj (by omega)) rfl
      ·
       have gd0 := hI.good 0 (by omega) (waits_of hi (j := 0) (by rfl))
       clear hi
       refine wpOp_plain rfl rfl (wp_cover fun K hK => ?_)
       have ed0 : x.tmps[71]?.getD undef = _ := ev_tmp gd0
       have k9 : y.cell? ⟨w.heap.size, 1, none⟩ = some (.string b) := KX.out y hI.d 1
       have HJ := hidP hI
       clear hI gd0
       go_simp
       exact HJ.out.sm hK (by omega) (lb rfl) (slF10_inj (by omega)) rfl
      ·
       have gd1 := hI.good 1 (by omega) (waits_of hi (j := 1) (by rfl))
       clear hi
       refine wpOp_plain rfl rfl (wp_cover fun K hK => ?_)
       have ed1 : x.tmps[72]?.getD undef = _ := ev_tmp gd1
       have hz : ¬ (9223372036854775807 < 5 + (b).size) := by have h := cat_room1 [{ data := #[116, 111, 108, 100, 32] }, b, { data := #[32] }, (decT se), { data := #[10] }] HP.out (lb rfl); exact h
       have HJ := hidP hI
       clear hI gd1
       go_simp
       exact HJ.out.sm hK (by omega) (lb rfl) (slF10_inj (by omega)) rfl
      ·
       have gd2 := hI.good 2 (by omega) (waits_of hi (j := 2) (by rfl))
       clear hi
       refine wpOp_plain rfl rfl (wp_cover fun K hK => ?_)
       have ed2 : x.tmps[73]?.getD undef = _ := ev_tmp gd2
       have hz : ¬ (9223372036854775807 < (catL [{ data := #[116, 111, 108, 100, 32] }, b]).size + 1) := by have h := cat_room [{ data := #[116, 111, 108, 100, 32] }, b, { data := #[32] }, (decT se), { data := #[10] }] 2 HP.out (lb rfl); exact h
       have HJ := hidP hI
       clear hI gd2
       go_simp
       exact HJ.out.sm hK (by omega) (lb rfl) (slF10_inj (by omega)) rfl
      ·
       clear hi
       refine wpOp_plain rfl rfl (wp_cover fun K hK => ?_)
       have i1 : x.tmps[1]?.getD undef = _ := ev_tmp (hI.out 1 (slF10_out 1 (by decide)))
       have HJ := hidP hI
       clear hI
       go_simp
       exact HJ.out.sm hK (by omega) (lb rfl) (slF10_inj (by omega)) rfl
      ·
       have gd4 := hI.good 4 (by omega) (waits_of hi (j := 4) (by rfl))
       clear hi
       refine wpOp_plain rfl rfl (wp_cover fun K hK => ?_)
       have ed4 : x.tmps[75]?.getD undef = _ := ev_tmp gd4
       have k9 : y.cell? ⟨w.heap.size, 2, none⟩ = some (.int .i64 se) := KX.out y hI.d 2
       have HJ := hidP hI
       clear hI gd4
       go_simp
       exact HJ.out.sm hK (by omega) (lb rfl) (slF10_inj (by omega)) rfl
      ·
       have gd5 := hI.good 5 (by omega) (waits_of hi (j := 5) (by rfl))
       clear hi
       refine wpOp_plain rfl rfl (wp_cover fun K hK => ?_)
       have ed5 : x.tmps[76]?.getD undef = _ := ev_tmp gd5
       have HJ := hidP hI
       clear hI gd5
       go_simp
       refine (specDecI se y (by first | assumption | omega) (by first | assumption | omega)).mono ?_
       rintro e y' ⟨rfl, hb⟩
       exact hK.out _ _ (HJ.out.put (by omega) (lb rfl) (slF10_inj (by omega)) (rfl) (fun j u _ h => GF1.keep hb j u h) (bl_trans HJ.out.d hb))
      ·
       have gd3 := hI.good 3 (by omega) (waits_of hi (j := 3) (by rfl))
       have gd6 := hI.good 6 (by omega) (waits_of hi (j := 6) (by rfl))
       clear hi
       refine wpOp_plain rfl rfl (wp_cover fun K hK => ?_)
       have ed3 : x.tmps[74]?.getD undef = _ := ev_tmp gd3
       have ed6 : x.tmps[77]?.getD undef = _ := ev_tmp gd6
       have hz : ¬ (9223372036854775807 < (catL [{ data := #[116, 111, 108, 100, 32] }, b, { data := #[32] }]).size + ((decT se)).size) := by have h := cat_room [{ data := #[116, 111, 108, 100, 32] }, b, { data := #[32] }, (decT se), { data := #[10] }] 3 HP.out (lb rfl); exact h
       have HJ := hidP hI
       clear hI gd3 gd6
       go_simp
       exact HJ.out.sm hK (by omega) (lb rfl) (slF10_inj (by omega)) rfl
      ·
       have gd7 := hI.good 7 (by omega) (waits_of hi (j := 7) (by rfl))
       clear hi
       refine wpOp_plain rfl rfl (wp_cover fun K hK => ?_)
       have ed7 : x.tmps[78]?.getD undef = _ := ev_tmp gd7
       have hz : ¬ (9223372036854775807 < (catL [{ data := #[116, 111, 108, 100, 32] }, b, { data := #[32] }, (decT se)]).size + 1) := by have h := cat_room [{ data := #[116, 111, 108, 100, 32] }, b, { data := #[32] }, (decT se), { data := #[10] }] 4 HP.out (lb rfl); exact h
       have HJ := hidP hI
       clear hI gd7
       go_simp
       exact HJ.out.sm hK (by omega) (lb rfl) (slF10_inj (by omega)) rfl
      ·
       have gd8 := hI.good 8 (by omega) (waits_of hi (j := 8) (by rfl))
       clear hi
       refine wpOp_plain rfl rfl (wp_cover fun K hK => ?_)
       have ed8 : x.tmps[79]?.getD undef = _ := ev_tmp gd8
       have HJ := hidP hI
       clear hI gd8
       go_simp
       exact HJ.out.sm hK (by omega) (lb rfl) (slF10_inj (by omega)) rfl
    ·
     have e0 : formT ⟨1, b, se, ws, h, c, t⟩ = { data := #[] } := by simp [formT, hb, hi, hh, hn, ht]
     have HE0 : Hid (formT ⟨1, b, se, ws, h, c, t⟩ = { data := #[] }) := e0
     clear e0
     have HRW : Hid (W.RowsAt (w.alloc (.cells #[.int .i64 1, .string b, .int .i64 se, .slice (some ⟨g, 0, none⟩) ws.length cap, .string h, .string c, .int .i64 t] 25)) g 0 ws) := HP0.out.r.keep HP0.out.g (bl_alloc (Below.refl _ _) _)
     have HGW : Hid (g < (w.alloc (.cells #[.int .i64 1, .string b, .int .i64 se, .slice (some ⟨g, 0, none⟩) ws.length cap, .string h, .string c, .int .i64 t] 25)).heap.size) := Nat.lt_of_lt_of_le HP0.out.g (by simp)
     go_enter Tryz.func7, Tryz.ntmps7
     go_wp2_with (first | (go_at_call 25; refine (specName_any _ _ (by assumption)).mono ?_; rintro e w' ⟨rfl, rfl⟩; first | rw [hb] | rw [hn] | skip) | (go_at_call 26; refine (specHold_any h _ zh).mono ?_; rintro e w' ⟨rfl, rfl⟩; first | rw [hq] | rw [hh] | skip) | (go_at_call 27; refine (specIn_any _ _ _ _).mono ?_; rintro e w' ⟨rfl, rfl⟩; try rw [ht]; try rw [hi]) | (go_at_call 14; refine (W.specWantsOk g 0 cap ws _ HRW.out HGW.out HP0.out.f HP0.out.l).mono ?_; rintro e w2 ⟨⟨q, rfl, hq0⟩, b2⟩; have HQ : Hid (W.Says q ws) := hq0; have B2 : Hid (Below (w.alloc (.cells #[.int .i64 1, .string b, .int .i64 se, .slice (some ⟨g, 0, none⟩) ws.length cap, .string h, .string c, .int .i64 t] 25)).heap.size (w.alloc (.cells #[.int .i64 1, .string b, .int .i64 se, .slice (some ⟨g, 0, none⟩) ws.length cap, .string h, .string c, .int .i64 t] 25)) w2) := b2; have kb2 := box_keep b2; clear hq0 b2))
     all_goals (go_ret; exact ⟨by rw [HE0.out]; rfl, bl_trans (bl_alloc (Below.refl _ _) _) B2.out⟩)
end Go.Proofs.YtgakmkhbnjofhaaGreatDoor
