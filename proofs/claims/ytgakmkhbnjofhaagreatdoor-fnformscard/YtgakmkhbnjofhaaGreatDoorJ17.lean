import Derived.Test.YtgakmkhbnjofhaaGreatDoorJ16
import Derived.Test.YtgakmkhbnjofhaaGreatDoorJ15
import Derived.Lib.AtoiAll
import Derived.Lib.IndexMore
namespace Go.Proofs.YtgakmkhbnjofhaaGreatDoor
open Go.RowKit
set_option linter.unusedVariables false
def noHoldB (h c : ByteArray) (t : Int) : Bool := h.toList.isEmpty && (c.toList.isEmpty && (t == 0))
def noWantsB (se : Int) (n : Nat) : Bool := (se == 0) && ((n : Int) == 0)
def namesB (b h c : ByteArray) (t : Int) : Bool := nameB b && (nameB c && (holdB h && inB t 0 1000000))
set_option maxRecDepth 4000 in
set_option maxHeartbeats 2000000 in
theorem noHold_any (k : Int) (b : ByteArray) (se : Int) (v3 : Option Addr) (n cap : Nat) (h c : ByteArray) (t : Int) (w : World) :
  Calls Tryz.prog 96 #[.agg #[.int .i64 k, .string b, .int .i64 se, .slice v3 n cap, .string h, .string c, .int .i64 t]] w fun e w' => e = .returned (.bool (noHoldB h c t)) ∧ Below w.heap.size w w' := by
 go_enter Tryz.func96, Tryz.ntmps96
 go_wp2_with fail
 all_goals (go_ret; refine ⟨ret_b ?_, ?_⟩)
 all_goals first | exact bl_alloc (Below.refl _ _) _ | simp [noHoldB, *]
set_option maxRecDepth 4000 in
set_option maxHeartbeats 2000000 in
theorem noWants_any (k : Int) (b : ByteArray) (se : Int) (v3 : Option Addr) (n cap : Nat) (h c : ByteArray) (t : Int) (w : World) :
  Calls Tryz.prog 98 #[.agg #[.int .i64 k, .string b, .int .i64 se, .slice v3 n cap, .string h, .string c, .int .i64 t]] w fun e w' => e = .returned (.bool (noWantsB se n)) ∧ Below w.heap.size w w' := by
 go_enter Tryz.func98, Tryz.ntmps98
 go_wp2_with fail
 all_goals (go_ret; refine ⟨ret_b ?_, ?_⟩)
 all_goals first | exact bl_alloc (Below.refl _ _) _ | simp [noWantsB, *]
set_option maxRecDepth 4000 in
set_option maxHeartbeats 2000000 in
theorem names_any (k : Int) (b : ByteArray) (se : Int) (v3 : Option Addr) (n cap : Nat) (h c : ByteArray) (t : Int) (w : World) (zb : b.size ≤ maxLen) (zh : h.size ≤ maxLen) (zc : c.size ≤ maxLen) :
  Calls Tryz.prog 97 #[.agg #[.int .i64 k, .string b, .int .i64 se, .slice v3 n cap, .string h, .string c, .int .i64 t]] w fun e w' => e = .returned (.bool (namesB b h c t)) ∧ Below w.heap.size w w' := by
 go_enter Tryz.func97, Tryz.ntmps97
 go_wp2_with (first | (go_at_call 95; refine (implName_any _ _ (by assumption)).mono ?_; rintro e w' ⟨rfl, rfl⟩) | (go_at_call 99; refine (implHold_any _ _ (by assumption)).mono ?_; rintro e w' ⟨rfl, rfl⟩) | (go_at_call 67; refine (within_any _ _ _ _).mono ?_; rintro e w' ⟨rfl, rfl⟩))
 all_goals (go_ret; refine ⟨ret_b ?_, ?_⟩)
 all_goals first | exact bl_alloc (Below.refl _ _) _ | simp [namesB, *]
set_option maxRecDepth 4000 in
set_option maxHeartbeats 2000000 in
theorem fitsHold_any (k : Int) (b : ByteArray) (se : Int) (v3 : Option Addr) (n cap : Nat) (h c : ByteArray) (t : Int) (w : World) (zb : b.size ≤ maxLen) (zh : h.size ≤ maxLen) (zc : c.size ≤ maxLen) :
  Calls Tryz.prog 76 #[.agg #[.int .i64 k, .string b, .int .i64 se, .slice v3 n cap, .string h, .string c, .int .i64 t]] w fun e w' => e = .returned (.bool (namesB b h c t && noWantsB se n)) ∧ Below w.heap.size w w' := by
 go_enter Tryz.func76, Tryz.ntmps76
 go_wp2_with (first | (go_at_call 97; refine (names_any k b se v3 n cap h c t _ zb zh zc).mono ?_; rintro e w1 ⟨rfl, b1⟩; have kb1 := box_keep b1; have HB1 : Hid (Below w.heap.size w w1) := bl_trans (bl_alloc (Below.refl _ _) _) b1; clear b1) | (go_at_call 98; refine (noWants_any k b se v3 n cap h c t _).mono ?_; rintro e w2 ⟨rfl, b2⟩; have HB2 : Hid (Below w.heap.size w w2) := bl_trans HB1.out b2; clear b2))
 all_goals (go_ret; refine ⟨ret_b ?_, ?_⟩)
 all_goals first | exact HB2.out | exact HB1.out | simp [*]
def gotB (b h c : ByteArray) (se t : Int) (n : Nat) : Bool := nameB b && (holdB h && (inB t 0 1000000 && (c.toList.isEmpty && noWantsB se n)))
set_option maxRecDepth 4000 in
set_option maxHeartbeats 2000000 in
theorem fitsGot_any (k : Int) (b : ByteArray) (se : Int) (v3 : Option Addr) (n cap : Nat) (h c : ByteArray) (t : Int) (w : World) (zb : b.size ≤ maxLen) (zh : h.size ≤ maxLen) (zc : c.size ≤ maxLen) :
  Calls Tryz.prog 79 #[.agg #[.int .i64 k, .string b, .int .i64 se, .slice v3 n cap, .string h, .string c, .int .i64 t]] w fun e w' => e = .returned (.bool (gotB b h c se t n)) ∧ Below w.heap.size w w' := by
 go_enter Tryz.func79, Tryz.ntmps79
 go_wp2_with (first | (go_at_call 95; refine (implName_any _ _ (by assumption)).mono ?_; rintro e w' ⟨rfl, rfl⟩) | (go_at_call 99; refine (implHold_any _ _ (by assumption)).mono ?_; rintro e w' ⟨rfl, rfl⟩) | (go_at_call 67; refine (within_any _ _ _ _).mono ?_; rintro e w' ⟨rfl, rfl⟩) | (go_at_call 98; refine (noWants_any k b se v3 n cap h c t _).mono ?_; rintro e w2 ⟨rfl, b2⟩; have HB2 : Hid (Below w.heap.size w w2) := bl_trans (bl_alloc (Below.refl _ _) _) b2; clear b2))
 all_goals (go_ret; refine ⟨ret_b ?_, ?_⟩)
 all_goals first | exact HB2.out | exact bl_alloc (Below.refl _ _) _ | simp [gotB, *]
def hereB (b h c : ByteArray) (se t : Int) (n : Nat) : Bool := nameB b && (inB se 0 1000000 && (((n : Int) == 0) && noHoldB h c t))
set_option maxRecDepth 4000 in
set_option maxHeartbeats 2000000 in
theorem fitsHere_any (k : Int) (b : ByteArray) (se : Int) (v3 : Option Addr) (n cap : Nat) (h c : ByteArray) (t : Int) (w : World) (zb : b.size ≤ maxLen) (zh : h.size ≤ maxLen) (zc : c.size ≤ maxLen) :
  Calls Tryz.prog 82 #[.agg #[.int .i64 k, .string b, .int .i64 se, .slice v3 n cap, .string h, .string c, .int .i64 t]] w fun e w' => e = .returned (.bool (hereB b h c se t n)) ∧ Below w.heap.size w w' := by
 go_enter Tryz.func82, Tryz.ntmps82
 go_wp2_with (first | (go_at_call 95; refine (implName_any _ _ (by assumption)).mono ?_; rintro e w' ⟨rfl, rfl⟩) | (go_at_call 67; refine (within_any _ _ _ _).mono ?_; rintro e w' ⟨rfl, rfl⟩) | (go_at_call 96; refine (noHold_any k b se v3 _ cap h c t _).mono ?_; rintro e w2 ⟨rfl, b2⟩; have HB2 : Hid (Below w.heap.size w w2) := bl_trans (bl_alloc (Below.refl _ _) _) b2; clear b2))
 all_goals (go_ret; refine ⟨ret_b ?_, ?_⟩)
 all_goals first | exact HB2.out | exact bl_alloc (Below.refl _ _) _ | simp [hereB, *]
noncomputable def toldB (b h c : ByteArray) (se t : Int) (ws : List W.WantD) : Bool := nameB b && (inB se 1 1000000 && (wantsB ws && noHoldB h c t))
theorem ParIn.keep {w w' : World} {P : ParD} {g : Nat} (h : ParIn w P g) (hb : Below w.heap.size w w') : ParIn w' P g := ⟨h.b, h.h, h.c, h.l, h.f, h.r.keep h.g hb, Nat.lt_of_lt_of_le h.g hb.size⟩
theorem told_yes {b h c : ByteArray} {se t : Int} {ws : List W.WantD} (hh : toldB b h c se t ws = true) : formT ⟨1, b, se, ws, h, c, t⟩ = tailT ws (lineT (wd [116, 111, 108, 100]) [b, decT se]) := by
 unfold toldB noHoldB at hh
 simp only [Bool.and_eq_true, beq_iff_eq] at hh
 obtain ⟨h1, h2, h3, h4, h5, h6⟩ := hh
 rw [line2]
 simp [formT, h1, h2, h3, h4, h5, h6, wd]
theorem told_no {b h c : ByteArray} {se t : Int} {ws : List W.WantD} (hh : toldB b h c se t ws = false) : formT ⟨1, b, se, ws, h, c, t⟩ = { data := #[] } := by
 unfold toldB noHoldB at hh
 unfold formT
 cases h1 : nameB b
 ·
  rfl
 ·
  rw [if_neg (by simp), if_neg (by simp), if_pos rfl, if_neg]
  rintro ⟨h3, h2, h4, h5, h6⟩
  simp only at h1 h2 h3 h4 h5 h6
  rw [h1, h2, h3, h4, h5, h6] at hh
  simp at hh
theorem hold_yes {k : Int} {b h c : ByteArray} {se t : Int} {ws : List W.WantD} (hk : k = 2 ∨ k = 3 ∨ k = 4) (l : List UInt8) (hl : wordT k = wd (l ++ [32])) (hh : (namesB b h c t && noWantsB se ws.length) = true) : formT ⟨k, b, se, ws, h, c, t⟩ = lineT (wd l) [b, h, c, decT t] := by
 unfold namesB noWantsB at hh
 simp only [Bool.and_eq_true, beq_iff_eq] at hh
 obtain ⟨⟨h1, h2, h3, h4⟩, h5, h6⟩ := hh
 have hw : ws.length = 0 := by omega
 rw [line4, ← hl]
 have k1 : k ≠ 1 := by omega
 simp [formT, h1, h2, h3, h4, h5, hw, hk, k1]
theorem hold_no {k : Int} {b h c : ByteArray} {se t : Int} {ws : List W.WantD} (hk : k = 2 ∨ k = 3 ∨ k = 4) (hh : (namesB b h c t && noWantsB se ws.length) = false) : formT ⟨k, b, se, ws, h, c, t⟩ = { data := #[] } := by
 unfold namesB noWantsB at hh
 unfold formT
 have k1 : k ≠ 1 := by omega
 have k6 : k ≠ 6 := by omega
 cases h1 : nameB b
 ·
  rfl
 ·
  rw [if_neg (by simp)]
  by_cases h5 : (k ≠ 1 ∧ 0 < ws.length) ∨ (k ≠ 1 ∧ k ≠ 6 ∧ se ≠ 0)
  ·
   rw [if_pos h5]
  ·
   rw [if_neg h5, if_neg k1, if_pos hk, if_neg]
   rintro ⟨h3, h4, h2⟩
   have hw : ws.length = 0 := by
    rcases Nat.eq_zero_or_pos ws.length with e | e
    ·
     exact e
    ·
     exact absurd (Or.inl ⟨k1, e⟩) h5
   have hs : se = 0 := Decidable.byContradiction fun e => h5 (Or.inr ⟨k1, k6, e⟩)
   simp only at h1 h2 h3 h4
   rw [h1, h2, h3, h4, hw, hs] at hh
   simp at hh
theorem got_yes {b h c : ByteArray} {se t : Int} {ws : List W.WantD} (hh : gotB b h c se t ws.length = true) : formT ⟨5, b, se, ws, h, c, t⟩ = lineT (wd [103, 111, 116, 98, 97, 99, 107]) [b, h, decT t] := by
 unfold gotB noWantsB at hh
 simp only [Bool.and_eq_true, beq_iff_eq] at hh
 obtain ⟨h1, h2, h3, h4, h5, h6⟩ := hh
 have hw : ws.length = 0 := by omega
 rw [line3]
 simp [formT, h1, h2, h3, h4, h5, hw, wd]
theorem got_no {b h c : ByteArray} {se t : Int} {ws : List W.WantD} (hh : gotB b h c se t ws.length = false) : formT ⟨5, b, se, ws, h, c, t⟩ = { data := #[] } := by
 unfold gotB noWantsB at hh
 unfold formT
 cases h1 : nameB b
 ·
  rfl
 ·
  rw [if_neg (by simp)]
  by_cases h5 : ((5 : Int) ≠ 1 ∧ 0 < ws.length) ∨ ((5 : Int) ≠ 1 ∧ (5 : Int) ≠ 6 ∧ se ≠ 0)
  ·
   rw [if_pos h5]
  ·
   rw [if_neg h5, if_neg (by simp), if_neg (by simp), if_pos rfl, if_neg]
   rintro ⟨h3, h4, h2⟩
   have hw : ws.length = 0 := by
    rcases Nat.eq_zero_or_pos ws.length with e | e
    ·
     exact e
    ·
     exact absurd (Or.inl ⟨by decide, e⟩) h5
   have hs : se = 0 := Decidable.byContradiction fun e => h5 (Or.inr ⟨by decide, by decide, e⟩)
   simp only at h1 h2 h3 h4
   rw [h1, h2, h3, h4, hw, hs] at hh
   simp at hh
theorem here_yes {b h c : ByteArray} {se t : Int} {ws : List W.WantD} (hh : hereB b h c se t ws.length = true) : formT ⟨6, b, se, ws, h, c, t⟩ = lineT (wd [104, 101, 114, 101]) [b, decT se] := by
 unfold hereB noHoldB at hh
 simp only [Bool.and_eq_true, beq_iff_eq] at hh
 obtain ⟨h1, h2, h3, h4, h5, h6⟩ := hh
 have hw : ws.length = 0 := by omega
 rw [line2]
 simp [formT, h1, h2, h4, h5, h6, hw, wd]
theorem here_no {b h c : ByteArray} {se t : Int} {ws : List W.WantD} (hh : hereB b h c se t ws.length = false) : formT ⟨6, b, se, ws, h, c, t⟩ = { data := #[] } := by
 unfold hereB noHoldB at hh
 unfold formT
 cases h1 : nameB b
 ·
  rfl
 ·
  rw [if_neg (by simp)]
  by_cases h5 : ((6 : Int) ≠ 1 ∧ 0 < ws.length) ∨ ((6 : Int) ≠ 1 ∧ (6 : Int) ≠ 6 ∧ se ≠ 0)
  ·
   rw [if_pos h5]
  ·
   rw [if_neg h5, if_neg (by simp), if_neg (by simp), if_neg (by simp), if_pos rfl, if_neg]
   rintro ⟨h3, h4, h2, h6⟩
   have hw : ws.length = 0 := by
    rcases Nat.eq_zero_or_pos ws.length with e | e
    ·
     exact e
    ·
     exact absurd (Or.inl ⟨by decide, e⟩) h5
   simp only at h1 h2 h3 h4 h6
   rw [h1, h2, h3, h4, hw, h6] at hh
   simp at hh
theorem other_no {k : Int} {b h c : ByteArray} {se t : Int} {ws : List W.WantD} (hk : ¬ (1 ≤ k ∧ k ≤ 6)) : formT ⟨k, b, se, ws, h, c, t⟩ = { data := #[] } := by
 have e1 : k ≠ 1 := by omega
 have e2 : k ≠ 2 := by omega
 have e3 : k ≠ 3 := by omega
 have e4 : k ≠ 4 := by omega
 have e5 : k ≠ 5 := by omega
 have e6 : k ≠ 6 := by omega
 simp [formT, e1, e2, e3, e4, e5, e6]
theorem wd_data (x : ByteArray) : wd x.data.toList = x := by
 obtain ⟨⟨l⟩⟩ := x
 rfl
theorem wd_list (l : List UInt8) : (wd l).data.toList = l := by simp [wd]
def val10 (l : List UInt8) : Nat := l.foldl (fun n c => n * 10 + (c.toNat - 48)) 0
theorem val10_snoc (l : List UInt8) (c : UInt8) : val10 (l ++ [c]) = val10 l * 10 + (c.toNat - 48) := by simp [val10, List.foldl_append]
theorem dig_nat {d : Nat} (h : d < 10) : (UInt8.ofNat (48 + d)).toNat = 48 + d := by
 rw [UInt8.toNat_ofNat']
 omega
theorem dec_one {u : Nat} (h : u < 10) : Lib.decDigits u = [UInt8.ofNat (48 + u)] := by rw [Lib.decDigits, dif_pos h]
theorem dec_more {u : Nat} (h : ¬ u < 10) : Lib.decDigits u = Lib.decDigits (u / 10) ++ [UInt8.ofNat (48 + u % 10)] := by rw [Lib.decDigits, dif_neg h]
theorem val10_dec (u : Nat) : val10 (Lib.decDigits u) = u := by
 induction u using Nat.strongRecOn with
 | ind u ih =>
  by_cases h : u < 10
  ·
   rw [dec_one h]
   simp only [val10, List.foldl_cons, List.foldl_nil]
   rw [dig_nat h]
   omega
  ·
   rw [dec_more h, val10_snoc, ih (u / 10) (by omega), dig_nat (by omega)]
   omega
def digB (c : UInt8) : Bool := decide (48 ≤ c.toNat) && decide (c.toNat ≤ 57)
theorem dec_digits (u : Nat) : ∀ c ∈ Lib.decDigits u, digB c = true := by
 induction u using Nat.strongRecOn with
 | ind u ih =>
  intro c hc
  by_cases h : u < 10
  ·
   rw [dec_one h, List.mem_singleton] at hc
   subst hc
   unfold digB
   rw [dig_nat h]
   simp only [Bool.and_eq_true, decide_eq_true_eq]
   omega
  ·
   rw [dec_more h, List.mem_append, List.mem_singleton] at hc
   rcases hc with hc | hc
   ·
    exact ih (u / 10) (by omega) c hc
   ·
    subst hc
    unfold digB
    rw [dig_nat (by omega)]
    simp only [Bool.and_eq_true, decide_eq_true_eq]
    omega
theorem dec_len (k : Nat) : ∀ u, u < 10 ^ (k + 1) → (Lib.decDigits u).length ≤ k + 1 := by
 induction k with
 | zero => intro u h; rw [dec_one (by simpa using h)]; simp
 | succ k ih =>
  intro u h
  by_cases h1 : u < 10
  ·
   rw [dec_one h1]; simp
  ·
   rw [dec_more h1, List.length_append]
   have h2 := ih (u / 10) (by rw [Nat.div_lt_iff_lt_mul (by decide)]; rw [Nat.pow_succ] at h; exact h)
   simp only [List.length_cons, List.length_nil]
   omega
theorem dec_pos (u : Nat) : 1 ≤ (Lib.decDigits u).length := by
 by_cases h1 : u < 10
 ·
  rw [dec_one h1]; simp
 ·
  rw [dec_more h1, List.length_append]; simp
theorem decT_data (n : Nat) : (decT (n : Int)).data.toList = Lib.decDigits n := by
 have h0 : ¬ ((n : Int) < 0) := by omega
 unfold decT Lib.itoa
 rw [if_neg h0, Int.toNat_natCast]
def numS (x : ByteArray) : Int := if 1 ≤ x.size ∧ x.size ≤ 7 ∧ x.data.toList.all digB = true ∧ decT (val10 x.data.toList : Nat) = x then (val10 x.data.toList : Int) else -1
theorem size_data (x : ByteArray) : x.size = x.data.toList.length := by rw [Array.length_toList]; rfl
theorem numS_dec {n : Int} (h0 : 0 ≤ n) (h1 : n ≤ 9999999) : numS (decT n) = n := by
 obtain ⟨u, rfl⟩ := Int.eq_ofNat_of_zero_le h0
 have e := decT_data u
 unfold numS
 rw [if_pos]
 ·
  rw [e, val10_dec]
 ·
  refine ⟨?_, ?_, ?_, ?_⟩
  ·
   rw [size_data, e]; exact dec_pos u
  ·
   rw [size_data, e]; exact dec_len 6 u (by omega)
  ·
   rw [e, List.all_eq_true]; exact dec_digits u
  ·
   rw [e, val10_dec]
theorem fold_ge (l : List UInt8) : ∀ (n : Nat), n ≤ l.foldl (fun n c => n * 10 + (c.toNat - 48)) n := by
 induction l with
 | nil => intro n; exact Nat.le_refl _
 | cons c l ih =>
  intro n
  rw [List.foldl_cons]
  exact Nat.le_trans (by omega) (ih _)
theorem parse_dec (l : List UInt8) : ∀ (n : Nat), (∀ c ∈ l, digB c = true) → l.foldl (fun n c => n * 10 + (c.toNat - 48)) n < 1000000000000000 → Lib.parseUint10 n l = .ok (l.foldl (fun n c => n * 10 + (c.toNat - 48)) n) := by
 induction l with
 | nil => intro n _ _; rfl
 | cons c l ih =>
  intro n hd hn
  rw [List.foldl_cons] at hn ⊢
  have h1 := fold_ge l (n * 10 + (c.toNat - 48))
  have h2 := hd c (List.mem_cons_self ..)
  unfold digB at h2
  simp only [Bool.and_eq_true, decide_eq_true_eq] at h2
  rw [Lib.parseUint10, if_pos h2, if_neg (by omega), if_neg (by omega)]
  exact ih _ (fun q hq => hd q (List.mem_cons_of_mem _ hq)) hn
def numI (x : ByteArray) : Int := match Lib.atoiAll x.data.toList with
 | .ok v => v
 | .syntax => 0
 | .range => Lib.atoiSat x.data.toList
theorem numI_dec {n : Int} (h0 : 0 ≤ n) (h1 : n ≤ 9999999) : numI (decT n) = n := by
 obtain ⟨u, rfl⟩ := Int.eq_ofNat_of_zero_le h0
 have e := decT_data u
 have hp := dec_pos u
 have hd := dec_digits u
 have hv := val10_dec u
 have hall : Lib.atoiAll (Lib.decDigits u) = .ok (u : Int) := by
  cases hl : Lib.decDigits u with
  | nil => rw [hl] at hp; simp at hp
  | cons c r =>
   rw [hl] at hd hv
   have h2 := hd c (List.mem_cons_self ..)
   unfold digB at h2
   simp only [Bool.and_eq_true, decide_eq_true_eq] at h2
   have hm : Lib.parseMag (c :: r) = .ok u := by
    unfold Lib.parseMag
    rw [if_neg (by simp), parse_dec (c :: r) 0 hd (by have : (c :: r).foldl (fun n c => n * 10 + (c.toNat - 48)) 0 = u := hv; rw [this]; omega)]
    exact congrArg _ hv
   unfold Lib.atoiAll
   have hc : ¬ (c.toNat = 43 ∨ c.toNat = 45) := by omega
   have hc2 : ¬ (c.toNat = 45) := by omega
   simp only [if_neg hc, hm]
   rw [if_neg (by omega), if_neg (by omega), if_neg hc2]
 unfold numI
 rw [e, hall]
def cutL (b : UInt8) : List UInt8 → List (List UInt8)
 | [] => [[]]
 | x :: xs => if x = b then [] :: cutL b xs else match cutL b xs with
  | [] => [[x]]
  | y :: ys => (x :: y) :: ys
theorem cutL_hit {b : UInt8} : ∀ (a r : List UInt8), b ∉ a → cutL b (a ++ b :: r) = a :: cutL b r
 | [], r, _ => by simp [cutL]
 | x :: a, r, h => by
  have hx : x ≠ b := fun e => h (by rw [e]; exact List.mem_cons_self ..)
  rw [List.cons_append, cutL, if_neg hx, cutL_hit a r (fun h' => h (List.mem_cons_of_mem _ h'))]
theorem cutL_miss {b : UInt8} : ∀ (a : List UInt8), b ∉ a → cutL b a = [a]
 | [], _ => rfl
 | x :: a, h => by
  have hx : x ≠ b := fun e => h (by rw [e]; exact List.mem_cons_self ..)
  rw [cutL, if_neg hx, cutL_miss a (fun h' => h (List.mem_cons_of_mem _ h'))]
theorem pre_one (b x : UInt8) (l : List UInt8) : [b].isPrefixOf (x :: l) = (b == x) := by simp [List.isPrefixOf]
theorem index_hit {b : UInt8} : ∀ (a r : List UInt8), b ∉ a → Lib.index (a ++ b :: r) [b] = a.length
 | [], r, _ => by simp [Lib.index, List.isPrefixOf]
 | x :: a, r, h => by
  have hx : ¬ (b == x) = true := fun e => h (by rw [eq_of_beq e]; exact List.mem_cons_self ..)
  have ih := index_hit a r (fun h' => h (List.mem_cons_of_mem _ h'))
  have h2 : ¬ ((Lib.index (a ++ b :: r) [b] == -1) = true) := by rw [ih]; simp
  rw [List.cons_append, Lib.index, pre_one, if_neg hx, if_neg h2, ih]
  simp
theorem index_miss {b : UInt8} : ∀ (a : List UInt8), b ∉ a → Lib.index a [b] = -1
 | [], _ => by simp [Lib.index]
 | x :: a, h => by
  have hx : ¬ (b == x) = true := fun e => h (by rw [eq_of_beq e]; exact List.mem_cons_self ..)
  have ih := index_miss a (fun h' => h (List.mem_cons_of_mem _ h'))
  rw [Lib.index, pre_one, if_neg hx, ih]
  rfl
theorem cut_hit {b : UInt8} (a r : List UInt8) (h : b ∉ a) : Lib.cut (a ++ b :: r) [b] = (a, r, true) := by
 unfold Lib.cut
 rw [index_hit a r h, if_pos (by omega)]
 simp
theorem cut_miss {b : UInt8} (a : List UInt8) (h : b ∉ a) : Lib.cut a [b] = (a, [], false) := by
 unfold Lib.cut
 rw [index_miss a h, if_neg (by decide)]
def nxE (r : List UInt8) : List UInt8 × List UInt8 := if (Lib.cut r [10]).2.2 = true then ((Lib.cut r [10]).1, (Lib.cut r [10]).2.1) else ([], r)
def nxS (r : List UInt8) : List UInt8 × List UInt8 := ((Lib.cut r [32]).1, (Lib.cut r [32]).2.1)
theorem nxE_hit (a r : List UInt8) (h : (10 : UInt8) ∉ a) : nxE (a ++ 10 :: r) = (a, r) := by
 unfold nxE
 rw [cut_hit a r h]
 rfl
theorem nxE_miss (a : List UInt8) (h : (10 : UInt8) ∉ a) : nxE a = ([], a) := by
 unfold nxE
 rw [cut_miss a h]
 rfl
theorem nxS_hit (a r : List UInt8) (h : (32 : UInt8) ∉ a) : nxS (a ++ 32 :: r) = (a, r) := by
 unfold nxS
 rw [cut_hit a r h]
theorem nxS_miss (a : List UInt8) (h : (32 : UInt8) ∉ a) : nxS a = (a, []) := by
 unfold nxS
 rw [cut_miss a h]
def lineL (w : List UInt8) : List (List UInt8) → List UInt8
 | [] => w
 | x :: xs => w ++ 32 :: lineL x xs
theorem lineL_cut : ∀ (xs : List (List UInt8)) (w : List UInt8), (32 : UInt8) ∉ w → (∀ x ∈ xs, (32 : UInt8) ∉ x) → cutL 32 (lineL w xs) = w :: xs
 | [], w, h, _ => cutL_miss w h
 | x :: xs, w, h, hx => by
  rw [lineL, cutL_hit w _ h, lineL_cut xs x (hx x (List.mem_cons_self ..)) (fun y hy => hx y (List.mem_cons_of_mem _ hy))]
theorem lineL_no {b : UInt8} (hb : b ≠ 32) : ∀ (xs : List (List UInt8)) (w : List UInt8), b ∉ w → (∀ x ∈ xs, b ∉ x) → b ∉ lineL w xs
 | [], w, h, _ => h
 | x :: xs, w, h, hx => by
  have ih := lineL_no hb xs x (hx x (List.mem_cons_self ..)) (fun y hy => hx y (List.mem_cons_of_mem _ hy))
  rw [lineL]
  simp [h, ih, hb]
theorem nxS_line (w x : List UInt8) (xs : List (List UInt8)) (h : (32 : UInt8) ∉ w) : nxS (lineL w (x :: xs)) = (w, lineL x xs) := nxS_hit w _ h
theorem join_line : ∀ (xs : List ByteArray) (x : ByteArray), Lib.join ((x :: xs).map (·.data.toList)) [32] = lineL x.data.toList (xs.map (·.data.toList))
 | [], x => by simp [Lib.join_cons, Lib.joinTail, lineL]
 | y :: xs, x => by
  have ih := join_line xs y
  rw [List.map_cons, Lib.join_cons] at ih ⊢
  rw [List.map_cons, lineL, ← ih]
  simp [Lib.joinTail]
theorem line_data (l : List UInt8) (x : ByteArray) (xs : List ByteArray) : (lineT (wd l) (x :: xs)).data.toList = lineL l ((x :: xs).map (·.data.toList)) ++ [10] := by
 unfold lineT
 rw [catL_data]
 simp only [List.map_cons, List.map_nil, List.flatten_cons, List.flatten_nil, joinT_data, wd_list, List.append_nil]
 have h := join_line xs x
 rw [List.map_cons] at h
 rw [h, lineL]
 simp
def atL (ws : List (List UInt8)) (k : Nat) : List UInt8 := ws[k]?.getD []
def holdR (x : ByteArray) : ByteArray := if (x.toList == [42]) = true then { data := #[] } else x
def wantS (l : List UInt8) : W.WantD := { c := wd (atL (cutL 32 l) 1), v := numS (wd (atL (cutL 32 l) 2)), h := holdR (wd (atL (cutL 32 l) 3)), p := numS (wd (atL (cutL 32 l) 4)), s := numS (wd (atL (cutL 32 l) 5)), d := numS (wd (atL (cutL 32 l) 6)), g := numS (wd (atL (cutL 32 l) 7)) }
def nxW (l : List UInt8) : Nat → List UInt8
 | 0 => l
 | n + 1 => (nxS (nxW l n)).2
def wdI (l : List UInt8) (n : Nat) : ByteArray := wd (nxS (nxW l n)).1
def wantI (l : List UInt8) : W.WantD := { c := wdI l 1, v := numI (wdI l 2), h := holdR (wdI l 3), p := numI (wdI l 4), s := numI (wdI l 5), d := numI (wdI l 6), g := numI (wdI l 7) }
def wantW : List UInt8 := [119, 97, 110, 116]
structure OkW (r : W.WantD) : Prop where
 c : nameB r.c = true
 h : r.h.toList.isEmpty = true ∨ holdB r.h = true
 v : 0 ≤ r.v ∧ r.v ≤ 9999999
 p : 0 ≤ r.p ∧ r.p ≤ 9999999
 s : 0 ≤ r.s ∧ r.s ≤ 9999999
 d : 0 ≤ r.d ∧ r.d ≤ 9999999
 g : 0 ≤ r.g ∧ r.g ≤ 9999999
theorem okW {r : W.WantD} (h : r.ok = true) : OkW r := by
 unfold W.WantD.ok wantB ticksB at h
 simp only [Bool.and_eq_true, Bool.or_eq_true] at h
 obtain ⟨h1, h2, h3, h4, h5, h6, h7⟩ := h
 have hin : ∀ {n a b : Int}, inB n a b = true → a ≤ n ∧ n ≤ b := fun {n a b} h => by
  unfold inB at h
  simpa using h
 obtain ⟨v1, v2⟩ := hin h2
 obtain ⟨p1, p2⟩ := hin h4
 obtain ⟨s1, s2⟩ := hin h5
 obtain ⟨d1, d2⟩ := hin h6
 obtain ⟨g1, g2⟩ := hin h7
 exact ⟨h1, h3, ⟨by omega, by omega⟩, ⟨by omega, by omega⟩, ⟨by omega, by omega⟩, ⟨by omega, by omega⟩, ⟨by omega, by omega⟩⟩
def No (b : UInt8) (x : ByteArray) : Prop := b ∉ x.data.toList
theorem no_name {b : UInt8} (hb : b.toNat < 33) {x : ByteArray} (h : nameB x = true) : No b x := by
 intro hm
 unfold nameB at h
 simp only [Bool.and_eq_true, List.all_eq_true] at h
 have := h.2 b hm
 unfold okc at this
 simp only [Bool.and_eq_true, decide_eq_true_eq] at this
 omega
theorem no_dec {b : UInt8} (hb : b.toNat < 48) {n : Int} (h0 : 0 ≤ n) : No b (decT n) := by
 obtain ⟨u, rfl⟩ := Int.eq_ofNat_of_zero_le h0
 intro hm
 rw [decT_data] at hm
 have := dec_digits u b hm
 unfold digB at this
 simp only [Bool.and_eq_true, decide_eq_true_eq] at this
 omega
theorem empty_of {x : ByteArray} (h : x.toList.isEmpty = true) : x = { data := #[] } := by
 rw [ByteArray.toList_eq] at h
 exact bytes_inj' (List.isEmpty_iff.1 h)
theorem no_hold {b : UInt8} (hb : b.toNat < 33) {x : ByteArray} (h : x.toList.isEmpty = true ∨ holdB x = true) : No b (holdT x) := by
 rcases h with h | h
 ·
  unfold holdT
  rw [if_pos h]
  show b ∉ ([42] : List UInt8)
  intro hm
  rw [List.mem_singleton] at hm
  subst hm
  revert hb
  decide
 ·
  have h2 := h
  unfold holdB at h2
  simp only [Bool.and_eq_true] at h2
  unfold holdT
  split
  ·
   rename_i h3
   have := hold_empty h3
   rw [h] at this
   cases this
  ·
   exact no_name hb h2.1
theorem holdR_T {x : ByteArray} (h : x.toList.isEmpty = true ∨ holdB x = true) : holdR (holdT x) = x := by
 by_cases h1 : x.toList.isEmpty = true
 ·
  unfold holdT
  rw [if_pos h1, empty_of h1]
  unfold holdR
  rw [if_pos (by rw [ByteArray.toList_eq]; rfl)]
 ·
  have h2 : holdB x = true := h.resolve_left h1
  unfold holdT holdR
  rw [if_neg h1, if_neg]
  intro h3
  unfold holdB at h2
  rw [h3] at h2
  simp at h2
def wantX (r : W.WantD) : List ByteArray := [r.c, decT r.v, holdT r.h, decT r.p, decT r.s, decT r.d, decT r.g]
theorem no_want {b : UInt8} (hb : b.toNat < 33) {r : W.WantD} (h : OkW r) : ∀ x ∈ wantX r, No b x := by
 intro x hx
 simp only [wantX, List.mem_cons, List.not_mem_nil, or_false] at hx
 rcases hx with rfl | rfl | rfl | rfl | rfl | rfl | rfl
 ·
  exact no_name hb h.c
 ·
  exact no_dec (by omega) h.v.1
 ·
  exact no_hold hb h.h
 ·
  exact no_dec (by omega) h.p.1
 ·
  exact no_dec (by omega) h.s.1
 ·
  exact no_dec (by omega) h.d.1
 ·
  exact no_dec (by omega) h.g.1
theorem no_words {b : UInt8} {xs : List ByteArray} (h : ∀ x ∈ xs, No b x) : ∀ x ∈ xs.map (·.data.toList), b ∉ x := by
 intro x hx
 obtain ⟨y, hy, rfl⟩ := List.mem_map.1 hx
 exact h y hy
theorem wantS_line {r : W.WantD} (h : OkW r) : wantS (lineL wantW ((wantX r).map (·.data.toList))) = r := by
 have h1 := lineL_cut ((wantX r).map (·.data.toList)) wantW (by decide) (no_words (no_want (by decide) h))
 unfold wantS
 rw [h1]
 obtain ⟨c, hh, v, p, s, d, g⟩ := r
 simp only [wantX, List.map_cons, List.map_nil, atL, List.getElem?_cons_succ, List.getElem?_cons_zero, Option.getD_some, wd_data]
 rw [numS_dec h.v.1 h.v.2, numS_dec h.p.1 h.p.2, numS_dec h.s.1 h.s.2, numS_dec h.d.1 h.d.2, numS_dec h.g.1 h.g.2, holdR_T h.h]
theorem nxW_line : ∀ (xs : List (List UInt8)) (w : List UInt8) (n : Nat), (32 : UInt8) ∉ w → (∀ x ∈ xs, (32 : UInt8) ∉ x) → ∀ x, (w :: xs)[n]? = some x → (nxS (nxW (lineL w xs) n)).1 = x ∧ ∀ y ys, (w :: xs).drop (n + 1) = y :: ys → (nxS (nxW (lineL w xs) n)).2 = lineL y ys := by
 have key : ∀ (n : Nat) (xs : List (List UInt8)) (w : List UInt8), (32 : UInt8) ∉ w → (∀ x ∈ xs, (32 : UInt8) ∉ x) → ∀ y ys, (w :: xs).drop n = y :: ys → nxW (lineL w xs) n = lineL y ys := by
  intro n
  induction n with
  | zero => intro xs w _ _ y ys e; simp only [List.drop_zero, List.cons.injEq] at e; obtain ⟨rfl, rfl⟩ := e; rfl
  | succ n ih =>
   intro xs w hw hx y ys e
   cases hd : (w :: xs).drop n with
   | nil =>
    have : (w :: xs).drop (n + 1) = [] := by rw [← List.drop_drop, hd]; rfl
    rw [this] at e; cases e
   | cons a az =>
    have e2 : (w :: xs).drop (n + 1) = az := by rw [← List.drop_drop, hd]; rfl
    rw [e2] at e
    subst e
    have hm : a ∈ w :: xs := List.mem_of_mem_drop (by rw [hd]; exact List.mem_cons_self ..)
    have ha : (32 : UInt8) ∉ a := by
     rcases List.mem_cons.1 hm with rfl | hm
     ·
      exact hw
     ·
      exact hx a hm
    rw [nxW, ih xs w hw hx a (y :: ys) hd, nxS_line a y ys ha]
 intro xs w n hw hx x e
 have hlt : n < (w :: xs).length := (List.getElem?_eq_some_iff.1 e).1
 have hd : (w :: xs).drop n = x :: (w :: xs).drop (n + 1) := by
  rw [List.drop_eq_getElem_cons hlt]
  rw [List.getElem?_eq_getElem hlt] at e
  rw [Option.some.inj e]
 have hx' : (32 : UInt8) ∉ x := by
  rcases List.mem_cons.1 (List.mem_of_getElem? e) with rfl | hm
  ·
   exact hw
  ·
   exact hx x hm
 rw [key n xs w hw hx x _ hd]
 constructor
 ·
  cases (w :: xs).drop (n + 1) with
  | nil => exact congrArg Prod.fst (nxS_miss x hx')
  | cons y ys => exact congrArg Prod.fst (nxS_line x y ys hx')
 ·
  intro y ys e2
  rw [e2]
  exact congrArg Prod.snd (nxS_line x y ys hx')
theorem wdI_line {w : List UInt8} {xs : List ByteArray} (hw : (32 : UInt8) ∉ w) (hx : ∀ x ∈ xs, No 32 x) {n : Nat} {x : ByteArray} (e : xs[n]? = some x) : wdI (lineL w (xs.map (·.data.toList))) (n + 1) = x := by
 unfold wdI
 rw [(nxW_line (xs.map (·.data.toList)) w (n + 1) hw (no_words hx) x.data.toList (by simp [e])).1, wd_data]
theorem wantI_line {r : W.WantD} (h : OkW r) : wantI (lineL wantW ((wantX r).map (·.data.toList))) = r := by
 have k := fun (n : Nat) (x : ByteArray) (e : (wantX r)[n]? = some x) => wdI_line (w := wantW) (by decide) (no_want (by decide) h) e
 unfold wantI
 rw [k 0 _ rfl, k 1 _ rfl, k 2 _ rfl, k 3 _ rfl, k 4 _ rfl, k 5 _ rfl, k 6 _ rfl]
 rw [numI_dec h.v.1 h.v.2, numI_dec h.p.1 h.p.2, numI_dec h.s.1 h.s.2, numI_dec h.d.1 h.d.2, numI_dec h.g.1 h.g.2, holdR_T h.h]
end Go.Proofs.YtgakmkhbnjofhaaGreatDoor
