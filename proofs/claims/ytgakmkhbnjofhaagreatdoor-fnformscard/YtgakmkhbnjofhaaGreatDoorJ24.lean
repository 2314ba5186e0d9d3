import Derived.Test.YtgakmkhbnjofhaaGreatDoorJ23
import Derived.Test.YtgakmkhbnjofhaaGreatDoorJ20
/- l7Cut: the specification cuts a text. -/
namespace Go.Proofs.YtgakmkhbnjofhaaGreatDoor
open Go.RowKit
set_option linter.unusedVariables false

/-- Cut up to a place: pieces, and from where the next one runs. -/
structure Cutting (b : UInt8) (l : List UInt8) (ps : List (List UInt8)) (f i : Nat) : Prop where
  fi : f ≤ i
  il : i ≤ l.length
  no : b ∉ (l.drop f).take (i - f)
  eq : cutL b l = ps ++ cutL b (l.drop f)
theorem Cutting.skip {b : UInt8} {l : List UInt8} {ps : List (List UInt8)} {f i : Nat} (h : Cutting b l ps f i) {c : UInt8} (hc : l[i]? = some c) (hn : c ≠ b) : Cutting b l ps f (i + 1) := by
  have hlt : i < l.length := (List.getElem?_eq_some_iff.1 hc).1
  refine ⟨by have := h.fi; omega, by omega, ?_, h.eq⟩
  have h1 := h.fi
  rw [show i + 1 - f = (i - f) + 1 from by omega, List.take_add_one]
  intro hm
  rcases List.mem_append.1 hm with hm | hm
  · exact h.no hm
  · rw [List.getElem?_drop, show f + (i - f) = i from by omega, hc] at hm
    simp at hm
    exact hn hm.symm
theorem Cutting.hit {b : UInt8} {l : List UInt8} {ps : List (List UInt8)} {f i : Nat} (h : Cutting b l ps f i) (hc : l[i]? = some b) : Cutting b l (ps ++ [(l.drop f).take (i - f)]) (i + 1) (i + 1) := by
  have hlt : i < l.length := (List.getElem?_eq_some_iff.1 hc).1
  refine ⟨Nat.le_refl _, by omega, by simp, ?_⟩
  have h1 := h.fi
  have e : l.drop f = (l.drop f).take (i - f) ++ b :: l.drop (i + 1) := by
    have e1 : (l.drop f).drop (i - f) = l.drop i := by rw [List.drop_drop, show f + (i - f) = i from by omega]
    have e2 : l.drop i = b :: l.drop (i + 1) := by
      rw [List.drop_eq_getElem_cons hlt]
      rw [List.getElem?_eq_getElem hlt] at hc
      rw [Option.some.inj hc]
    rw [← e2, ← e1, List.take_append_drop]
  have h2 := h.eq
  rw [e, cutL_hit _ _ h.no] at h2
  rw [h2, List.append_assoc]
  rfl
theorem Cutting.done {b : UInt8} {l : List UInt8} {ps : List (List UInt8)} {f i : Nat} (h : Cutting b l ps f i) (hi : l.length ≤ i) : cutL b l = ps ++ [l.drop f] := by
  have h1 := h.fi
  have h2 := h.il
  have h3 := h.no
  rw [List.take_of_length_le (by rw [List.length_drop]; omega)] at h3
  rw [h.eq, cutL_miss _ h3]
theorem cutL_len (b : UInt8) : ∀ (l : List UInt8), (cutL b l).length ≤ l.length + 1
  | [] => by simp [cutL]
  | x :: l => by
    have ih := cutL_len b l
    rw [cutL]
    split
    · simp only [List.length_cons]; omega
    · cases hc : cutL b l with
      | nil => simp
      | cons y ys => rw [hc] at ih; simp only [List.length_cons] at ih ⊢; omega
theorem Cutting.len {b : UInt8} {l : List UInt8} {ps : List (List UInt8)} {f i : Nat} (h : Cutting b l ps f i) : ps.length ≤ l.length := by
  have h1 := cutL_len b l
  have h2 : 1 ≤ (cutL b (l.drop f)).length := by
    cases hd : l.drop f with
    | nil => simp [cutL]
    | cons x r =>
      rw [cutL]
      split
      · simp
      · cases cutL b r <;> simp
  rw [h.eq, List.length_append] at h1
  omega
theorem ext_data (s : ByteArray) (i j : Nat) : (s.extract i j).data.toList = (s.data.toList.drop i).take (j - i) := by
  rw [ByteArray.data_extract, Array.toList_extract]
theorem ext_wd (s : ByteArray) (i j : Nat) : s.extract i j = wd ((s.data.toList.drop i).take (j - i)) := by
  apply bytes_inj'
  rw [ext_data, wd_list]
theorem byte_at (s : ByteArray) (k : Nat) (h : k < s.size) : s.data.toList[k]? = some s[k] := by
  rw [List.getElem?_eq_getElem (by simpa using h)]
  rfl
def strP (ps : List (List UInt8)) : List Value := ps.map (fun x => Value.string (wd x))
theorem strP_eq (ps : List (List UInt8)) : strP ps = strL (ps.map wd) := by simp [strP, strL]
theorem strP_snoc (ps : List (List UInt8)) (x : List UInt8) : strP (ps ++ [x]) = strP ps ++ [.string (wd x)] := by simp [strP]
theorem bldS0 (w : World) : Sem.run Tryz.prog (Instr.buildSlice 43 0 #[]) w = .ok (.slice (some ⟨w.heap.size, 0, none⟩) 0 0) (w.alloc (.cells #[] 9)) := by kernel_rfl
set_option maxRecDepth 4000 in
set_option maxHeartbeats 4000000 in
theorem l7Cut_any (s : ByteArray) (bb : UInt8) (nb : Int) (hnb : nb = (bb.toNat : Int)) (w : World) (hs : s.size ≤ 1048576) :
    Calls Tryz.prog 32 #[.string s, .int .u8 nb] w fun e w' => (∃ g cap, e = .returned (.slice (some ⟨g, 0, none⟩) (cutL bb s.data.toList).length cap) ∧ (cutL bb s.data.toList).length ≤ cap ∧ g < w'.heap.size ∧ ∀ (j : Nat) x, (cutL bb s.data.toList)[j]? = some x → w'.cell? ⟨g, j, none⟩ = some (.string (wd x))) ∧ Below w.heap.size w w' := by
  subst hnb
  obtain ⟨i0, hi, hz0, hz1, hz2⟩ := infoS_parts
  have hbn := bldS0
  have hlen : s.data.toList.length = s.size := (size_data s).symm
  go_enter Tryz.func32, Tryz.ntmps32
  go_wp2
  clear hbn
  go_loopw [5, 6, 7] (fun v f i wx => ∃ (ps : List (List UInt8)) (fn k : Nat), f = .int .i64 fn ∧ i = .int .i64 k ∧ fn ≤ k ∧ k ≤ s.size ∧ Hid (Cutting bb s.data.toList ps fn k) ∧ Hid (wx.ownsRow w.heap.size 9 1 v ps.length (strP ps)) ∧ Hid (v ≠ .slice none 0 0) ∧ Hid (Below w.heap.size w wx)) (fun _ _ i _ => s.size - (intOf i).toNat)
  case atStart => exact ⟨[], 0, 0, rfl, rfl, Nat.le_refl _, Nat.zero_le _, ⟨Nat.le_refl _, Nat.zero_le _, by simp, by simp⟩, World.ownsRow_made w #[] 0 (Nat.le_refl _) (Nat.zero_le _) rfl, not_noneS, bl_alloc (Below.refl _ _) _⟩
  case round =>
    obtain ⟨ps, fn, k, rfl, rfl, hfk, hk, HC, Ho, Hn, hB⟩ := hrel
    have hps := HC.out.len
    have f0 : (0 : Int) ≤ (fn : Int) := by omega
    have f1 : (fn : Int) ≤ (k : Int) := by omega
    have f2 : (k : Int) ≤ (s.size : Int) := by omega
    have f3 : (fn : Int) ≤ (s.size : Int) := by omega
    by_cases hlt : k < s.size
    · by_cases hb : s[k] = bb
      · have hb2 : (s[k].toNat : Int) = (bb.toNat : Int) := by rw [hb]
        have hat := byte_at s k hlt
        rw [hb] at hat
        have HC2 : Hid (Cutting bb s.data.toList (ps ++ [(s.data.toList.drop fn).take (k - fn)]) (k + 1) (k + 1)) := HC.out.hit hat
        clear hat
        go_wp2_with ((at_builtin; refine wpList_append_own _ rfl _ _ 43 rfl w.heap.size 9 i0 _ 1 16 Tryz.underlying43 hi hz0 hz1 hz2 rfl (by decide) _ ps.length _ rfl (by exact ownsS_below Ho.out (bl_alloc (Below.refl _ _) _)) ⟨_, 0, none⟩ 1 1 [.string (s.extract fn k)] rfl rfl (newS_cells _ _ (by simp) _ _ _ rfl) (strL_one _) (by unfold maxLen; omega) (by omega) (by have := hB.out.size; simp; omega) ?_; intro v' w2 ho1 hg1 hn1; have O1 : Hid (w2.ownsRow w.heap.size 9 1 v' (ps.length + 1) (strP ps ++ [.string (s.extract fn k)])) := ho1; have N1 : Hid (v' ≠ .slice none 0 0) := fun h => (by have := hn1.1 h; simp at this); have G1 : Hid (World.grownBy _ w2 _) := hg1; clear ho1 hn1 hg1))
        have e1 : strP ps ++ [.string (s.extract fn k)] = strP (ps ++ [(s.data.toList.drop fn).take (k - fn)]) := by rw [strP_snoc, ext_wd]
        rw [e1] at O1
        exact ⟨⟨ps ++ [(s.data.toList.drop fn).take (k - fn)], k + 1, k + 1, by go_num, by go_num, Nat.le_refl _, by omega, HC2.out, by rw [List.length_append]; exact O1.out, N1.out, Below.grown (bl_alloc hB.out _) G1.out (by have := hB.out.size; simp; omega) (ownsS_ge Ho.out)⟩, by simp [intOf]; omega⟩
      · have hb2 : ¬ ((s[k].toNat : Int) = (bb.toNat : Int)) := by
          intro h
          exact hb (UInt8.toNat_inj.1 (by omega))
        have hat := byte_at s k hlt
        have HC2 : Hid (Cutting bb s.data.toList ps fn (k + 1)) := HC.out.skip hat hb
        clear hat
        go_wp2_with fail
        exact ⟨⟨ps, fn, k + 1, rfl, by go_num, by omega, by omega, HC2.out, Ho.out, Hn.out, hB.out⟩, by simp [intOf]; omega⟩
    · have hk2 : k = s.size := by omega
      subst hk2
      have HD : Hid (cutL bb s.data.toList = ps ++ [s.data.toList.drop fn]) := HC.out.done (by rw [hlen]; exact Nat.le_refl _)
      go_wp2_with (at_builtin; refine wpList_append_own _ rfl _ _ 43 rfl w.heap.size 9 i0 _ 1 16 Tryz.underlying43 hi hz0 hz1 hz2 rfl (by decide) _ ps.length _ rfl (by exact ownsS_below Ho.out (bl_alloc (Below.refl _ _) _)) ⟨_, 0, none⟩ 1 1 [.string (s.extract fn s.size)] rfl rfl (newS_cells _ _ (by simp) _ _ _ rfl) (strL_one _) (by unfold maxLen; omega) (by omega) (by have := hB.out.size; simp; omega) ?_; intro v' w2 ho1 hg1 hn1; have O1 : Hid (w2.ownsRow w.heap.size 9 1 v' (ps.length + 1) (strP ps ++ [.string (s.extract fn s.size)])) := ho1; have N1 : Hid (v' ≠ .slice none 0 0) := fun h => (by have := hn1.1 h; simp at this); have G1 : Hid (World.grownBy _ w2 _) := hg1; clear ho1 hn1 hg1)
      have e1 : strP ps ++ [.string (s.extract fn s.size)] = strL ((ps ++ [s.data.toList.drop fn]).map wd) := by
        rw [← strP_eq, strP_snoc, ext_wd, List.take_of_length_le (by rw [List.length_drop, hlen]; exact Nat.le_refl _)]
      rw [e1] at O1
      go_ret
      obtain ⟨g, cap, q1, q2, q3, q4⟩ := cells_ownsS O1.out N1.out
      rw [HD.out]
      refine ⟨⟨g, cap, by rw [q1, List.length_append]; rfl, by rw [List.length_append]; exact q2, q3, fun j x hj => q4 j (wd x) (by rw [List.getElem?_map, hj]; rfl)⟩, Below.grown (bl_alloc hB.out _) G1.out (by have := hB.out.size; simp; omega) (ownsS_ge Ho.out)⟩
end Go.Proofs.YtgakmkhbnjofhaaGreatDoor
/- The forms of the mail: the program's table. -/
namespace Go.Proofs.YtgakmkhbnjofhaaGreatDoor
open Go.RowKit
set_option linter.unusedVariables false

def fnV (n : Nat) : Value := .func (.func n) #[] #[]
def formC (k : Int) (w : ByteArray) (f1 f2 f3 : Nat) : List Value := [.int .i64 k, .string w, fnV f1, fnV f2, fnV f3]
def formsL : List Value := formC 1 { data := #[116, 111, 108, 100] } 73 74 75 ++ formC 2 { data := #[97, 115, 107, 101, 100] } 76 77 78 ++ formC 3 { data := #[103, 105, 118, 101, 110] } 76 77 78 ++ formC 4 { data := #[98, 97, 99, 107] } 76 77 78 ++ formC 5 { data := #[103, 111, 116, 98, 97, 99, 107] } 79 80 81 ++ formC 6 { data := #[104, 101, 114, 101] } 82 74 75
def formsA : Array Value := formsL.toArray
set_option maxRecDepth 4000 in
set_option maxHeartbeats 2000000 in
theorem mailForms_any (w : World) : Calls Tryz.prog 52 #[] w fun e w' => e = .returned (.slice (some ⟨w.heap.size, 0, none⟩) 6 6) ∧ w' = w.alloc (.cells formsA 51) := by
  go_enter Tryz.func52, Tryz.ntmps52
  go_wp2
  go_ret
  exact ⟨rfl, rfl⟩
end Go.Proofs.YtgakmkhbnjofhaaGreatDoor
/- The form of a kind: the program finds it. -/
namespace Go.Proofs.YtgakmkhbnjofhaaGreatDoor
open Go.RowKit
set_option linter.unusedVariables false

theorem clos_any (j k : Int) (v1 v2 v3 v4 : Value) (o1 : v1.oneCell' = true) (o2 : v2.oneCell' = true) (o3 : v3.oneCell' = true) (o4 : v4.oneCell' = true) (b : Nat) (w : World) (hk : w.cell? ⟨b, 0, none⟩ = some (.int .i64 k)) (hb : b < w.heap.size) :
    Calls Tryz.prog 21 #[.agg #[.int .i64 j, v1, v2, v3, v4], .pointer (some ⟨b, 0, none⟩)] w fun e w' => e = .returned (.bool (j == k)) ∧ Below w.heap.size w w' := by
  have hk2 : (w.alloc (.cells #[.int .i64 j, v1, v2, v3, v4] 51)).cell? ⟨b, 0, none⟩ = some (.int .i64 k) := by rw [(bl_alloc (Below.refl w.heap.size w) _).cell (p := ⟨b, 0, none⟩) hb]; exact hk
  go_enter Tryz.func21, Tryz.ntmps21
  go_wp2_with fail
  all_goals (go_ret; refine ⟨ret_b ?_, ?_⟩)
  all_goals first | exact bl_alloc (Below.refl _ _) _ | simp [*]
def idxK (k : Int) : Int := if 1 ≤ k ∧ k ≤ 6 then k - 1 else -1
set_option maxRecDepth 4000 in
set_option maxHeartbeats 4000000 in
theorem idx_any (k : Int) (b g : Nat) (w : World) (hg : g < w.heap.size) (hF : ∀ j, w.cell? ⟨g, j, none⟩ = formsA[j]?) (hk : w.cell? ⟨b, 0, none⟩ = some (.int .i64 k)) (hb : b < w.heap.size) :
    Calls Tryz.prog 53 #[.slice (some ⟨g, 0, none⟩) 6 6, .func (.func 21) #[] #[.pointer (some ⟨b, 0, none⟩)]] w fun e w' => e = .returned (.int .i64 (idxK k)) ∧ Below w.heap.size w w' := by
  have HF : Hid (∀ y, Below w.heap.size w y → ∀ j, y.cell? ⟨g, j, none⟩ = formsA[j]?) := fun y hy j => (hy.cell (p := ⟨g, j, none⟩) hg).trans (hF j)
  have HK : Hid (∀ y, Below w.heap.size w y → y.cell? ⟨b, 0, none⟩ = some (.int .i64 k)) := fun y hy => (hy.cell (p := ⟨b, 0, none⟩) hb).trans hk
  have HL : Hid (b < w.heap.size) := hb
  clear hF hk hb
  go_enter Tryz.func53, Tryz.ntmps53
  go_wp2
  go_loopw [8] (fun i wx => ∃ (n : Nat), n ≤ 6 ∧ i = .int .i64 n ∧ Hid (∀ j : Nat, j < n → k ≠ j + 1) ∧ Hid (Below w.heap.size w wx)) (fun i _ => 6 - (intOf i).toNat)
  case atStart => exact ⟨0, Nat.zero_le _, rfl, fun j h => by omega, Below.refl _ _⟩
  case round =>
    obtain ⟨n, hn, rfl, Ha, hB⟩ := hrel
    by_cases hlt : n < 6
    · obtain rfl | rfl | rfl | rfl | rfl | rfl : n = 0 ∨ n = 1 ∨ n = 2 ∨ n = 3 ∨ n = 4 ∨ n = 5 := by omega
      · have k0 : wr.cell? ⟨g, 0, none⟩ = some (.int .i64 1) := HF.out wr hB.out 0
        have k1 : wr.cell? ⟨g, 1, none⟩ = some (.string { data := #[116, 111, 108, 100] }) := HF.out wr hB.out 1
        have k2 : wr.cell? ⟨g, 2, none⟩ = some (.func (.func 73) #[] #[]) := HF.out wr hB.out 2
        have k3 : wr.cell? ⟨g, 3, none⟩ = some (.func (.func 74) #[] #[]) := HF.out wr hB.out 3
        have k4 : wr.cell? ⟨g, 4, none⟩ = some (.func (.func 75) #[] #[]) := HF.out wr hB.out 4
        by_cases hh : k = 1
        · have hq : ((1 : Int) == k) = true := by rw [hh]; rfl
          go_wp2_with (go_at_call 21; refine (clos_any 1 k _ _ _ _ rfl rfl rfl rfl b _ (HK.out wr hB.out) (Nat.lt_of_lt_of_le HL.out hB.out.size)).mono ?_; rintro e w1 ⟨rfl, hb⟩; rw [hq]; have B1 : Hid (Below wr.heap.size wr w1) := hb; clear hb)
          go_ret
          exact ⟨by rw [hh]; rfl, bl_trans hB.out B1.out⟩
        · have hq : ((1 : Int) == k) = false := by simpa using fun h => hh h.symm
          go_wp2_with (go_at_call 21; refine (clos_any 1 k _ _ _ _ rfl rfl rfl rfl b _ (HK.out wr hB.out) (Nat.lt_of_lt_of_le HL.out hB.out.size)).mono ?_; rintro e w1 ⟨rfl, hb⟩; rw [hq]; have B1 : Hid (Below wr.heap.size wr w1) := hb; clear hb)
          exact ⟨⟨1, by omega, by go_num, (fun j hj => by
            by_cases e : j = 0
            · subst e; exact hh
            · exact Ha.out j (by omega)), bl_trans hB.out B1.out⟩, by simp [intOf]⟩
      · have k0 : wr.cell? ⟨g, 5, none⟩ = some (.int .i64 2) := HF.out wr hB.out 5
        have k1 : wr.cell? ⟨g, 6, none⟩ = some (.string { data := #[97, 115, 107, 101, 100] }) := HF.out wr hB.out 6
        have k2 : wr.cell? ⟨g, 7, none⟩ = some (.func (.func 76) #[] #[]) := HF.out wr hB.out 7
        have k3 : wr.cell? ⟨g, 8, none⟩ = some (.func (.func 77) #[] #[]) := HF.out wr hB.out 8
        have k4 : wr.cell? ⟨g, 9, none⟩ = some (.func (.func 78) #[] #[]) := HF.out wr hB.out 9
        by_cases hh : k = 2
        · have hq : ((2 : Int) == k) = true := by rw [hh]; rfl
          go_wp2_with (go_at_call 21; refine (clos_any 2 k _ _ _ _ rfl rfl rfl rfl b _ (HK.out wr hB.out) (Nat.lt_of_lt_of_le HL.out hB.out.size)).mono ?_; rintro e w1 ⟨rfl, hb⟩; rw [hq]; have B1 : Hid (Below wr.heap.size wr w1) := hb; clear hb)
          go_ret
          exact ⟨by rw [hh]; rfl, bl_trans hB.out B1.out⟩
        · have hq : ((2 : Int) == k) = false := by simpa using fun h => hh h.symm
          go_wp2_with (go_at_call 21; refine (clos_any 2 k _ _ _ _ rfl rfl rfl rfl b _ (HK.out wr hB.out) (Nat.lt_of_lt_of_le HL.out hB.out.size)).mono ?_; rintro e w1 ⟨rfl, hb⟩; rw [hq]; have B1 : Hid (Below wr.heap.size wr w1) := hb; clear hb)
          exact ⟨⟨2, by omega, by go_num, (fun j hj => by
            by_cases e : j = 1
            · subst e; exact hh
            · exact Ha.out j (by omega)), bl_trans hB.out B1.out⟩, by simp [intOf]⟩
      · have k0 : wr.cell? ⟨g, 10, none⟩ = some (.int .i64 3) := HF.out wr hB.out 10
        have k1 : wr.cell? ⟨g, 11, none⟩ = some (.string { data := #[103, 105, 118, 101, 110] }) := HF.out wr hB.out 11
        have k2 : wr.cell? ⟨g, 12, none⟩ = some (.func (.func 76) #[] #[]) := HF.out wr hB.out 12
        have k3 : wr.cell? ⟨g, 13, none⟩ = some (.func (.func 77) #[] #[]) := HF.out wr hB.out 13
        have k4 : wr.cell? ⟨g, 14, none⟩ = some (.func (.func 78) #[] #[]) := HF.out wr hB.out 14
        by_cases hh : k = 3
        · have hq : ((3 : Int) == k) = true := by rw [hh]; rfl
          go_wp2_with (go_at_call 21; refine (clos_any 3 k _ _ _ _ rfl rfl rfl rfl b _ (HK.out wr hB.out) (Nat.lt_of_lt_of_le HL.out hB.out.size)).mono ?_; rintro e w1 ⟨rfl, hb⟩; rw [hq]; have B1 : Hid (Below wr.heap.size wr w1) := hb; clear hb)
          go_ret
          exact ⟨by rw [hh]; rfl, bl_trans hB.out B1.out⟩
        · have hq : ((3 : Int) == k) = false := by simpa using fun h => hh h.symm
          go_wp2_with (go_at_call 21; refine (clos_any 3 k _ _ _ _ rfl rfl rfl rfl b _ (HK.out wr hB.out) (Nat.lt_of_lt_of_le HL.out hB.out.size)).mono ?_; rintro e w1 ⟨rfl, hb⟩; rw [hq]; have B1 : Hid (Below wr.heap.size wr w1) := hb; clear hb)
          exact ⟨⟨3, by omega, by go_num, (fun j hj => by
            by_cases e : j = 2
            · subst e; exact hh
            · exact Ha.out j (by omega)), bl_trans hB.out B1.out⟩, by simp [intOf]⟩
      · have k0 : wr.cell? ⟨g, 15, none⟩ = some (.int .i64 4) := HF.out wr hB.out 15
        have k1 : wr.cell? ⟨g, 16, none⟩ = some (.string { data := #[98, 97, 99, 107] }) := HF.out wr hB.out 16
        have k2 : wr.cell? ⟨g, 17, none⟩ = some (.func (.func 76) #[] #[]) := HF.out wr hB.out 17
        have k3 : wr.cell? ⟨g, 18, none⟩ = some (.func (.func 77) #[] #[]) := HF.out wr hB.out 18
        have k4 : wr.cell? ⟨g, 19, none⟩ = some (.func (.func 78) #[] #[]) := HF.out wr hB.out 19
        by_cases hh : k = 4
        · have hq : ((4 : Int) == k) = true := by rw [hh]; rfl
          go_wp2_with (go_at_call 21; refine (clos_any 4 k _ _ _ _ rfl rfl rfl rfl b _ (HK.out wr hB.out) (Nat.lt_of_lt_of_le HL.out hB.out.size)).mono ?_; rintro e w1 ⟨rfl, hb⟩; rw [hq]; have B1 : Hid (Below wr.heap.size wr w1) := hb; clear hb)
          go_ret
          exact ⟨by rw [hh]; rfl, bl_trans hB.out B1.out⟩
        · have hq : ((4 : Int) == k) = false := by simpa using fun h => hh h.symm
          go_wp2_with (go_at_call 21; refine (clos_any 4 k _ _ _ _ rfl rfl rfl rfl b _ (HK.out wr hB.out) (Nat.lt_of_lt_of_le HL.out hB.out.size)).mono ?_; rintro e w1 ⟨rfl, hb⟩; rw [hq]; have B1 : Hid (Below wr.heap.size wr w1) := hb; clear hb)
          exact ⟨⟨4, by omega, by go_num, (fun j hj => by
            by_cases e : j = 3
            · subst e; exact hh
            · exact Ha.out j (by omega)), bl_trans hB.out B1.out⟩, by simp [intOf]⟩
      · have k0 : wr.cell? ⟨g, 20, none⟩ = some (.int .i64 5) := HF.out wr hB.out 20
        have k1 : wr.cell? ⟨g, 21, none⟩ = some (.string { data := #[103, 111, 116, 98, 97, 99, 107] }) := HF.out wr hB.out 21
        have k2 : wr.cell? ⟨g, 22, none⟩ = some (.func (.func 79) #[] #[]) := HF.out wr hB.out 22
        have k3 : wr.cell? ⟨g, 23, none⟩ = some (.func (.func 80) #[] #[]) := HF.out wr hB.out 23
        have k4 : wr.cell? ⟨g, 24, none⟩ = some (.func (.func 81) #[] #[]) := HF.out wr hB.out 24
        by_cases hh : k = 5
        · have hq : ((5 : Int) == k) = true := by rw [hh]; rfl
          go_wp2_with (go_at_call 21; refine (clos_any 5 k _ _ _ _ rfl rfl rfl rfl b _ (HK.out wr hB.out) (Nat.lt_of_lt_of_le HL.out hB.out.size)).mono ?_; rintro e w1 ⟨rfl, hb⟩; rw [hq]; have B1 : Hid (Below wr.heap.size wr w1) := hb; clear hb)
          go_ret
          exact ⟨by rw [hh]; rfl, bl_trans hB.out B1.out⟩
        · have hq : ((5 : Int) == k) = false := by simpa using fun h => hh h.symm
          go_wp2_with (go_at_call 21; refine (clos_any 5 k _ _ _ _ rfl rfl rfl rfl b _ (HK.out wr hB.out) (Nat.lt_of_lt_of_le HL.out hB.out.size)).mono ?_; rintro e w1 ⟨rfl, hb⟩; rw [hq]; have B1 : Hid (Below wr.heap.size wr w1) := hb; clear hb)
          exact ⟨⟨5, by omega, by go_num, (fun j hj => by
            by_cases e : j = 4
            · subst e; exact hh
            · exact Ha.out j (by omega)), bl_trans hB.out B1.out⟩, by simp [intOf]⟩
      · have k0 : wr.cell? ⟨g, 25, none⟩ = some (.int .i64 6) := HF.out wr hB.out 25
        have k1 : wr.cell? ⟨g, 26, none⟩ = some (.string { data := #[104, 101, 114, 101] }) := HF.out wr hB.out 26
        have k2 : wr.cell? ⟨g, 27, none⟩ = some (.func (.func 82) #[] #[]) := HF.out wr hB.out 27
        have k3 : wr.cell? ⟨g, 28, none⟩ = some (.func (.func 74) #[] #[]) := HF.out wr hB.out 28
        have k4 : wr.cell? ⟨g, 29, none⟩ = some (.func (.func 75) #[] #[]) := HF.out wr hB.out 29
        by_cases hh : k = 6
        · have hq : ((6 : Int) == k) = true := by rw [hh]; rfl
          go_wp2_with (go_at_call 21; refine (clos_any 6 k _ _ _ _ rfl rfl rfl rfl b _ (HK.out wr hB.out) (Nat.lt_of_lt_of_le HL.out hB.out.size)).mono ?_; rintro e w1 ⟨rfl, hb⟩; rw [hq]; have B1 : Hid (Below wr.heap.size wr w1) := hb; clear hb)
          go_ret
          exact ⟨by rw [hh]; rfl, bl_trans hB.out B1.out⟩
        · have hq : ((6 : Int) == k) = false := by simpa using fun h => hh h.symm
          go_wp2_with (go_at_call 21; refine (clos_any 6 k _ _ _ _ rfl rfl rfl rfl b _ (HK.out wr hB.out) (Nat.lt_of_lt_of_le HL.out hB.out.size)).mono ?_; rintro e w1 ⟨rfl, hb⟩; rw [hq]; have B1 : Hid (Below wr.heap.size wr w1) := hb; clear hb)
          exact ⟨⟨6, by omega, by go_num, (fun j hj => by
            by_cases e : j = 5
            · subst e; exact hh
            · exact Ha.out j (by omega)), bl_trans hB.out B1.out⟩, by simp [intOf]⟩
    · obtain rfl : n = 6 := by omega
      go_wp2_with fail
      go_ret
      refine ⟨?_, hB.out⟩
      have hx : idxK k = -1 := by
        unfold idxK
        rw [if_neg]
        rintro ⟨h1, h2⟩
        have := Ha.out (k - 1).toNat (by omega)
        omega
      rw [hx]
      rfl
end Go.Proofs.YtgakmkhbnjofhaaGreatDoor
