import Derived.Test.YtkkcfofhhgmbaaaGreatDoorJ01
/- Names, holds and numbers within bounds: both sides. -/
namespace Go.Proofs.YtkkcfofhhgmbaaaGreatDoor
open Go.RowKit
set_option linter.unusedVariables false

/-- A number within bounds. -/
def inB (n low high : Int) : Bool := decide (low ≤ n) && decide (n ≤ high)
/-- A byte that a name may hold. -/
def okc (c : UInt8) : Bool := decide (33 ≤ (c.toNat : Int)) && decide ((c.toNat : Int) ≤ 126)
def nameB (s : ByteArray) : Bool := inB s.size 1 20 && s.data.toList.all okc

theorem specIn_any (n low high : Int) (w : World) : Calls Tryz.prog 21 #[.int .i64 n, .int .i64 low, .int .i64 high] w fun e w' => e = .returned (.bool (inB n low high)) ∧ w' = w := by
  unfold inB
  by_cases h1 : low ≤ n
  · rw [decide_eq_true h1, Bool.true_and]
    go_enter Tryz.func21, Tryz.ntmps21
    go_wp2
    go_ret
    exact ⟨rfl, rfl⟩
  · rw [decide_eq_false h1, Bool.false_and]
    go_enter Tryz.func21, Tryz.ntmps21
    go_wp2
    go_ret
    exact ⟨rfl, rfl⟩

theorem within_any (n low high : Int) (w : World) : Calls Tryz.prog 58 #[.int .i64 n, .int .i64 low, .int .i64 high] w fun e w' => e = .returned (.bool (inB n low high)) ∧ w' = w := by
  unfold inB
  by_cases h1 : low ≤ n
  · rw [decide_eq_true h1, Bool.true_and]
    go_enter Tryz.func58, Tryz.ntmps58
    go_wp2
    go_ret
    exact ⟨rfl, rfl⟩
  · rw [decide_eq_false h1, Bool.false_and]
    go_enter Tryz.func58, Tryz.ntmps58
    go_wp2
    go_ret
    exact ⟨rfl, rfl⟩

theorem ret_b {a b : Bool} (h : a = b) : Ending.returned (.bool a) = .returned (.bool b) := by rw [h]
theorem take_snoc (s : ByteArray) (k : Nat) (h : k < s.size) : s.data.toList.take (k + 1) = s.data.toList.take k ++ [s[k]] := by
  rw [List.take_succ_eq_append_getElem (by simpa using h)]; rfl
theorem all_snoc (s : ByteArray) (k : Nat) (h : k < s.size) (ha : (s.data.toList.take k).all okc = true) (hc : okc s[k] = true) : (s.data.toList.take (k + 1)).all okc = true := by
  rw [take_snoc s k h, List.all_append, ha]; simp [hc]
theorem all_bad (s : ByteArray) (k : Nat) (h : k < s.size) (hc : okc s[k] = false) : s.data.toList.all okc = false := by
  rw [List.all_eq_false]
  exact ⟨s.data.toList[k]'(by simpa using h), List.getElem_mem _, by show ¬ okc s[k] = true; simp [hc]⟩
theorem all_end (s : ByteArray) (k : Nat) (h : s.size ≤ k) (ha : (s.data.toList.take k).all okc = true) : s.data.toList.all okc = true := by
  rwa [List.take_of_length_le (by simpa using h)] at ha

set_option maxHeartbeats 400000 in
theorem specName_any (s : ByteArray) (w : World) (hs : s.size ≤ maxLen) :
    Calls Tryz.prog 19 #[.string s] w fun e w' => e = .returned (.bool (nameB s)) ∧ w' = w := by
  unfold maxLen at hs
  cases hin : inB s.size 1 20
  · rw [show nameB s = false from by simp [nameB, hin]]
    go_enter Tryz.func19, Tryz.ntmps19
    go_wp2_with (go_at_call 21; refine (specIn_any _ _ _ _).mono ?_; rintro e w' ⟨rfl, rfl⟩)
    go_ret
    exact ⟨rfl, rfl⟩
  · have hl : s.size ≤ 20 := by simp [inB] at hin; omega
    have Hn : Hid (nameB s = s.data.toList.all okc) := by show nameB s = _; simp [nameB, hin]
    go_enter Tryz.func19, Tryz.ntmps19
    go_wp2_with (go_at_call 21; refine (specIn_any _ _ _ _).mono ?_; rintro e w' ⟨rfl, rfl⟩)
    go_loop [3] (fun i => ∃ k : Nat, k ≤ s.size ∧ i = .int .i64 k ∧ (s.data.toList.take k).all okc = true) (fun i => s.size - (intOf i).toNat)
    case atStart => exact ⟨0, Nat.zero_le _, rfl, rfl⟩
    case round =>
      obtain ⟨k, hk, rfl, hall⟩ := hrel
      have Ha : Hid _ := hall
      clear hall
      by_cases hlt : k < s.size
      · by_cases b1 : (s[k].toNat : Int) < 33
        · go_wp2
          go_ret
          exact ⟨ret_b (by rw [Hn.out, all_bad s k hlt (by simp [okc]; omega)]), rfl⟩
        · by_cases b2 : 126 < (s[k].toNat : Int)
          · go_wp2
            go_ret
            exact ⟨ret_b (by rw [Hn.out, all_bad s k hlt (by simp [okc]; omega)]), rfl⟩
          · have Hc : Hid (okc s[k] = true) := by show okc s[k] = true; simp [okc]; omega
            go_wp2
            exact ⟨⟨k + 1, by omega, by go_num, all_snoc s k hlt Ha.out Hc.out⟩, by simp [intOf]; omega⟩
      · go_wp2
        go_ret
        exact ⟨ret_b (by rw [Hn.out, all_end s k (by omega) Ha.out]), rfl⟩

set_option maxHeartbeats 400000 in
theorem implName_any (s : ByteArray) (w : World) (hs : s.size ≤ maxLen) :
    Calls Tryz.prog 57 #[.string s] w fun e w' => e = .returned (.bool (nameB s)) ∧ w' = w := by
  unfold maxLen at hs
  cases hin : inB s.size 1 20
  · rw [show nameB s = false from by simp [nameB, hin]]
    go_enter Tryz.func57, Tryz.ntmps57
    go_wp2_with (go_at_call 58; refine (within_any _ _ _ _).mono ?_; rintro e w' ⟨rfl, rfl⟩)
    go_ret
    exact ⟨rfl, rfl⟩
  · have hl : s.size ≤ 20 := by simp [inB] at hin; omega
    have Hn : Hid (nameB s = s.data.toList.all okc) := by show nameB s = _; simp [nameB, hin]
    go_enter Tryz.func57, Tryz.ntmps57
    go_wp2_with (go_at_call 58; refine (within_any _ _ _ _).mono ?_; rintro e w' ⟨rfl, rfl⟩)
    go_loop [10] (fun i => ∃ k : Nat, k ≤ s.size ∧ i = .int .i64 k ∧ (s.data.toList.take k).all okc = true) (fun i => s.size - (intOf i).toNat)
    case atStart => exact ⟨0, Nat.zero_le _, rfl, rfl⟩
    case round =>
      obtain ⟨k, hk, rfl, hall⟩ := hrel
      have Ha : Hid _ := hall
      clear hall
      by_cases hlt : k < s.size
      · by_cases b1 : (s[k].toNat : Int) < 33
        · go_wp2
          go_ret
          exact ⟨ret_b (by rw [Hn.out, all_bad s k hlt (by simp [okc]; omega)]), rfl⟩
        · by_cases b2 : 126 < (s[k].toNat : Int)
          · go_wp2
            go_ret
            exact ⟨ret_b (by rw [Hn.out, all_bad s k hlt (by simp [okc]; omega)]), rfl⟩
          · have Hc : Hid (okc s[k] = true) := by show okc s[k] = true; simp [okc]; omega
            go_wp2
            exact ⟨⟨k + 1, by omega, by go_num, all_snoc s k hlt Ha.out Hc.out⟩, by simp [intOf]; omega⟩
      · go_wp2
        go_ret
        exact ⟨ret_b (by rw [Hn.out, all_end s k (by omega) Ha.out]), rfl⟩

/-- A hold: a name other than a star. -/
def holdB (s : ByteArray) : Bool := nameB s && !(s.toList == [42])

theorem specHold_any (s : ByteArray) (w : World) (hs : s.size ≤ maxLen) :
    Calls Tryz.prog 20 #[.string s] w fun e w' => e = .returned (.bool (holdB s)) ∧ w' = w := by
  unfold holdB
  cases hn : nameB s
  · go_enter Tryz.func20, Tryz.ntmps20
    go_wp2_with (go_at_call 19; refine (specName_any s _ hs).mono ?_; rintro e w' ⟨rfl, rfl⟩)
    go_ret
    exact ⟨rfl, rfl⟩
  · go_enter Tryz.func20, Tryz.ntmps20
    go_wp2_with (go_at_call 19; refine (specName_any s _ hs).mono ?_; rintro e w' ⟨rfl, rfl⟩)
    go_ret
    exact ⟨rfl, rfl⟩
theorem implHold_any (s : ByteArray) (w : World) (hs : s.size ≤ maxLen) :
    Calls Tryz.prog 63 #[.string s] w fun e w' => e = .returned (.bool (holdB s)) ∧ w' = w := by
  unfold holdB
  cases hn : nameB s
  · go_enter Tryz.func63, Tryz.ntmps63
    go_wp2_with (go_at_call 57; refine (implName_any s _ hs).mono ?_; rintro e w' ⟨rfl, rfl⟩)
    go_ret
    exact ⟨rfl, rfl⟩
  · go_enter Tryz.func63, Tryz.ntmps63
    go_wp2_with (go_at_call 57; refine (implName_any s _ hs).mono ?_; rintro e w' ⟨rfl, rfl⟩)
    go_ret
    exact ⟨rfl, rfl⟩
end Go.Proofs.YtkkcfofhhgmbaaaGreatDoor
