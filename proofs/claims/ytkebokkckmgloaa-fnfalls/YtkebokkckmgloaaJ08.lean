import Derived.Test.YtkebokkckmgloaaJ01
import Derived.Laws.EntriesVeiled
/- Names, holds and numbers within bounds: both sides. -/
namespace Go.Proofs.Ytkebokkckmgloaa
open Go.RowKit
set_option linter.unusedVariables false

/-- A number within bounds. -/
def inB (n low high : Int) : Bool := decide (low ≤ n) && decide (n ≤ high)
/-- A byte that a name may hold. -/
def okc (c : UInt8) : Bool := decide (33 ≤ (c.toNat : Int)) && decide ((c.toNat : Int) ≤ 126)
def nameB (s : ByteArray) : Bool := inB s.size 1 20 && s.data.toList.all okc

theorem specIn_any (n low high : Int) (w : World) : Calls Try.prog 66 #[.int .i64 n, .int .i64 low, .int .i64 high] w fun e w' => e = .returned (.bool (inB n low high)) ∧ w' = w := by
  unfold inB
  by_cases h1 : low ≤ n
  · rw [decide_eq_true h1, Bool.true_and]
    go_enter Try.func66, Try.ntmps66
    go_wp2
    go_ret
    exact ⟨rfl, rfl⟩
  · rw [decide_eq_false h1, Bool.false_and]
    go_enter Try.func66, Try.ntmps66
    go_wp2
    go_ret
    exact ⟨rfl, rfl⟩

theorem within_any (n low high : Int) (w : World) : Calls Try.prog 130 #[.int .i64 n, .int .i64 low, .int .i64 high] w fun e w' => e = .returned (.bool (inB n low high)) ∧ w' = w := by
  unfold inB
  by_cases h1 : low ≤ n
  · rw [decide_eq_true h1, Bool.true_and]
    go_enter Try.func130, Try.ntmps130
    go_wp2
    go_ret
    exact ⟨rfl, rfl⟩
  · rw [decide_eq_false h1, Bool.false_and]
    go_enter Try.func130, Try.ntmps130
    go_wp2
    go_ret
    exact ⟨rfl, rfl⟩

theorem ret_b {a b : Bool} (h : a = b) : Ending.returned (.bool a) = .returned (.bool b) := by rw [h]
theorem take_snoc (s : ByteArray) (k : Nat) (h : k < s.size) : s.data.toList.take (k + 1) = s.data.toList.take k ++ [s[k]] := by
  rw [List.take_succ_eq_append_getElem (by simpa using h)]; rfl
theorem all_snoc (s : ByteArray) (k : Nat) (h : k < s.size) (ha : (s.data.toList.take k).all okc = true) (hc : okc s[k] = true) : (s.data.toList.take (k + 1)).all okc = true := by
  rw [take_snoc s k h, List.all_append, ha]; simp [hc]
theorem all_bad (s : ByteArray) (k : Nat) (h : k < s.size) (hc : okc s[k] = false) : s.data.toList.all okc = false := by
  rw [List.all_eq_false]
  exact ⟨s.data.toList[k]'(by simpa using h), List.getElem_mem _, by show ¬ okc s[k] = true; simp [hc]⟩
theorem all_end (s : ByteArray) (k : Nat) (h : s.size ≤ k) (ha : (s.data.toList.take k).all okc = true) : s.data.toList.all okc = true := by
  rwa [List.take_of_length_le (by simpa using h)] at ha

set_option maxHeartbeats 400000 in
theorem specName_any (s : ByteArray) (w : World) (hs : s.size ≤ maxLen) :
    Calls Try.prog 65 #[.string s] w fun e w' => e = .returned (.bool (nameB s)) ∧ w' = w := by
  unfold maxLen at hs
  cases hin : inB s.size 1 20
  · rw [show nameB s = false from by simp [nameB, hin]]
    go_enter Try.func65, Try.ntmps65
    go_wp2_with (go_at_call 66; refine (specIn_any _ _ _ _).mono ?_; rintro e w' ⟨rfl, rfl⟩)
    go_ret
    exact ⟨rfl, rfl⟩
  · have hl : s.size ≤ 20 := by simp [inB] at hin; omega
    have Hn : Hid (nameB s = s.data.toList.all okc) := by show nameB s = _; simp [nameB, hin]
    go_enter Try.func65, Try.ntmps65
    go_wp2_with (go_at_call 66; refine (specIn_any _ _ _ _).mono ?_; rintro e w' ⟨rfl, rfl⟩)
    go_loop [3] (fun i => ∃ k : Nat, k ≤ s.size ∧ i = .int .i64 k ∧ (s.data.toList.take k).all okc = true) (fun i => s.size - (intOf i).toNat)
    case atStart => exact ⟨0, Nat.zero_le _, rfl, rfl⟩
    case round =>
      obtain ⟨k, hk, rfl, hall⟩ := hrel
      have Ha : Hid _ := hall
      clear hall
      by_cases hlt : k < s.size
      · by_cases b1 : (s[k].toNat : Int) < 33
        · go_wp2
          go_ret
          exact ⟨ret_b (by rw [Hn.out, all_bad s k hlt (by simp [okc]; omega)]), rfl⟩
        · by_cases b2 : 126 < (s[k].toNat : Int)
          · go_wp2
            go_ret
            exact ⟨ret_b (by rw [Hn.out, all_bad s k hlt (by simp [okc]; omega)]), rfl⟩
          · have Hc : Hid (okc s[k] = true) := by show okc s[k] = true; simp [okc]; omega
            go_wp2
            exact ⟨⟨k + 1, by omega, by go_num, all_snoc s k hlt Ha.out Hc.out⟩, by simp [intOf]; omega⟩
      · go_wp2
        go_ret
        exact ⟨ret_b (by rw [Hn.out, all_end s k (by omega) Ha.out]), rfl⟩

set_option maxHeartbeats 400000 in
theorem implName_any (s : ByteArray) (w : World) (hs : s.size ≤ maxLen) :
    Calls Try.prog 129 #[.string s] w fun e w' => e = .returned (.bool (nameB s)) ∧ w' = w := by
  unfold maxLen at hs
  cases hin : inB s.size 1 20
  · rw [show nameB s = false from by simp [nameB, hin]]
    go_enter Try.func129, Try.ntmps129
    go_wp2_with (go_at_call 130; refine (within_any _ _ _ _).mono ?_; rintro e w' ⟨rfl, rfl⟩)
    go_ret
    exact ⟨rfl, rfl⟩
  · have hl : s.size ≤ 20 := by simp [inB] at hin; omega
    have Hn : Hid (nameB s = s.data.toList.all okc) := by show nameB s = _; simp [nameB, hin]
    go_enter Try.func129, Try.ntmps129
    go_wp2_with (go_at_call 130; refine (within_any _ _ _ _).mono ?_; rintro e w' ⟨rfl, rfl⟩)
    go_loop [10] (fun i => ∃ k : Nat, k ≤ s.size ∧ i = .int .i64 k ∧ (s.data.toList.take k).all okc = true) (fun i => s.size - (intOf i).toNat)
    case atStart => exact ⟨0, Nat.zero_le _, rfl, rfl⟩
    case round =>
      obtain ⟨k, hk, rfl, hall⟩ := hrel
      have Ha : Hid _ := hall
      clear hall
      by_cases hlt : k < s.size
      · by_cases b1 : (s[k].toNat : Int) < 33
        · go_wp2
          go_ret
          exact ⟨ret_b (by rw [Hn.out, all_bad s k hlt (by simp [okc]; omega)]), rfl⟩
        · by_cases b2 : 126 < (s[k].toNat : Int)
          · go_wp2
            go_ret
            exact ⟨ret_b (by rw [Hn.out, all_bad s k hlt (by simp [okc]; omega)]), rfl⟩
          · have Hc : Hid (okc s[k] = true) := by show okc s[k] = true; simp [okc]; omega
            go_wp2
            exact ⟨⟨k + 1, by omega, by go_num, all_snoc s k hlt Ha.out Hc.out⟩, by simp [intOf]; omega⟩
      · go_wp2
        go_ret
        exact ⟨ret_b (by rw [Hn.out, all_end s k (by omega) Ha.out]), rfl⟩

/-- A hold: a name other than a star. -/
def holdB (s : ByteArray) : Bool := nameB s && !(s.toList == [42])

theorem specHold_any (s : ByteArray) (w : World) (hs : s.size ≤ maxLen) :
    Calls Try.prog 110 #[.string s] w fun e w' => e = .returned (.bool (holdB s)) ∧ w' = w := by
  unfold holdB
  cases hn : nameB s
  · go_enter Try.func110, Try.ntmps110
    go_wp2_with (go_at_call 65; refine (specName_any s _ hs).mono ?_; rintro e w' ⟨rfl, rfl⟩)
    go_ret
    exact ⟨rfl, rfl⟩
  · go_enter Try.func110, Try.ntmps110
    go_wp2_with (go_at_call 65; refine (specName_any s _ hs).mono ?_; rintro e w' ⟨rfl, rfl⟩)
    go_ret
    exact ⟨rfl, rfl⟩
theorem implHold_any (s : ByteArray) (w : World) (hs : s.size ≤ maxLen) :
    Calls Try.prog 182 #[.string s] w fun e w' => e = .returned (.bool (holdB s)) ∧ w' = w := by
  unfold holdB
  cases hn : nameB s
  · go_enter Try.func182, Try.ntmps182
    go_wp2_with (go_at_call 129; refine (implName_any s _ hs).mono ?_; rintro e w' ⟨rfl, rfl⟩)
    go_ret
    exact ⟨rfl, rfl⟩
  · go_enter Try.func182, Try.ntmps182
    go_wp2_with (go_at_call 129; refine (implName_any s _ hs).mono ?_; rintro e w' ⟨rfl, rfl⟩)
    go_ret
    exact ⟨rfl, rfl⟩
end Go.Proofs.Ytkebokkckmgloaa
/- Is a want alone such? Both sides. -/
namespace Go.Proofs.Ytkebokkckmgloaa
open Go.RowKit
set_option linter.unusedVariables false

def ticksB (p s d g : Int) : Bool := inB p 0 100 && (inB s 0 100 && (inB d 0 100 && inB g 0 100))
def wantB (c h : ByteArray) (v p s d g : Int) : Bool := nameB c && (inB v 1 1000000 && ((h.toList.isEmpty || holdB h) && ticksB p s d g))

set_option maxHeartbeats 1000000 in
theorem specWant_any (c h : ByteArray) (v p s d g : Int) (w : World) (hc : c.size ≤ maxLen) (hh : h.size ≤ maxLen) :
    Calls Try.prog 85 #[.agg #[.string c, .int .i64 v, .string h, .int .i64 p, .int .i64 s, .int .i64 d, .int .i64 g]] w fun e w' => e = .returned (.bool (wantB c h v p s d g)) ∧ w' = w.alloc (.cells #[.string c, .int .i64 v, .string h, .int .i64 p, .int .i64 s, .int .i64 d, .int .i64 g] 36) := by
  cases h0 : nameB c
  · go_enter Try.func85, Try.ntmps85
    go_wp2_with (first | (go_at_call 65; refine (specName_any c _ hc).mono ?_; rintro e w' ⟨rfl, rfl⟩) | (go_at_call 110; refine (specHold_any h _ hh).mono ?_; rintro e w' ⟨rfl, rfl⟩) | (go_at_call 66; refine (specIn_any _ _ _ _).mono ?_; rintro e w' ⟨rfl, rfl⟩))
    go_ret
    exact ⟨ret_b (by simp [wantB, ticksB, *]), rfl⟩
  · skip
    cases h1 : inB v 1 1000000
    · go_enter Try.func85, Try.ntmps85
      go_wp2_with (first | (go_at_call 65; refine (specName_any c _ hc).mono ?_; rintro e w' ⟨rfl, rfl⟩) | (go_at_call 110; refine (specHold_any h _ hh).mono ?_; rintro e w' ⟨rfl, rfl⟩) | (go_at_call 66; refine (specIn_any _ _ _ _).mono ?_; rintro e w' ⟨rfl, rfl⟩))
      go_ret
      exact ⟨ret_b (by simp [wantB, ticksB, *]), rfl⟩
    · skip
      have he : (h.toList.isEmpty || holdB h) = false ∨ (h.toList.isEmpty = true) ∨ (h.toList.isEmpty = false ∧ holdB h = true) := by cases h.toList.isEmpty <;> cases holdB h <;> simp
      rcases he with he | he | he
      · obtain ⟨e1, e2⟩ : h.toList.isEmpty = false ∧ holdB h = false := by simpa using he
        clear he
        go_enter Try.func85, Try.ntmps85
        go_wp2_with (first | (go_at_call 65; refine (specName_any c _ hc).mono ?_; rintro e w' ⟨rfl, rfl⟩) | (go_at_call 110; refine (specHold_any h _ hh).mono ?_; rintro e w' ⟨rfl, rfl⟩) | (go_at_call 66; refine (specIn_any _ _ _ _).mono ?_; rintro e w' ⟨rfl, rfl⟩))
        go_ret
        exact ⟨ret_b (by simp [wantB, ticksB, *]), rfl⟩
      · skip
        cases q0 : inB p 0 100
        · go_enter Try.func85, Try.ntmps85
          go_wp2_with (first | (go_at_call 65; refine (specName_any c _ hc).mono ?_; rintro e w' ⟨rfl, rfl⟩) | (go_at_call 110; refine (specHold_any h _ hh).mono ?_; rintro e w' ⟨rfl, rfl⟩) | (go_at_call 66; refine (specIn_any _ _ _ _).mono ?_; rintro e w' ⟨rfl, rfl⟩))
          go_ret
          exact ⟨ret_b (by simp [wantB, ticksB, *]), rfl⟩
        · skip
          cases q1 : inB s 0 100
          · go_enter Try.func85, Try.ntmps85
            go_wp2_with (first | (go_at_call 65; refine (specName_any c _ hc).mono ?_; rintro e w' ⟨rfl, rfl⟩) | (go_at_call 110; refine (specHold_any h _ hh).mono ?_; rintro e w' ⟨rfl, rfl⟩) | (go_at_call 66; refine (specIn_any _ _ _ _).mono ?_; rintro e w' ⟨rfl, rfl⟩))
            go_ret
            exact ⟨ret_b (by simp [wantB, ticksB, *]), rfl⟩
          · skip
            cases q2 : inB d 0 100
            · go_enter Try.func85, Try.ntmps85
              go_wp2_with (first | (go_at_call 65; refine (specName_any c _ hc).mono ?_; rintro e w' ⟨rfl, rfl⟩) | (go_at_call 110; refine (specHold_any h _ hh).mono ?_; rintro e w' ⟨rfl, rfl⟩) | (go_at_call 66; refine (specIn_any _ _ _ _).mono ?_; rintro e w' ⟨rfl, rfl⟩))
              go_ret
              exact ⟨ret_b (by simp [wantB, ticksB, *]), rfl⟩
            · skip
              cases q3 : inB g 0 100
              · go_enter Try.func85, Try.ntmps85
                go_wp2_with (first | (go_at_call 65; refine (specName_any c _ hc).mono ?_; rintro e w' ⟨rfl, rfl⟩) | (go_at_call 110; refine (specHold_any h _ hh).mono ?_; rintro e w' ⟨rfl, rfl⟩) | (go_at_call 66; refine (specIn_any _ _ _ _).mono ?_; rintro e w' ⟨rfl, rfl⟩))
                go_ret
                exact ⟨ret_b (by simp [wantB, ticksB, *]), rfl⟩
              · go_enter Try.func85, Try.ntmps85
                go_wp2_with (first | (go_at_call 65; refine (specName_any c _ hc).mono ?_; rintro e w' ⟨rfl, rfl⟩) | (go_at_call 110; refine (specHold_any h _ hh).mono ?_; rintro e w' ⟨rfl, rfl⟩) | (go_at_call 66; refine (specIn_any _ _ _ _).mono ?_; rintro e w' ⟨rfl, rfl⟩))
                go_ret
                exact ⟨ret_b (by simp [wantB, ticksB, *]), rfl⟩
      · obtain ⟨e1, e2⟩ := he
        cases q0 : inB p 0 100
        · go_enter Try.func85, Try.ntmps85
          go_wp2_with (first | (go_at_call 65; refine (specName_any c _ hc).mono ?_; rintro e w' ⟨rfl, rfl⟩) | (go_at_call 110; refine (specHold_any h _ hh).mono ?_; rintro e w' ⟨rfl, rfl⟩) | (go_at_call 66; refine (specIn_any _ _ _ _).mono ?_; rintro e w' ⟨rfl, rfl⟩))
          go_ret
          exact ⟨ret_b (by simp [wantB, ticksB, *]), rfl⟩
        · skip
          cases q1 : inB s 0 100
          · go_enter Try.func85, Try.ntmps85
            go_wp2_with (first | (go_at_call 65; refine (specName_any c _ hc).mono ?_; rintro e w' ⟨rfl, rfl⟩) | (go_at_call 110; refine (specHold_any h _ hh).mono ?_; rintro e w' ⟨rfl, rfl⟩) | (go_at_call 66; refine (specIn_any _ _ _ _).mono ?_; rintro e w' ⟨rfl, rfl⟩))
            go_ret
            exact ⟨ret_b (by simp [wantB, ticksB, *]), rfl⟩
          · skip
            cases q2 : inB d 0 100
            · go_enter Try.func85, Try.ntmps85
              go_wp2_with (first | (go_at_call 65; refine (specName_any c _ hc).mono ?_; rintro e w' ⟨rfl, rfl⟩) | (go_at_call 110; refine (specHold_any h _ hh).mono ?_; rintro e w' ⟨rfl, rfl⟩) | (go_at_call 66; refine (specIn_any _ _ _ _).mono ?_; rintro e w' ⟨rfl, rfl⟩))
              go_ret
              exact ⟨ret_b (by simp [wantB, ticksB, *]), rfl⟩
            · skip
              cases q3 : inB g 0 100
              · go_enter Try.func85, Try.ntmps85
                go_wp2_with (first | (go_at_call 65; refine (specName_any c _ hc).mono ?_; rintro e w' ⟨rfl, rfl⟩) | (go_at_call 110; refine (specHold_any h _ hh).mono ?_; rintro e w' ⟨rfl, rfl⟩) | (go_at_call 66; refine (specIn_any _ _ _ _).mono ?_; rintro e w' ⟨rfl, rfl⟩))
                go_ret
                exact ⟨ret_b (by simp [wantB, ticksB, *]), rfl⟩
              · go_enter Try.func85, Try.ntmps85
                go_wp2_with (first | (go_at_call 65; refine (specName_any c _ hc).mono ?_; rintro e w' ⟨rfl, rfl⟩) | (go_at_call 110; refine (specHold_any h _ hh).mono ?_; rintro e w' ⟨rfl, rfl⟩) | (go_at_call 66; refine (specIn_any _ _ _ _).mono ?_; rintro e w' ⟨rfl, rfl⟩))
                go_ret
                exact ⟨ret_b (by simp [wantB, ticksB, *]), rfl⟩

theorem copyOk_any (c h : ByteArray) (v p s d g : Int) (w : World) (hc : c.size ≤ maxLen) (hh : h.size ≤ maxLen) :
    Calls Try.prog 178 #[.agg #[.string c, .int .i64 v, .string h, .int .i64 p, .int .i64 s, .int .i64 d, .int .i64 g]] w fun e w' => e = .returned (.bool (nameB c)) ∧ w' = w.alloc (.cells #[.string c, .int .i64 v, .string h, .int .i64 p, .int .i64 s, .int .i64 d, .int .i64 g] 36) := by
  go_enter Try.func178, Try.ntmps178
  go_wp2_with (go_at_call 129; refine (implName_any c _ hc).mono ?_; rintro e w' ⟨rfl, rfl⟩)
  go_ret
  exact ⟨rfl, rfl⟩

theorem versionOk_any (c h : ByteArray) (v p s d g : Int) (w : World) (hc : c.size ≤ maxLen) (hh : h.size ≤ maxLen) :
    Calls Try.prog 179 #[.agg #[.string c, .int .i64 v, .string h, .int .i64 p, .int .i64 s, .int .i64 d, .int .i64 g]] w fun e w' => e = .returned (.bool (inB v 1 1000000)) ∧ w' = w.alloc (.cells #[.string c, .int .i64 v, .string h, .int .i64 p, .int .i64 s, .int .i64 d, .int .i64 g] 36) := by
  go_enter Try.func179, Try.ntmps179
  go_wp2_with (go_at_call 130; refine (within_any _ _ _ _).mono ?_; rintro e w' ⟨rfl, rfl⟩)
  go_ret
  exact ⟨rfl, rfl⟩

theorem holdOk_any (c h : ByteArray) (v p s d g : Int) (w : World) (hc : c.size ≤ maxLen) (hh : h.size ≤ maxLen) :
    Calls Try.prog 180 #[.agg #[.string c, .int .i64 v, .string h, .int .i64 p, .int .i64 s, .int .i64 d, .int .i64 g]] w fun e w' => e = .returned (.bool (h.toList.isEmpty || holdB h)) ∧ w' = w.alloc (.cells #[.string c, .int .i64 v, .string h, .int .i64 p, .int .i64 s, .int .i64 d, .int .i64 g] 36) := by
  cases he : h.toList.isEmpty
  · go_enter Try.func180, Try.ntmps180
    go_wp2_with (go_at_call 182; refine (implHold_any h _ hh).mono ?_; rintro e w' ⟨rfl, rfl⟩)
    go_ret
    exact ⟨rfl, rfl⟩
  · go_enter Try.func180, Try.ntmps180
    go_wp2
    go_ret
    exact ⟨rfl, rfl⟩

theorem build4 (p s d g : Int) (w : World) : Sem.run Try.prog (Instr.build 201 #[(0, .int .i64 p), (1, .int .i64 s), (2, .int .i64 d), (3, .int .i64 g)]) w = .ok (.agg #[.int .i64 p, .int .i64 s, .int .i64 d, .int .i64 g]) w := by kernel_rfl
set_option maxHeartbeats 1000000 in
theorem ticksOk_any (c h : ByteArray) (v p s d g : Int) (w : World) (hc : c.size ≤ maxLen) (hh : h.size ≤ maxLen) :
    Calls Try.prog 181 #[.agg #[.string c, .int .i64 v, .string h, .int .i64 p, .int .i64 s, .int .i64 d, .int .i64 g]] w fun e w' => e = .returned (.bool (ticksB p s d g)) ∧ w' = w.alloc (.cells #[.string c, .int .i64 v, .string h, .int .i64 p, .int .i64 s, .int .i64 d, .int .i64 g] 36) := by
  have hb4 := build4
  have i0 : ∀ w, Sem.run Try.prog (Instr.index 201 (.agg #[.int .i64 p, .int .i64 s, .int .i64 d, .int .i64 g]) (.int .i64 0)) w = .ok (.int .i64 p) w := fun _ => by kernel_rfl
  have i1 : ∀ w, Sem.run Try.prog (Instr.index 201 (.agg #[.int .i64 p, .int .i64 s, .int .i64 d, .int .i64 g]) (.int .i64 1)) w = .ok (.int .i64 s) w := fun _ => by kernel_rfl
  have i2 : ∀ w, Sem.run Try.prog (Instr.index 201 (.agg #[.int .i64 p, .int .i64 s, .int .i64 d, .int .i64 g]) (.int .i64 2)) w = .ok (.int .i64 d) w := fun _ => by kernel_rfl
  have i3 : ∀ w, Sem.run Try.prog (Instr.index 201 (.agg #[.int .i64 p, .int .i64 s, .int .i64 d, .int .i64 g]) (.int .i64 3)) w = .ok (.int .i64 g) w := fun _ => by kernel_rfl
  cases q0 : inB p 0 100
  · go_enter Try.func181, Try.ntmps181
    go_wp2
    refine wp_loop_rounds 1 ?_
    rw [rounds_succ]
    go_wp2_with (go_at_call 130; refine (within_any _ _ _ _).mono ?_; rintro e w' ⟨rfl, rfl⟩)
    go_ret
    exact ⟨ret_b (by simp [ticksB, *]), rfl⟩
  · skip
    cases q1 : inB s 0 100
    · go_enter Try.func181, Try.ntmps181
      go_wp2
      refine wp_loop_rounds 2 ?_
      rw [rounds_succ]
      go_wp2_with (go_at_call 130; refine (within_any _ _ _ _).mono ?_; rintro e w' ⟨rfl, rfl⟩)
      rw [rounds_succ]
      go_wp2_with (go_at_call 130; refine (within_any _ _ _ _).mono ?_; rintro e w' ⟨rfl, rfl⟩)
      go_ret
      exact ⟨ret_b (by simp [ticksB, *]), rfl⟩
    · skip
      cases q2 : inB d 0 100
      · go_enter Try.func181, Try.ntmps181
        go_wp2
        refine wp_loop_rounds 3 ?_
        rw [rounds_succ]
        go_wp2_with (go_at_call 130; refine (within_any _ _ _ _).mono ?_; rintro e w' ⟨rfl, rfl⟩)
        rw [rounds_succ]
        go_wp2_with (go_at_call 130; refine (within_any _ _ _ _).mono ?_; rintro e w' ⟨rfl, rfl⟩)
        rw [rounds_succ]
        go_wp2_with (go_at_call 130; refine (within_any _ _ _ _).mono ?_; rintro e w' ⟨rfl, rfl⟩)
        go_ret
        exact ⟨ret_b (by simp [ticksB, *]), rfl⟩
      · skip
        cases q3 : inB g 0 100
        · go_enter Try.func181, Try.ntmps181
          go_wp2
          refine wp_loop_rounds 4 ?_
          rw [rounds_succ]
          go_wp2_with (go_at_call 130; refine (within_any _ _ _ _).mono ?_; rintro e w' ⟨rfl, rfl⟩)
          rw [rounds_succ]
          go_wp2_with (go_at_call 130; refine (within_any _ _ _ _).mono ?_; rintro e w' ⟨rfl, rfl⟩)
          rw [rounds_succ]
          go_wp2_with (go_at_call 130; refine (within_any _ _ _ _).mono ?_; rintro e w' ⟨rfl, rfl⟩)
          rw [rounds_succ]
          go_wp2_with (go_at_call 130; refine (within_any _ _ _ _).mono ?_; rintro e w' ⟨rfl, rfl⟩)
          go_ret
          exact ⟨ret_b (by simp [ticksB, *]), rfl⟩
        · go_enter Try.func181, Try.ntmps181
          go_wp2
          refine wp_loop_rounds 5 ?_
          rw [rounds_succ]
          go_wp2_with (go_at_call 130; refine (within_any _ _ _ _).mono ?_; rintro e w' ⟨rfl, rfl⟩)
          rw [rounds_succ]
          go_wp2_with (go_at_call 130; refine (within_any _ _ _ _).mono ?_; rintro e w' ⟨rfl, rfl⟩)
          rw [rounds_succ]
          go_wp2_with (go_at_call 130; refine (within_any _ _ _ _).mono ?_; rintro e w' ⟨rfl, rfl⟩)
          rw [rounds_succ]
          go_wp2_with (go_at_call 130; refine (within_any _ _ _ _).mono ?_; rintro e w' ⟨rfl, rfl⟩)
          rw [rounds_succ]
          go_wp2_with (go_at_call 130; refine (within_any _ _ _ _).mono ?_; rintro e w' ⟨rfl, rfl⟩)
          go_ret
          exact ⟨ret_b (by simp [ticksB, *]), rfl⟩

theorem build_checks (w : World) : Sem.run Try.prog (Instr.buildSlice 200 4 #[(0, .func (.func 178) #[] #[]), (1, .func (.func 179) #[] #[]), (2, .func (.func 180) #[] #[]), (3, .func (.func 181) #[] #[])]) w = .ok (.slice (some ⟨w.heap.size, 0, none⟩) 4 4) (w.alloc (.cells #[.func (.func 178) #[] #[], .func (.func 179) #[] #[], .func (.func 180) #[] #[], .func (.func 181) #[] #[]] 119)) := by kernel_rfl
set_option maxHeartbeats 2000000 in
theorem implWant_any (c h : ByteArray) (v p s d g : Int) (w : World) (hc : c.size ≤ maxLen) (hh : h.size ≤ maxLen) :
    Calls Try.prog 142 #[.agg #[.string c, .int .i64 v, .string h, .int .i64 p, .int .i64 s, .int .i64 d, .int .i64 g]] w fun e w' => e = .returned (.bool (wantB c h v p s d g)) ∧ Below w.heap.size w w' := by
  have hbc := build_checks
  cases q0 : nameB c
  · go_enter Try.func142, Try.ntmps142
    go_wp2_with go_in
    refine wp_loop_rounds 1 ?_
    rw [rounds_succ]
    go_wp2_with (first | (go_at_call 178; refine (copyOk_any c h v p s d g _ hc hh).mono ?_; rintro e w' ⟨rfl, rfl⟩) | (go_at_call 179; refine (versionOk_any c h v p s d g _ hc hh).mono ?_; rintro e w' ⟨rfl, rfl⟩) | (go_at_call 180; refine (holdOk_any c h v p s d g _ hc hh).mono ?_; rintro e w' ⟨rfl, rfl⟩) | (go_at_call 181; refine (ticksOk_any c h v p s d g _ hc hh).mono ?_; rintro e w' ⟨rfl, rfl⟩) | go_in)
    go_ret
    exact ⟨ret_b (by simp [wantB, *]), by repeat (first | exact Below.refl _ _ | refine bl_alloc ?_ _ | refine bl_drew ?_)⟩
  · skip
    cases q1 : inB v 1 1000000
    · go_enter Try.func142, Try.ntmps142
      go_wp2_with go_in
      refine wp_loop_rounds 2 ?_
      rw [rounds_succ]
      go_wp2_with (first | (go_at_call 178; refine (copyOk_any c h v p s d g _ hc hh).mono ?_; rintro e w' ⟨rfl, rfl⟩) | (go_at_call 179; refine (versionOk_any c h v p s d g _ hc hh).mono ?_; rintro e w' ⟨rfl, rfl⟩) | (go_at_call 180; refine (holdOk_any c h v p s d g _ hc hh).mono ?_; rintro e w' ⟨rfl, rfl⟩) | (go_at_call 181; refine (ticksOk_any c h v p s d g _ hc hh).mono ?_; rintro e w' ⟨rfl, rfl⟩) | go_in)
      rw [rounds_succ]
      go_wp2_with (first | (go_at_call 178; refine (copyOk_any c h v p s d g _ hc hh).mono ?_; rintro e w' ⟨rfl, rfl⟩) | (go_at_call 179; refine (versionOk_any c h v p s d g _ hc hh).mono ?_; rintro e w' ⟨rfl, rfl⟩) | (go_at_call 180; refine (holdOk_any c h v p s d g _ hc hh).mono ?_; rintro e w' ⟨rfl, rfl⟩) | (go_at_call 181; refine (ticksOk_any c h v p s d g _ hc hh).mono ?_; rintro e w' ⟨rfl, rfl⟩) | go_in)
      go_ret
      exact ⟨ret_b (by simp [wantB, *]), by repeat (first | exact Below.refl _ _ | refine bl_alloc ?_ _ | refine bl_drew ?_)⟩
    · skip
      cases q2 : (h.toList.isEmpty || holdB h)
      · go_enter Try.func142, Try.ntmps142
        go_wp2_with go_in
        refine wp_loop_rounds 3 ?_
        rw [rounds_succ]
        go_wp2_with (first | (go_at_call 178; refine (copyOk_any c h v p s d g _ hc hh).mono ?_; rintro e w' ⟨rfl, rfl⟩) | (go_at_call 179; refine (versionOk_any c h v p s d g _ hc hh).mono ?_; rintro e w' ⟨rfl, rfl⟩) | (go_at_call 180; refine (holdOk_any c h v p s d g _ hc hh).mono ?_; rintro e w' ⟨rfl, rfl⟩) | (go_at_call 181; refine (ticksOk_any c h v p s d g _ hc hh).mono ?_; rintro e w' ⟨rfl, rfl⟩) | go_in)
        rw [rounds_succ]
        go_wp2_with (first | (go_at_call 178; refine (copyOk_any c h v p s d g _ hc hh).mono ?_; rintro e w' ⟨rfl, rfl⟩) | (go_at_call 179; refine (versionOk_any c h v p s d g _ hc hh).mono ?_; rintro e w' ⟨rfl, rfl⟩) | (go_at_call 180; refine (holdOk_any c h v p s d g _ hc hh).mono ?_; rintro e w' ⟨rfl, rfl⟩) | (go_at_call 181; refine (ticksOk_any c h v p s d g _ hc hh).mono ?_; rintro e w' ⟨rfl, rfl⟩) | go_in)
        rw [rounds_succ]
        go_wp2_with (first | (go_at_call 178; refine (copyOk_any c h v p s d g _ hc hh).mono ?_; rintro e w' ⟨rfl, rfl⟩) | (go_at_call 179; refine (versionOk_any c h v p s d g _ hc hh).mono ?_; rintro e w' ⟨rfl, rfl⟩) | (go_at_call 180; refine (holdOk_any c h v p s d g _ hc hh).mono ?_; rintro e w' ⟨rfl, rfl⟩) | (go_at_call 181; refine (ticksOk_any c h v p s d g _ hc hh).mono ?_; rintro e w' ⟨rfl, rfl⟩) | go_in)
        go_ret
        exact ⟨ret_b (by simp [wantB, *]), by repeat (first | exact Below.refl _ _ | refine bl_alloc ?_ _ | refine bl_drew ?_)⟩
      · skip
        cases q3 : ticksB p s d g
        · go_enter Try.func142, Try.ntmps142
          go_wp2_with go_in
          refine wp_loop_rounds 4 ?_
          rw [rounds_succ]
          go_wp2_with (first | (go_at_call 178; refine (copyOk_any c h v p s d g _ hc hh).mono ?_; rintro e w' ⟨rfl, rfl⟩) | (go_at_call 179; refine (versionOk_any c h v p s d g _ hc hh).mono ?_; rintro e w' ⟨rfl, rfl⟩) | (go_at_call 180; refine (holdOk_any c h v p s d g _ hc hh).mono ?_; rintro e w' ⟨rfl, rfl⟩) | (go_at_call 181; refine (ticksOk_any c h v p s d g _ hc hh).mono ?_; rintro e w' ⟨rfl, rfl⟩) | go_in)
          rw [rounds_succ]
          go_wp2_with (first | (go_at_call 178; refine (copyOk_any c h v p s d g _ hc hh).mono ?_; rintro e w' ⟨rfl, rfl⟩) | (go_at_call 179; refine (versionOk_any c h v p s d g _ hc hh).mono ?_; rintro e w' ⟨rfl, rfl⟩) | (go_at_call 180; refine (holdOk_any c h v p s d g _ hc hh).mono ?_; rintro e w' ⟨rfl, rfl⟩) | (go_at_call 181; refine (ticksOk_any c h v p s d g _ hc hh).mono ?_; rintro e w' ⟨rfl, rfl⟩) | go_in)
          rw [rounds_succ]
          go_wp2_with (first | (go_at_call 178; refine (copyOk_any c h v p s d g _ hc hh).mono ?_; rintro e w' ⟨rfl, rfl⟩) | (go_at_call 179; refine (versionOk_any c h v p s d g _ hc hh).mono ?_; rintro e w' ⟨rfl, rfl⟩) | (go_at_call 180; refine (holdOk_any c h v p s d g _ hc hh).mono ?_; rintro e w' ⟨rfl, rfl⟩) | (go_at_call 181; refine (ticksOk_any c h v p s d g _ hc hh).mono ?_; rintro e w' ⟨rfl, rfl⟩) | go_in)
          rw [rounds_succ]
          go_wp2_with (first | (go_at_call 178; refine (copyOk_any c h v p s d g _ hc hh).mono ?_; rintro e w' ⟨rfl, rfl⟩) | (go_at_call 179; refine (versionOk_any c h v p s d g _ hc hh).mono ?_; rintro e w' ⟨rfl, rfl⟩) | (go_at_call 180; refine (holdOk_any c h v p s d g _ hc hh).mono ?_; rintro e w' ⟨rfl, rfl⟩) | (go_at_call 181; refine (ticksOk_any c h v p s d g _ hc hh).mono ?_; rintro e w' ⟨rfl, rfl⟩) | go_in)
          go_ret
          exact ⟨ret_b (by simp [wantB, *]), by repeat (first | exact Below.refl _ _ | refine bl_alloc ?_ _ | refine bl_drew ?_)⟩
        · go_enter Try.func142, Try.ntmps142
          go_wp2_with go_in
          refine wp_loop_rounds 5 ?_
          rw [rounds_succ]
          go_wp2_with (first | (go_at_call 178; refine (copyOk_any c h v p s d g _ hc hh).mono ?_; rintro e w' ⟨rfl, rfl⟩) | (go_at_call 179; refine (versionOk_any c h v p s d g _ hc hh).mono ?_; rintro e w' ⟨rfl, rfl⟩) | (go_at_call 180; refine (holdOk_any c h v p s d g _ hc hh).mono ?_; rintro e w' ⟨rfl, rfl⟩) | (go_at_call 181; refine (ticksOk_any c h v p s d g _ hc hh).mono ?_; rintro e w' ⟨rfl, rfl⟩) | go_in)
          rw [rounds_succ]
          go_wp2_with (first | (go_at_call 178; refine (copyOk_any c h v p s d g _ hc hh).mono ?_; rintro e w' ⟨rfl, rfl⟩) | (go_at_call 179; refine (versionOk_any c h v p s d g _ hc hh).mono ?_; rintro e w' ⟨rfl, rfl⟩) | (go_at_call 180; refine (holdOk_any c h v p s d g _ hc hh).mono ?_; rintro e w' ⟨rfl, rfl⟩) | (go_at_call 181; refine (ticksOk_any c h v p s d g _ hc hh).mono ?_; rintro e w' ⟨rfl, rfl⟩) | go_in)
          rw [rounds_succ]
          go_wp2_with (first | (go_at_call 178; refine (copyOk_any c h v p s d g _ hc hh).mono ?_; rintro e w' ⟨rfl, rfl⟩) | (go_at_call 179; refine (versionOk_any c h v p s d g _ hc hh).mono ?_; rintro e w' ⟨rfl, rfl⟩) | (go_at_call 180; refine (holdOk_any c h v p s d g _ hc hh).mono ?_; rintro e w' ⟨rfl, rfl⟩) | (go_at_call 181; refine (ticksOk_any c h v p s d g _ hc hh).mono ?_; rintro e w' ⟨rfl, rfl⟩) | go_in)
          rw [rounds_succ]
          go_wp2_with (first | (go_at_call 178; refine (copyOk_any c h v p s d g _ hc hh).mono ?_; rintro e w' ⟨rfl, rfl⟩) | (go_at_call 179; refine (versionOk_any c h v p s d g _ hc hh).mono ?_; rintro e w' ⟨rfl, rfl⟩) | (go_at_call 180; refine (holdOk_any c h v p s d g _ hc hh).mono ?_; rintro e w' ⟨rfl, rfl⟩) | (go_at_call 181; refine (ticksOk_any c h v p s d g _ hc hh).mono ?_; rintro e w' ⟨rfl, rfl⟩) | go_in)
          rw [rounds_succ]
          go_wp2_with (first | (go_at_call 178; refine (copyOk_any c h v p s d g _ hc hh).mono ?_; rintro e w' ⟨rfl, rfl⟩) | (go_at_call 179; refine (versionOk_any c h v p s d g _ hc hh).mono ?_; rintro e w' ⟨rfl, rfl⟩) | (go_at_call 180; refine (holdOk_any c h v p s d g _ hc hh).mono ?_; rintro e w' ⟨rfl, rfl⟩) | (go_at_call 181; refine (ticksOk_any c h v p s d g _ hc hh).mono ?_; rintro e w' ⟨rfl, rfl⟩) | go_in)
          go_ret
          exact ⟨ret_b (by simp [wantB, *]), by repeat (first | exact Below.refl _ _ | refine bl_alloc ?_ _ | refine bl_drew ?_)⟩
end Go.Proofs.Ytkebokkckmgloaa
