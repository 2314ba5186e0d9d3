import Derived.Test.YtgehmpnlfnlboaaGreatDoorJ01
import Derived.Laws.EntriesVeiled
/- Names, holds and numbers within bounds: both sides. -/
namespace Go.Proofs.YtgehmpnlfnlboaaGreatDoor
open Go.RowKit
set_option linter.unusedVariables false

/-- A number within bounds. -/
def inB (n low high : Int) : Bool := decide (low ≤ n) && decide (n ≤ high)
/-- A byte that a name may hold. -/
def okc (c : UInt8) : Bool := decide (33 ≤ (c.toNat : Int)) && decide ((c.toNat : Int) ≤ 126)
def nameB (s : ByteArray) : Bool := inB s.size 1 20 && s.data.toList.all okc

theorem specIn_any (n low high : Int) (w : World) : Calls Tryz.prog 35 #[.int .i64 n, .int .i64 low, .int .i64 high] w fun e w' => e = .returned (.bool (inB n low high)) ∧ w' = w := by
  unfold inB
  by_cases h1 : low ≤ n
  · rw [decide_eq_true h1, Bool.true_and]
    go_enter Tryz.func35, Tryz.ntmps35
    go_wp2
    go_ret
    exact ⟨rfl, rfl⟩
  · rw [decide_eq_false h1, Bool.false_and]
    go_enter Tryz.func35, Tryz.ntmps35
    go_wp2
    go_ret
    exact ⟨rfl, rfl⟩

theorem within_any (n low high : Int) (w : World) : Calls Tryz.prog 68 #[.int .i64 n, .int .i64 low, .int .i64 high] w fun e w' => e = .returned (.bool (inB n low high)) ∧ w' = w := by
  unfold inB
  by_cases h1 : low ≤ n
  · rw [decide_eq_true h1, Bool.true_and]
    go_enter Tryz.func68, Tryz.ntmps68
    go_wp2
    go_ret
    exact ⟨rfl, rfl⟩
  · rw [decide_eq_false h1, Bool.false_and]
    go_enter Tryz.func68, Tryz.ntmps68
    go_wp2
    go_ret
    exact ⟨rfl, rfl⟩

theorem ret_b {a b : Bool} (h : a = b) : Ending.returned (.bool a) = .returned (.bool b) := by rw [h]
theorem take_snoc (s : ByteArray) (k : Nat) (h : k < s.size) : s.data.toList.take (k + 1) = s.data.toList.take k ++ [s[k]] := by
  rw [List.take_succ_eq_append_getElem (by simpa using h)]; rfl
theorem all_snoc (s : ByteArray) (k : Nat) (h : k < s.size) (ha : (s.data.toList.take k).all okc = true) (hc : okc s[k] = true) : (s.data.toList.take (k + 1)).all okc = true := by
  rw [take_snoc s k h, List.all_append, ha]; simp [hc]
theorem all_bad (s : ByteArray) (k : Nat) (h : k < s.size) (hc : okc s[k] = false) : s.data.toList.all okc = false := by
  rw [List.all_eq_false]
  exact ⟨s.data.toList[k]'(by simpa using h), List.getElem_mem _, by show ¬ okc s[k] = true; simp [hc]⟩
theorem all_end (s : ByteArray) (k : Nat) (h : s.size ≤ k) (ha : (s.data.toList.take k).all okc = true) : s.data.toList.all okc = true := by
  rwa [List.take_of_length_le (by simpa using h)] at ha

set_option maxHeartbeats 400000 in
theorem specName_any (s : ByteArray) (w : World) (hs : s.size ≤ maxLen) :
    Calls Tryz.prog 37 #[.string s] w fun e w' => e = .returned (.bool (nameB s)) ∧ w' = w := by
  unfold maxLen at hs
  cases hin : inB s.size 1 20
  · rw [show nameB s = false from by simp [nameB, hin]]
    go_enter Tryz.func37, Tryz.ntmps37
    go_wp2_with (go_at_call 35; refine (specIn_any _ _ _ _).mono ?_; rintro e w' ⟨rfl, rfl⟩)
    go_ret
    exact ⟨rfl, rfl⟩
  · have hl : s.size ≤ 20 := by simp [inB] at hin; omega
    have Hn : Hid (nameB s = s.data.toList.all okc) := by show nameB s = _; simp [nameB, hin]
    go_enter Tryz.func37, Tryz.ntmps37
    go_wp2_with (go_at_call 35; refine (specIn_any _ _ _ _).mono ?_; rintro e w' ⟨rfl, rfl⟩)
    go_loop [3] (fun i => ∃ k : Nat, k ≤ s.size ∧ i = .int .i64 k ∧ (s.data.toList.take k).all okc = true) (fun i => s.size - (intOf i).toNat)
    case atStart => exact ⟨0, Nat.zero_le _, rfl, rfl⟩
    case round =>
      obtain ⟨k, hk, rfl, hall⟩ := hrel
      have Ha : Hid _ := hall
      clear hall
      by_cases hlt : k < s.size
      · by_cases b1 : (s[k].toNat : Int) < 33
        · go_wp2
          go_ret
          exact ⟨ret_b (by rw [Hn.out, all_bad s k hlt (by simp [okc]; omega)]), rfl⟩
        · by_cases b2 : 126 < (s[k].toNat : Int)
          · go_wp2
            go_ret
            exact ⟨ret_b (by rw [Hn.out, all_bad s k hlt (by simp [okc]; omega)]), rfl⟩
          · have Hc : Hid (okc s[k] = true) := by show okc s[k] = true; simp [okc]; omega
            go_wp2
            exact ⟨⟨k + 1, by omega, by go_num, all_snoc s k hlt Ha.out Hc.out⟩, by simp [intOf]; omega⟩
      · go_wp2
        go_ret
        exact ⟨ret_b (by rw [Hn.out, all_end s k (by omega) Ha.out]), rfl⟩

set_option maxHeartbeats 400000 in
theorem implName_any (s : ByteArray) (w : World) (hs : s.size ≤ maxLen) :
    Calls Tryz.prog 82 #[.string s] w fun e w' => e = .returned (.bool (nameB s)) ∧ w' = w := by
  unfold maxLen at hs
  cases hin : inB s.size 1 20
  · rw [show nameB s = false from by simp [nameB, hin]]
    go_enter Tryz.func82, Tryz.ntmps82
    go_wp2_with (go_at_call 68; refine (within_any _ _ _ _).mono ?_; rintro e w' ⟨rfl, rfl⟩)
    go_ret
    exact ⟨rfl, rfl⟩
  · have hl : s.size ≤ 20 := by simp [inB] at hin; omega
    have Hn : Hid (nameB s = s.data.toList.all okc) := by show nameB s = _; simp [nameB, hin]
    go_enter Tryz.func82, Tryz.ntmps82
    go_wp2_with (go_at_call 68; refine (within_any _ _ _ _).mono ?_; rintro e w' ⟨rfl, rfl⟩)
    go_loop [10] (fun i => ∃ k : Nat, k ≤ s.size ∧ i = .int .i64 k ∧ (s.data.toList.take k).all okc = true) (fun i => s.size - (intOf i).toNat)
    case atStart => exact ⟨0, Nat.zero_le _, rfl, rfl⟩
    case round =>
      obtain ⟨k, hk, rfl, hall⟩ := hrel
      have Ha : Hid _ := hall
      clear hall
      by_cases hlt : k < s.size
      · by_cases b1 : (s[k].toNat : Int) < 33
        · go_wp2
          go_ret
          exact ⟨ret_b (by rw [Hn.out, all_bad s k hlt (by simp [okc]; omega)]), rfl⟩
        · by_cases b2 : 126 < (s[k].toNat : Int)
          · go_wp2
            go_ret
            exact ⟨ret_b (by rw [Hn.out, all_bad s k hlt (by simp [okc]; omega)]), rfl⟩
          · have Hc : Hid (okc s[k] = true) := by show okc s[k] = true; simp [okc]; omega
            go_wp2
            exact ⟨⟨k + 1, by omega, by go_num, all_snoc s k hlt Ha.out Hc.out⟩, by simp [intOf]; omega⟩
      · go_wp2
        go_ret
        exact ⟨ret_b (by rw [Hn.out, all_end s k (by omega) Ha.out]), rfl⟩

/-- A hold: a name other than a star. -/
def holdB (s : ByteArray) : Bool := nameB s && !(s.toList == [42])

theorem specHold_any (s : ByteArray) (w : World) (hs : s.size ≤ maxLen) :
    Calls Tryz.prog 36 #[.string s] w fun e w' => e = .returned (.bool (holdB s)) ∧ w' = w := by
  unfold holdB
  cases hn : nameB s
  · go_enter Tryz.func36, Tryz.ntmps36
    go_wp2_with (go_at_call 37; refine (specName_any s _ hs).mono ?_; rintro e w' ⟨rfl, rfl⟩)
    go_ret
    exact ⟨rfl, rfl⟩
  · go_enter Tryz.func36, Tryz.ntmps36
    go_wp2_with (go_at_call 37; refine (specName_any s _ hs).mono ?_; rintro e w' ⟨rfl, rfl⟩)
    go_ret
    exact ⟨rfl, rfl⟩
theorem implHold_any (s : ByteArray) (w : World) (hs : s.size ≤ maxLen) :
    Calls Tryz.prog 81 #[.string s] w fun e w' => e = .returned (.bool (holdB s)) ∧ w' = w := by
  unfold holdB
  cases hn : nameB s
  · go_enter Tryz.func81, Tryz.ntmps81
    go_wp2_with (go_at_call 82; refine (implName_any s _ hs).mono ?_; rintro e w' ⟨rfl, rfl⟩)
    go_ret
    exact ⟨rfl, rfl⟩
  · go_enter Tryz.func81, Tryz.ntmps81
    go_wp2_with (go_at_call 82; refine (implName_any s _ hs).mono ?_; rintro e w' ⟨rfl, rfl⟩)
    go_ret
    exact ⟨rfl, rfl⟩
end Go.Proofs.YtgehmpnlfnlboaaGreatDoor
/- Is a want alone such? Both sides. -/
namespace Go.Proofs.YtgehmpnlfnlboaaGreatDoor
open Go.RowKit
set_option linter.unusedVariables false

def ticksB (p s d g : Int) : Bool := inB p 0 100 && (inB s 0 100 && (inB d 0 100 && inB g 0 100))
def wantB (c h : ByteArray) (v p s d g : Int) : Bool := nameB c && (inB v 1 1000000 && ((h.toList.isEmpty || holdB h) && ticksB p s d g))

set_option maxHeartbeats 1000000 in
theorem specWant_any (c h : ByteArray) (v p s d g : Int) (w : World) (hc : c.size ≤ maxLen) (hh : h.size ≤ maxLen) :
    Calls Tryz.prog 66 #[.agg #[.string c, .int .i64 v, .string h, .int .i64 p, .int .i64 s, .int .i64 d, .int .i64 g]] w fun e w' => e = .returned (.bool (wantB c h v p s d g)) ∧ w' = w.alloc (.cells #[.string c, .int .i64 v, .string h, .int .i64 p, .int .i64 s, .int .i64 d, .int .i64 g] 88) := by
  cases h0 : nameB c
  · go_enter Tryz.func66, Tryz.ntmps66
    go_wp2_with (first | (go_at_call 37; refine (specName_any c _ hc).mono ?_; rintro e w' ⟨rfl, rfl⟩) | (go_at_call 36; refine (specHold_any h _ hh).mono ?_; rintro e w' ⟨rfl, rfl⟩) | (go_at_call 35; refine (specIn_any _ _ _ _).mono ?_; rintro e w' ⟨rfl, rfl⟩))
    go_ret
    exact ⟨ret_b (by simp [wantB, ticksB, *]), rfl⟩
  · skip
    cases h1 : inB v 1 1000000
    · go_enter Tryz.func66, Tryz.ntmps66
      go_wp2_with (first | (go_at_call 37; refine (specName_any c _ hc).mono ?_; rintro e w' ⟨rfl, rfl⟩) | (go_at_call 36; refine (specHold_any h _ hh).mono ?_; rintro e w' ⟨rfl, rfl⟩) | (go_at_call 35; refine (specIn_any _ _ _ _).mono ?_; rintro e w' ⟨rfl, rfl⟩))
      go_ret
      exact ⟨ret_b (by simp [wantB, ticksB, *]), rfl⟩
    · skip
      have he : (h.toList.isEmpty || holdB h) = false ∨ (h.toList.isEmpty = true) ∨ (h.toList.isEmpty = false ∧ holdB h = true) := by cases h.toList.isEmpty <;> cases holdB h <;> simp
      rcases he with he | he | he
      · obtain ⟨e1, e2⟩ : h.toList.isEmpty = false ∧ holdB h = false := by simpa using he
        clear he
        go_enter Tryz.func66, Tryz.ntmps66
        go_wp2_with (first | (go_at_call 37; refine (specName_any c _ hc).mono ?_; rintro e w' ⟨rfl, rfl⟩) | (go_at_call 36; refine (specHold_any h _ hh).mono ?_; rintro e w' ⟨rfl, rfl⟩) | (go_at_call 35; refine (specIn_any _ _ _ _).mono ?_; rintro e w' ⟨rfl, rfl⟩))
        go_ret
        exact ⟨ret_b (by simp [wantB, ticksB, *]), rfl⟩
      · skip
        cases q0 : inB p 0 100
        · go_enter Tryz.func66, Tryz.ntmps66
          go_wp2_with (first | (go_at_call 37; refine (specName_any c _ hc).mono ?_; rintro e w' ⟨rfl, rfl⟩) | (go_at_call 36; refine (specHold_any h _ hh).mono ?_; rintro e w' ⟨rfl, rfl⟩) | (go_at_call 35; refine (specIn_any _ _ _ _).mono ?_; rintro e w' ⟨rfl, rfl⟩))
          go_ret
          exact ⟨ret_b (by simp [wantB, ticksB, *]), rfl⟩
        · skip
          cases q1 : inB s 0 100
          · go_enter Tryz.func66, Tryz.ntmps66
            go_wp2_with (first | (go_at_call 37; refine (specName_any c _ hc).mono ?_; rintro e w' ⟨rfl, rfl⟩) | (go_at_call 36; refine (specHold_any h _ hh).mono ?_; rintro e w' ⟨rfl, rfl⟩) | (go_at_call 35; refine (specIn_any _ _ _ _).mono ?_; rintro e w' ⟨rfl, rfl⟩))
            go_ret
            exact ⟨ret_b (by simp [wantB, ticksB, *]), rfl⟩
          · skip
            cases q2 : inB d 0 100
            · go_enter Tryz.func66, Tryz.ntmps66
              go_wp2_with (first | (go_at_call 37; refine (specName_any c _ hc).mono ?_; rintro e w' ⟨rfl, rfl⟩) | (go_at_call 36; refine (specHold_any h _ hh).mono ?_; rintro e w' ⟨rfl, rfl⟩) | (go_at_call 35; refine (specIn_any _ _ _ _).mono ?_; rintro e w' ⟨rfl, rfl⟩))
              go_ret
              exact ⟨ret_b (by simp [wantB, ticksB, *]), rfl⟩
            · skip
              cases q3 : inB g 0 100
              · go_enter Tryz.func66, Tryz.ntmps66
                go_wp2_with (first | (go_at_call 37; refine (specName_any c _ hc).mono ?_; rintro e w' ⟨rfl, rfl⟩) | (go_at_call 36; refine (specHold_any h _ hh).mono ?_; rintro e w' ⟨rfl, rfl⟩) | (go_at_call 35; refine (specIn_any _ _ _ _).mono ?_; rintro e w' ⟨rfl, rfl⟩))
                go_ret
                exact ⟨ret_b (by simp [wantB, ticksB, *]), rfl⟩
              · go_enter Tryz.func66, Tryz.ntmps66
                go_wp2_with (first | (go_at_call 37; refine (specName_any c _ hc).mono ?_; rintro e w' ⟨rfl, rfl⟩) | (go_at_call 36; refine (specHold_any h _ hh).mono ?_; rintro e w' ⟨rfl, rfl⟩) | (go_at_call 35; refine (specIn_any _ _ _ _).mono ?_; rintro e w' ⟨rfl, rfl⟩))
                go_ret
                exact ⟨ret_b (by simp [wantB, ticksB, *]), rfl⟩
      · obtain ⟨e1, e2⟩ := he
        cases q0 : inB p 0 100
        · go_enter Tryz.func66, Tryz.ntmps66
          go_wp2_with (first | (go_at_call 37; refine (specName_any c _ hc).mono ?_; rintro e w' ⟨rfl, rfl⟩) | (go_at_call 36; refine (specHold_any h _ hh).mono ?_; rintro e w' ⟨rfl, rfl⟩) | (go_at_call 35; refine (specIn_any _ _ _ _).mono ?_; rintro e w' ⟨rfl, rfl⟩))
          go_ret
          exact ⟨ret_b (by simp [wantB, ticksB, *]), rfl⟩
        · skip
          cases q1 : inB s 0 100
          · go_enter Tryz.func66, Tryz.ntmps66
            go_wp2_with (first | (go_at_call 37; refine (specName_any c _ hc).mono ?_; rintro e w' ⟨rfl, rfl⟩) | (go_at_call 36; refine (specHold_any h _ hh).mono ?_; rintro e w' ⟨rfl, rfl⟩) | (go_at_call 35; refine (specIn_any _ _ _ _).mono ?_; rintro e w' ⟨rfl, rfl⟩))
            go_ret
            exact ⟨ret_b (by simp [wantB, ticksB, *]), rfl⟩
          · skip
            cases q2 : inB d 0 100
            · go_enter Tryz.func66, Tryz.ntmps66
              go_wp2_with (first | (go_at_call 37; refine (specName_any c _ hc).mono ?_; rintro e w' ⟨rfl, rfl⟩) | (go_at_call 36; refine (specHold_any h _ hh).mono ?_; rintro e w' ⟨rfl, rfl⟩) | (go_at_call 35; refine (specIn_any _ _ _ _).mono ?_; rintro e w' ⟨rfl, rfl⟩))
              go_ret
              exact ⟨ret_b (by simp [wantB, ticksB, *]), rfl⟩
            · skip
              cases q3 : inB g 0 100
              · go_enter Tryz.func66, Tryz.ntmps66
                go_wp2_with (first | (go_at_call 37; refine (specName_any c _ hc).mono ?_; rintro e w' ⟨rfl, rfl⟩) | (go_at_call 36; refine (specHold_any h _ hh).mono ?_; rintro e w' ⟨rfl, rfl⟩) | (go_at_call 35; refine (specIn_any _ _ _ _).mono ?_; rintro e w' ⟨rfl, rfl⟩))
                go_ret
                exact ⟨ret_b (by simp [wantB, ticksB, *]), rfl⟩
              · go_enter Tryz.func66, Tryz.ntmps66
                go_wp2_with (first | (go_at_call 37; refine (specName_any c _ hc).mono ?_; rintro e w' ⟨rfl, rfl⟩) | (go_at_call 36; refine (specHold_any h _ hh).mono ?_; rintro e w' ⟨rfl, rfl⟩) | (go_at_call 35; refine (specIn_any _ _ _ _).mono ?_; rintro e w' ⟨rfl, rfl⟩))
                go_ret
                exact ⟨ret_b (by simp [wantB, ticksB, *]), rfl⟩

theorem copyOk_any (c h : ByteArray) (v p s d g : Int) (w : World) (hc : c.size ≤ maxLen) (hh : h.size ≤ maxLen) :
    Calls Tryz.prog 114 #[.agg #[.string c, .int .i64 v, .string h, .int .i64 p, .int .i64 s, .int .i64 d, .int .i64 g]] w fun e w' => e = .returned (.bool (nameB c)) ∧ w' = w.alloc (.cells #[.string c, .int .i64 v, .string h, .int .i64 p, .int .i64 s, .int .i64 d, .int .i64 g] 88) := by
  go_enter Tryz.func114, Tryz.ntmps114
  go_wp2_with (go_at_call 82; refine (implName_any c _ hc).mono ?_; rintro e w' ⟨rfl, rfl⟩)
  go_ret
  exact ⟨rfl, rfl⟩

theorem versionOk_any (c h : ByteArray) (v p s d g : Int) (w : World) (hc : c.size ≤ maxLen) (hh : h.size ≤ maxLen) :
    Calls Tryz.prog 115 #[.agg #[.string c, .int .i64 v, .string h, .int .i64 p, .int .i64 s, .int .i64 d, .int .i64 g]] w fun e w' => e = .returned (.bool (inB v 1 1000000)) ∧ w' = w.alloc (.cells #[.string c, .int .i64 v, .string h, .int .i64 p, .int .i64 s, .int .i64 d, .int .i64 g] 88) := by
  go_enter Tryz.func115, Tryz.ntmps115
  go_wp2_with (go_at_call 68; refine (within_any _ _ _ _).mono ?_; rintro e w' ⟨rfl, rfl⟩)
  go_ret
  exact ⟨rfl, rfl⟩

theorem holdOk_any (c h : ByteArray) (v p s d g : Int) (w : World) (hc : c.size ≤ maxLen) (hh : h.size ≤ maxLen) :
    Calls Tryz.prog 116 #[.agg #[.string c, .int .i64 v, .string h, .int .i64 p, .int .i64 s, .int .i64 d, .int .i64 g]] w fun e w' => e = .returned (.bool (h.toList.isEmpty || holdB h)) ∧ w' = w.alloc (.cells #[.string c, .int .i64 v, .string h, .int .i64 p, .int .i64 s, .int .i64 d, .int .i64 g] 88) := by
  cases he : h.toList.isEmpty
  · go_enter Tryz.func116, Tryz.ntmps116
    go_wp2_with (go_at_call 81; refine (implHold_any h _ hh).mono ?_; rintro e w' ⟨rfl, rfl⟩)
    go_ret
    exact ⟨rfl, rfl⟩
  · go_enter Tryz.func116, Tryz.ntmps116
    go_wp2
    go_ret
    exact ⟨rfl, rfl⟩

theorem build4 (p s d g : Int) (w : World) : Sem.run Tryz.prog (Instr.build 155 #[(0, .int .i64 p), (1, .int .i64 s), (2, .int .i64 d), (3, .int .i64 g)]) w = .ok (.agg #[.int .i64 p, .int .i64 s, .int .i64 d, .int .i64 g]) w := by kernel_rfl
set_option maxHeartbeats 1000000 in
theorem ticksOk_any (c h : ByteArray) (v p s d g : Int) (w : World) (hc : c.size ≤ maxLen) (hh : h.size ≤ maxLen) :
    Calls Tryz.prog 117 #[.agg #[.string c, .int .i64 v, .string h, .int .i64 p, .int .i64 s, .int .i64 d, .int .i64 g]] w fun e w' => e = .returned (.bool (ticksB p s d g)) ∧ w' = w.alloc (.cells #[.string c, .int .i64 v, .string h, .int .i64 p, .int .i64 s, .int .i64 d, .int .i64 g] 88) := by
  have hb4 := build4
  have i0 : ∀ w, Sem.run Tryz.prog (Instr.index 155 (.agg #[.int .i64 p, .int .i64 s, .int .i64 d, .int .i64 g]) (.int .i64 0)) w = .ok (.int .i64 p) w := fun _ => by kernel_rfl
  have i1 : ∀ w, Sem.run Tryz.prog (Instr.index 155 (.agg #[.int .i64 p, .int .i64 s, .int .i64 d, .int .i64 g]) (.int .i64 1)) w = .ok (.int .i64 s) w := fun _ => by kernel_rfl
  have i2 : ∀ w, Sem.run Tryz.prog (Instr.index 155 (.agg #[.int .i64 p, .int .i64 s, .int .i64 d, .int .i64 g]) (.int .i64 2)) w = .ok (.int .i64 d) w := fun _ => by kernel_rfl
  have i3 : ∀ w, Sem.run Tryz.prog (Instr.index 155 (.agg #[.int .i64 p, .int .i64 s, .int .i64 d, .int .i64 g]) (.int .i64 3)) w = .ok (.int .i64 g) w := fun _ => by kernel_rfl
  cases q0 : inB p 0 100
  · go_enter Tryz.func117, Tryz.ntmps117
    go_wp2
    refine wp_loop_rounds 1 ?_
    rw [rounds_succ]
    go_wp2_with (go_at_call 68; refine (within_any _ _ _ _).mono ?_; rintro e w' ⟨rfl, rfl⟩)
    go_ret
    exact ⟨ret_b (by simp [ticksB, *]), rfl⟩
  · skip
    cases q1 : inB s 0 100
    · go_enter Tryz.func117, Tryz.ntmps117
      go_wp2
      refine wp_loop_rounds 2 ?_
      rw [rounds_succ]
      go_wp2_with (go_at_call 68; refine (within_any _ _ _ _).mono ?_; rintro e w' ⟨rfl, rfl⟩)
      rw [rounds_succ]
      go_wp2_with (go_at_call 68; refine (within_any _ _ _ _).mono ?_; rintro e w' ⟨rfl, rfl⟩)
      go_ret
      exact ⟨ret_b (by simp [ticksB, *]), rfl⟩
    · skip
      cases q2 : inB d 0 100
      · go_enter Tryz.func117, Tryz.ntmps117
        go_wp2
        refine wp_loop_rounds 3 ?_
        rw [rounds_succ]
        go_wp2_with (go_at_call 68; refine (within_any _ _ _ _).mono ?_; rintro e w' ⟨rfl, rfl⟩)
        rw [rounds_succ]
        go_wp2_with (go_at_call 68; refine (within_any _ _ _ _).mono ?_; rintro e w' ⟨rfl, rfl⟩)
        rw [rounds_succ]
        go_wp2_with (go_at_call 68; refine (within_any _ _ _ _).mono ?_; rintro e w' ⟨rfl, rfl⟩)
        go_ret
        exact ⟨ret_b (by simp [ticksB, *]), rfl⟩
      · skip
        cases q3 : inB g 0 100
        · go_enter Tryz.func117, Tryz.ntmps117
          go_wp2
          refine wp_loop_rounds 4 ?_
          rw [rounds_succ]
          go_wp2_with (go_at_call 68; refine (within_any _ _ _ _).mono ?_; rintro e w' ⟨rfl, rfl⟩)
          rw [rounds_succ]
          go_wp2_with (go_at_call 68; refine (within_any _ _ _ _).mono ?_; rintro e w' ⟨rfl, rfl⟩)
          rw [rounds_succ]
          go_wp2_with (go_at_call 68; refine (within_any _ _ _ _).mono ?_; rintro e w' ⟨rfl, rfl⟩)
          rw [rounds_succ]
          go_wp2_with (go_at_call 68; refine (within_any _ _ _ _).mono ?_; rintro e w' ⟨rfl, rfl⟩)
          go_ret
          exact ⟨ret_b (by simp [ticksB, *]), rfl⟩
        · go_enter Tryz.func117, Tryz.ntmps117
          go_wp2
          refine wp_loop_rounds 5 ?_
          rw [rounds_succ]
          go_wp2_with (go_at_call 68; refine (within_any _ _ _ _).mono ?_; rintro e w' ⟨rfl, rfl⟩)
          rw [rounds_succ]
          go_wp2_with (go_at_call 68; refine (within_any _ _ _ _).mono ?_; rintro e w' ⟨rfl, rfl⟩)
          rw [rounds_succ]
          go_wp2_with (go_at_call 68; refine (within_any _ _ _ _).mono ?_; rintro e w' ⟨rfl, rfl⟩)
          rw [rounds_succ]
          go_wp2_with (go_at_call 68; refine (within_any _ _ _ _).mono ?_; rintro e w' ⟨rfl, rfl⟩)
          rw [rounds_succ]
          go_wp2_with (go_at_call 68; refine (within_any _ _ _ _).mono ?_; rintro e w' ⟨rfl, rfl⟩)
          go_ret
          exact ⟨ret_b (by simp [ticksB, *]), rfl⟩

theorem build_checks (w : World) : Sem.run Tryz.prog (Instr.buildSlice 151 4 #[(0, .func (.func 114) #[] #[]), (1, .func (.func 115) #[] #[]), (2, .func (.func 116) #[] #[]), (3, .func (.func 117) #[] #[])]) w = .ok (.slice (some ⟨w.heap.size, 0, none⟩) 4 4) (w.alloc (.cells #[.func (.func 114) #[] #[], .func (.func 115) #[] #[], .func (.func 116) #[] #[], .func (.func 117) #[] #[]] 111)) := by kernel_rfl
set_option maxHeartbeats 2000000 in
theorem implWant_any (c h : ByteArray) (v p s d g : Int) (w : World) (hc : c.size ≤ maxLen) (hh : h.size ≤ maxLen) :
    Calls Tryz.prog 104 #[.agg #[.string c, .int .i64 v, .string h, .int .i64 p, .int .i64 s, .int .i64 d, .int .i64 g]] w fun e w' => e = .returned (.bool (wantB c h v p s d g)) ∧ Below w.heap.size w w' := by
  have hbc := build_checks
  cases q0 : nameB c
  · go_enter Tryz.func104, Tryz.ntmps104
    go_wp2_with go_in
    refine wp_loop_rounds 1 ?_
    rw [rounds_succ]
    go_wp2_with (first | (go_at_call 114; refine (copyOk_any c h v p s d g _ hc hh).mono ?_; rintro e w' ⟨rfl, rfl⟩) | (go_at_call 115; refine (versionOk_any c h v p s d g _ hc hh).mono ?_; rintro e w' ⟨rfl, rfl⟩) | (go_at_call 116; refine (holdOk_any c h v p s d g _ hc hh).mono ?_; rintro e w' ⟨rfl, rfl⟩) | (go_at_call 117; refine (ticksOk_any c h v p s d g _ hc hh).mono ?_; rintro e w' ⟨rfl, rfl⟩) | go_in)
    go_ret
    exact ⟨ret_b (by simp [wantB, *]), by repeat (first | exact Below.refl _ _ | refine bl_alloc ?_ _ | refine bl_drew ?_)⟩
  · skip
    cases q1 : inB v 1 1000000
    · go_enter Tryz.func104, Tryz.ntmps104
      go_wp2_with go_in
      refine wp_loop_rounds 2 ?_
      rw [rounds_succ]
      go_wp2_with (first | (go_at_call 114; refine (copyOk_any c h v p s d g _ hc hh).mono ?_; rintro e w' ⟨rfl, rfl⟩) | (go_at_call 115; refine (versionOk_any c h v p s d g _ hc hh).mono ?_; rintro e w' ⟨rfl, rfl⟩) | (go_at_call 116; refine (holdOk_any c h v p s d g _ hc hh).mono ?_; rintro e w' ⟨rfl, rfl⟩) | (go_at_call 117; refine (ticksOk_any c h v p s d g _ hc hh).mono ?_; rintro e w' ⟨rfl, rfl⟩) | go_in)
      rw [rounds_succ]
      go_wp2_with (first | (go_at_call 114; refine (copyOk_any c h v p s d g _ hc hh).mono ?_; rintro e w' ⟨rfl, rfl⟩) | (go_at_call 115; refine (versionOk_any c h v p s d g _ hc hh).mono ?_; rintro e w' ⟨rfl, rfl⟩) | (go_at_call 116; refine (holdOk_any c h v p s d g _ hc hh).mono ?_; rintro e w' ⟨rfl, rfl⟩) | (go_at_call 117; refine (ticksOk_any c h v p s d g _ hc hh).mono ?_; rintro e w' ⟨rfl, rfl⟩) | go_in)
      go_ret
      exact ⟨ret_b (by simp [wantB, *]), by repeat (first | exact Below.refl _ _ | refine bl_alloc ?_ _ | refine bl_drew ?_)⟩
    · skip
      cases q2 : (h.toList.isEmpty || holdB h)
      · go_enter Tryz.func104, Tryz.ntmps104
        go_wp2_with go_in
        refine wp_loop_rounds 3 ?_
        rw [rounds_succ]
        go_wp2_with (first | (go_at_call 114; refine (copyOk_any c h v p s d g _ hc hh).mono ?_; rintro e w' ⟨rfl, rfl⟩) | (go_at_call 115; refine (versionOk_any c h v p s d g _ hc hh).mono ?_; rintro e w' ⟨rfl, rfl⟩) | (go_at_call 116; refine (holdOk_any c h v p s d g _ hc hh).mono ?_; rintro e w' ⟨rfl, rfl⟩) | (go_at_call 117; refine (ticksOk_any c h v p s d g _ hc hh).mono ?_; rintro e w' ⟨rfl, rfl⟩) | go_in)
        rw [rounds_succ]
        go_wp2_with (first | (go_at_call 114; refine (copyOk_any c h v p s d g _ hc hh).mono ?_; rintro e w' ⟨rfl, rfl⟩) | (go_at_call 115; refine (versionOk_any c h v p s d g _ hc hh).mono ?_; rintro e w' ⟨rfl, rfl⟩) | (go_at_call 116; refine (holdOk_any c h v p s d g _ hc hh).mono ?_; rintro e w' ⟨rfl, rfl⟩) | (go_at_call 117; refine (ticksOk_any c h v p s d g _ hc hh).mono ?_; rintro e w' ⟨rfl, rfl⟩) | go_in)
        rw [rounds_succ]
        go_wp2_with (first | (go_at_call 114; refine (copyOk_any c h v p s d g _ hc hh).mono ?_; rintro e w' ⟨rfl, rfl⟩) | (go_at_call 115; refine (versionOk_any c h v p s d g _ hc hh).mono ?_; rintro e w' ⟨rfl, rfl⟩) | (go_at_call 116; refine (holdOk_any c h v p s d g _ hc hh).mono ?_; rintro e w' ⟨rfl, rfl⟩) | (go_at_call 117; refine (ticksOk_any c h v p s d g _ hc hh).mono ?_; rintro e w' ⟨rfl, rfl⟩) | go_in)
        go_ret
        exact ⟨ret_b (by simp [wantB, *]), by repeat (first | exact Below.refl _ _ | refine bl_alloc ?_ _ | refine bl_drew ?_)⟩
      · skip
        cases q3 : ticksB p s d g
        · go_enter Tryz.func104, Tryz.ntmps104
          go_wp2_with go_in
          refine wp_loop_rounds 4 ?_
          rw [rounds_succ]
          go_wp2_with (first | (go_at_call 114; refine (copyOk_any c h v p s d g _ hc hh).mono ?_; rintro e w' ⟨rfl, rfl⟩) | (go_at_call 115; refine (versionOk_any c h v p s d g _ hc hh).mono ?_; rintro e w' ⟨rfl, rfl⟩) | (go_at_call 116; refine (holdOk_any c h v p s d g _ hc hh).mono ?_; rintro e w' ⟨rfl, rfl⟩) | (go_at_call 117; refine (ticksOk_any c h v p s d g _ hc hh).mono ?_; rintro e w' ⟨rfl, rfl⟩) | go_in)
          rw [rounds_succ]
          go_wp2_with (first | (go_at_call 114; refine (copyOk_any c h v p s d g _ hc hh).mono ?_; rintro e w' ⟨rfl, rfl⟩) | (go_at_call 115; refine (versionOk_any c h v p s d g _ hc hh).mono ?_; rintro e w' ⟨rfl, rfl⟩) | (go_at_call 116; refine (holdOk_any c h v p s d g _ hc hh).mono ?_; rintro e w' ⟨rfl, rfl⟩) | (go_at_call 117; refine (ticksOk_any c h v p s d g _ hc hh).mono ?_; rintro e w' ⟨rfl, rfl⟩) | go_in)
          rw [rounds_succ]
          go_wp2_with (first | (go_at_call 114; refine (copyOk_any c h v p s d g _ hc hh).mono ?_; rintro e w' ⟨rfl, rfl⟩) | (go_at_call 115; refine (versionOk_any c h v p s d g _ hc hh).mono ?_; rintro e w' ⟨rfl, rfl⟩) | (go_at_call 116; refine (holdOk_any c h v p s d g _ hc hh).mono ?_; rintro e w' ⟨rfl, rfl⟩) | (go_at_call 117; refine (ticksOk_any c h v p s d g _ hc hh).mono ?_; rintro e w' ⟨rfl, rfl⟩) | go_in)
          rw [rounds_succ]
          go_wp2_with (first | (go_at_call 114; refine (copyOk_any c h v p s d g _ hc hh).mono ?_; rintro e w' ⟨rfl, rfl⟩) | (go_at_call 115; refine (versionOk_any c h v p s d g _ hc hh).mono ?_; rintro e w' ⟨rfl, rfl⟩) | (go_at_call 116; refine (holdOk_any c h v p s d g _ hc hh).mono ?_; rintro e w' ⟨rfl, rfl⟩) | (go_at_call 117; refine (ticksOk_any c h v p s d g _ hc hh).mono ?_; rintro e w' ⟨rfl, rfl⟩) | go_in)
          go_ret
          exact ⟨ret_b (by simp [wantB, *]), by repeat (first | exact Below.refl _ _ | refine bl_alloc ?_ _ | refine bl_drew ?_)⟩
        · go_enter Tryz.func104, Tryz.ntmps104
          go_wp2_with go_in
          refine wp_loop_rounds 5 ?_
          rw [rounds_succ]
          go_wp2_with (first | (go_at_call 114; refine (copyOk_any c h v p s d g _ hc hh).mono ?_; rintro e w' ⟨rfl, rfl⟩) | (go_at_call 115; refine (versionOk_any c h v p s d g _ hc hh).mono ?_; rintro e w' ⟨rfl, rfl⟩) | (go_at_call 116; refine (holdOk_any c h v p s d g _ hc hh).mono ?_; rintro e w' ⟨rfl, rfl⟩) | (go_at_call 117; refine (ticksOk_any c h v p s d g _ hc hh).mono ?_; rintro e w' ⟨rfl, rfl⟩) | go_in)
          rw [rounds_succ]
          go_wp2_with (first | (go_at_call 114; refine (copyOk_any c h v p s d g _ hc hh).mono ?_; rintro e w' ⟨rfl, rfl⟩) | (go_at_call 115; refine (versionOk_any c h v p s d g _ hc hh).mono ?_; rintro e w' ⟨rfl, rfl⟩) | (go_at_call 116; refine (holdOk_any c h v p s d g _ hc hh).mono ?_; rintro e w' ⟨rfl, rfl⟩) | (go_at_call 117; refine (ticksOk_any c h v p s d g _ hc hh).mono ?_; rintro e w' ⟨rfl, rfl⟩) | go_in)
          rw [rounds_succ]
          go_wp2_with (first | (go_at_call 114; refine (copyOk_any c h v p s d g _ hc hh).mono ?_; rintro e w' ⟨rfl, rfl⟩) | (go_at_call 115; refine (versionOk_any c h v p s d g _ hc hh).mono ?_; rintro e w' ⟨rfl, rfl⟩) | (go_at_call 116; refine (holdOk_any c h v p s d g _ hc hh).mono ?_; rintro e w' ⟨rfl, rfl⟩) | (go_at_call 117; refine (ticksOk_any c h v p s d g _ hc hh).mono ?_; rintro e w' ⟨rfl, rfl⟩) | go_in)
          rw [rounds_succ]
          go_wp2_with (first | (go_at_call 114; refine (copyOk_any c h v p s d g _ hc hh).mono ?_; rintro e w' ⟨rfl, rfl⟩) | (go_at_call 115; refine (versionOk_any c h v p s d g _ hc hh).mono ?_; rintro e w' ⟨rfl, rfl⟩) | (go_at_call 116; refine (holdOk_any c h v p s d g _ hc hh).mono ?_; rintro e w' ⟨rfl, rfl⟩) | (go_at_call 117; refine (ticksOk_any c h v p s d g _ hc hh).mono ?_; rintro e w' ⟨rfl, rfl⟩) | go_in)
          rw [rounds_succ]
          go_wp2_with (first | (go_at_call 114; refine (copyOk_any c h v p s d g _ hc hh).mono ?_; rintro e w' ⟨rfl, rfl⟩) | (go_at_call 115; refine (versionOk_any c h v p s d g _ hc hh).mono ?_; rintro e w' ⟨rfl, rfl⟩) | (go_at_call 116; refine (holdOk_any c h v p s d g _ hc hh).mono ?_; rintro e w' ⟨rfl, rfl⟩) | (go_at_call 117; refine (ticksOk_any c h v p s d g _ hc hh).mono ?_; rintro e w' ⟨rfl, rfl⟩) | go_in)
          go_ret
          exact ⟨ret_b (by simp [wantB, *]), by repeat (first | exact Below.refl _ _ | refine bl_alloc ?_ _ | refine bl_drew ?_)⟩
end Go.Proofs.YtgehmpnlfnlboaaGreatDoor
