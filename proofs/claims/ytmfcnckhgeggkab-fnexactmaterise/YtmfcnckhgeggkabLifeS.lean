/- The specification's tick of a run: its parts. -/
import Derived.Test.YtmfcnckhgeggkabLife
namespace Go.Proofs.Ytmfcnckhgeggkab
open Go.RowKit
set_option linter.unusedVariables false

theorem specAlive_x (c h : ByteArray) (v p s d g a b i u : Int) (w : World) :
    Calls Try.prog 43 #[.agg #[.string c, .int .i64 v, .string h, .int .i64 p, .int .i64 s, .int .i64 d, .int .i64 g, .int .i64 a, .int .i64 b, .int .i64 i, .int .i64 u]] w fun e w' => e = .returned (.bool (aliveB a)) ∧ w' = w.alloc (.cells #[.string c, .int .i64 v, .string h, .int .i64 p, .int .i64 s, .int .i64 d, .int .i64 g, .int .i64 a, .int .i64 b, .int .i64 i, .int .i64 u] 39) := by
  by_cases h3 : a = 3
  · subst h3
    go_enter Try.func43, Try.ntmps43
    go_wp2
    go_ret
    exact ⟨rfl, rfl⟩
  · by_cases h4 : a = 4
    · subst h4
      go_enter Try.func43, Try.ntmps43
      go_wp2
      go_ret
      exact ⟨rfl, rfl⟩
    · have e3 : (a == 3) = false := by simpa using h3
      have e4 : (a == 4) = false := by simpa using h4
      have ea : aliveB a = (a == 6) := by simp [aliveB, e3, e4]
      rw [ea]
      clear ea h3 h4
      go_enter Try.func43, Try.ntmps43
      go_wp2
      go_ret
      exact ⟨rfl, rfl⟩

theorem l3Begin_yes (c h : ByteArray) (v p s d g a b i u clock : Int) (w : World) (hl : leasedB h u clock = true) :
    Calls Try.prog 49 #[.agg #[.string c, .int .i64 v, .string h, .int .i64 p, .int .i64 s, .int .i64 d, .int .i64 g, .int .i64 a, .int .i64 b, .int .i64 i, .int .i64 u], .int .i64 clock] w fun e w' => e = .returned (.agg #[.string c, .int .i64 v, .string h, .int .i64 p, .int .i64 s, .int .i64 d, .int .i64 g, .int .i64 3, .int .i64 s, .int .i64 i, .int .i64 u]) ∧ w' = (((w.alloc (.cells #[.string c, .int .i64 v, .string h, .int .i64 p, .int .i64 s, .int .i64 d, .int .i64 g, .int .i64 3, .int .i64 s, .int .i64 i, .int .i64 u] 39)).alloc (.cells #[.string c, .int .i64 v, .string h, .int .i64 p, .int .i64 s, .int .i64 d, .int .i64 g, .int .i64 3, .int .i64 s, .int .i64 i, .int .i64 u] 39)).alloc (.cells #[.string c, .int .i64 v, .string h, .int .i64 p, .int .i64 s, .int .i64 d, .int .i64 g, .int .i64 2, .int .i64 0, .int .i64 i, .int .i64 u] 39)) := by
  go_enter Try.func49, Try.ntmps49
  go_wp2_with (first | (go_at_call 44; refine (leased_any c h v p s d g 2 0 i u clock _).mono ?_; rintro e w' ⟨rfl, rfl⟩))
  exact bodyPost_ret (v := .agg #[.string c, .int .i64 v, .string h, .int .i64 p, .int .i64 s, .int .i64 d, .int .i64 g, .int .i64 3, .int .i64 s, .int .i64 i, .int .i64 u]) (by simp [results, Try.results49, go_sem]) rfl ⟨rfl, rfl⟩

theorem l3Begin_no (c h : ByteArray) (v p s d g a b i u clock : Int) (w : World) (hl : leasedB h u clock = false) :
    Calls Try.prog 49 #[.agg #[.string c, .int .i64 v, .string h, .int .i64 p, .int .i64 s, .int .i64 d, .int .i64 g, .int .i64 a, .int .i64 b, .int .i64 i, .int .i64 u], .int .i64 clock] w fun e w' => e = .returned (.agg #[.string c, .int .i64 v, .string h, .int .i64 p, .int .i64 s, .int .i64 d, .int .i64 g, .int .i64 2, .int .i64 0, .int .i64 i, .int .i64 u]) ∧ w' = (((w.alloc (.cells #[.string c, .int .i64 v, .string h, .int .i64 p, .int .i64 s, .int .i64 d, .int .i64 g, .int .i64 2, .int .i64 0, .int .i64 i, .int .i64 u] 39)).alloc (.cells #[.string c, .int .i64 v, .string h, .int .i64 p, .int .i64 s, .int .i64 d, .int .i64 g, .int .i64 2, .int .i64 0, .int .i64 i, .int .i64 u] 39)).alloc (.cells #[.string c, .int .i64 v, .string h, .int .i64 p, .int .i64 s, .int .i64 d, .int .i64 g, .int .i64 2, .int .i64 0, .int .i64 i, .int .i64 u] 39)) := by
  go_enter Try.func49, Try.ntmps49
  go_wp2_with (first | (go_at_call 44; refine (leased_any c h v p s d g 2 0 i u clock _).mono ?_; rintro e w' ⟨rfl, rfl⟩))
  exact bodyPost_ret (v := .agg #[.string c, .int .i64 v, .string h, .int .i64 p, .int .i64 s, .int .i64 d, .int .i64 g, .int .i64 2, .int .i64 0, .int .i64 i, .int .i64 u]) (by simp [results, Try.results49, go_sem]) rfl ⟨rfl, rfl⟩

theorem l3Dies_0 (c h : ByteArray) (v p s d g a b i u : Int) (w : World) (hi : i < 0) (hii : -9223372036854775808 ≤ i) :
    Calls Try.prog 48 #[.agg #[.string c, .int .i64 v, .string h, .int .i64 p, .int .i64 s, .int .i64 d, .int .i64 g, .int .i64 a, .int .i64 b, .int .i64 i, .int .i64 u]] w fun e w' => e = .returned (.agg #[.string c, .int .i64 v, .string h, .int .i64 p, .int .i64 s, .int .i64 d, .int .i64 g, .int .i64 5, .int .i64 1, .int .i64 (i + 1), .int .i64 u]) ∧ w' = ((w.alloc (.cells #[.string c, .int .i64 v, .string h, .int .i64 p, .int .i64 s, .int .i64 d, .int .i64 g, .int .i64 5, .int .i64 1, .int .i64 (i + 1), .int .i64 u] 39)).alloc (.cells #[.string c, .int .i64 v, .string h, .int .i64 p, .int .i64 s, .int .i64 d, .int .i64 g, .int .i64 5, .int .i64 1, .int .i64 (i + 1), .int .i64 u] 39)) := by
  go_enter Try.func48, Try.ntmps48
  go_wp2
  refine wp_loop_rounds 1 ?_
  rw [rounds_succ]
  go_wp2
  all_goals exact bodyPost_ret (v := .agg #[.string c, .int .i64 v, .string h, .int .i64 p, .int .i64 s, .int .i64 d, .int .i64 g, .int .i64 5, .int .i64 1, .int .i64 (i + 1), .int .i64 u]) (by simp [results, Try.results48, go_sem]) rfl ⟨rfl, rfl⟩

theorem l3Dies_1 (c h : ByteArray) (v p s d g a b u : Int) (w : World) :
    Calls Try.prog 48 #[.agg #[.string c, .int .i64 v, .string h, .int .i64 p, .int .i64 s, .int .i64 d, .int .i64 g, .int .i64 a, .int .i64 b, .int .i64 0, .int .i64 u]] w fun e w' => e = .returned (.agg #[.string c, .int .i64 v, .string h, .int .i64 p, .int .i64 s, .int .i64 d, .int .i64 g, .int .i64 5, .int .i64 2, .int .i64 1, .int .i64 u]) ∧ w' = ((w.alloc (.cells #[.string c, .int .i64 v, .string h, .int .i64 p, .int .i64 s, .int .i64 d, .int .i64 g, .int .i64 5, .int .i64 2, .int .i64 1, .int .i64 u] 39)).alloc (.cells #[.string c, .int .i64 v, .string h, .int .i64 p, .int .i64 s, .int .i64 d, .int .i64 g, .int .i64 5, .int .i64 2, .int .i64 1, .int .i64 u] 39)) := by
  go_enter Try.func48, Try.ntmps48
  go_wp2
  refine wp_loop_rounds 2 ?_
  rw [rounds_succ]
  go_wp2
  rw [rounds_succ]
  go_wp2
  all_goals exact bodyPost_ret (v := .agg #[.string c, .int .i64 v, .string h, .int .i64 p, .int .i64 s, .int .i64 d, .int .i64 g, .int .i64 5, .int .i64 2, .int .i64 1, .int .i64 u]) (by simp [results, Try.results48, go_sem]) rfl ⟨rfl, rfl⟩

theorem l3Dies_2 (c h : ByteArray) (v p s d g a b u : Int) (w : World) :
    Calls Try.prog 48 #[.agg #[.string c, .int .i64 v, .string h, .int .i64 p, .int .i64 s, .int .i64 d, .int .i64 g, .int .i64 a, .int .i64 b, .int .i64 1, .int .i64 u]] w fun e w' => e = .returned (.agg #[.string c, .int .i64 v, .string h, .int .i64 p, .int .i64 s, .int .i64 d, .int .i64 g, .int .i64 5, .int .i64 4, .int .i64 2, .int .i64 u]) ∧ w' = ((w.alloc (.cells #[.string c, .int .i64 v, .string h, .int .i64 p, .int .i64 s, .int .i64 d, .int .i64 g, .int .i64 5, .int .i64 4, .int .i64 2, .int .i64 u] 39)).alloc (.cells #[.string c, .int .i64 v, .string h, .int .i64 p, .int .i64 s, .int .i64 d, .int .i64 g, .int .i64 5, .int .i64 4, .int .i64 2, .int .i64 u] 39)) := by
  go_enter Try.func48, Try.ntmps48
  go_wp2
  refine wp_loop_rounds 3 ?_
  rw [rounds_succ]
  go_wp2
  rw [rounds_succ]
  go_wp2
  rw [rounds_succ]
  go_wp2
  all_goals exact bodyPost_ret (v := .agg #[.string c, .int .i64 v, .string h, .int .i64 p, .int .i64 s, .int .i64 d, .int .i64 g, .int .i64 5, .int .i64 4, .int .i64 2, .int .i64 u]) (by simp [results, Try.results48, go_sem]) rfl ⟨rfl, rfl⟩

theorem l3Dies_3 (c h : ByteArray) (v p s d g a b u : Int) (w : World) :
    Calls Try.prog 48 #[.agg #[.string c, .int .i64 v, .string h, .int .i64 p, .int .i64 s, .int .i64 d, .int .i64 g, .int .i64 a, .int .i64 b, .int .i64 2, .int .i64 u]] w fun e w' => e = .returned (.agg #[.string c, .int .i64 v, .string h, .int .i64 p, .int .i64 s, .int .i64 d, .int .i64 g, .int .i64 5, .int .i64 8, .int .i64 3, .int .i64 u]) ∧ w' = ((w.alloc (.cells #[.string c, .int .i64 v, .string h, .int .i64 p, .int .i64 s, .int .i64 d, .int .i64 g, .int .i64 5, .int .i64 8, .int .i64 3, .int .i64 u] 39)).alloc (.cells #[.string c, .int .i64 v, .string h, .int .i64 p, .int .i64 s, .int .i64 d, .int .i64 g, .int .i64 5, .int .i64 8, .int .i64 3, .int .i64 u] 39)) := by
  go_enter Try.func48, Try.ntmps48
  go_wp2
  refine wp_loop_rounds 4 ?_
  rw [rounds_succ]
  go_wp2
  rw [rounds_succ]
  go_wp2
  rw [rounds_succ]
  go_wp2
  rw [rounds_succ]
  go_wp2
  all_goals exact bodyPost_ret (v := .agg #[.string c, .int .i64 v, .string h, .int .i64 p, .int .i64 s, .int .i64 d, .int .i64 g, .int .i64 5, .int .i64 8, .int .i64 3, .int .i64 u]) (by simp [results, Try.results48, go_sem]) rfl ⟨rfl, rfl⟩

theorem l3Dies_4 (c h : ByteArray) (v p s d g a b i u : Int) (w : World) (hi : 3 ≤ i) (hi2 : i < 1000) :
    Calls Try.prog 48 #[.agg #[.string c, .int .i64 v, .string h, .int .i64 p, .int .i64 s, .int .i64 d, .int .i64 g, .int .i64 a, .int .i64 b, .int .i64 i, .int .i64 u]] w fun e w' => e = .returned (.agg #[.string c, .int .i64 v, .string h, .int .i64 p, .int .i64 s, .int .i64 d, .int .i64 g, .int .i64 5, .int .i64 16, .int .i64 (i + 1), .int .i64 u]) ∧ w' = ((w.alloc (.cells #[.string c, .int .i64 v, .string h, .int .i64 p, .int .i64 s, .int .i64 d, .int .i64 g, .int .i64 5, .int .i64 16, .int .i64 (i + 1), .int .i64 u] 39)).alloc (.cells #[.string c, .int .i64 v, .string h, .int .i64 p, .int .i64 s, .int .i64 d, .int .i64 g, .int .i64 5, .int .i64 16, .int .i64 (i + 1), .int .i64 u] 39)) := by
  go_enter Try.func48, Try.ntmps48
  go_wp2
  refine wp_loop_rounds 5 ?_
  rw [rounds_succ]
  go_wp2
  rw [rounds_succ]
  go_wp2
  rw [rounds_succ]
  go_wp2
  rw [rounds_succ]
  go_wp2
  rw [rounds_succ]
  go_wp2
  all_goals exact bodyPost_ret (v := .agg #[.string c, .int .i64 v, .string h, .int .i64 p, .int .i64 s, .int .i64 d, .int .i64 g, .int .i64 5, .int .i64 16, .int .i64 (i + 1), .int .i64 u]) (by simp [results, Try.results48, go_sem]) rfl ⟨rfl, rfl⟩

theorem l3Dies_5 (c h : ByteArray) (v p s d g a b i u : Int) (w : World) (hi : 1000 ≤ i) :
    Calls Try.prog 48 #[.agg #[.string c, .int .i64 v, .string h, .int .i64 p, .int .i64 s, .int .i64 d, .int .i64 g, .int .i64 a, .int .i64 b, .int .i64 i, .int .i64 u]] w fun e w' => e = .returned (.agg #[.string c, .int .i64 v, .string h, .int .i64 p, .int .i64 s, .int .i64 d, .int .i64 g, .int .i64 5, .int .i64 16, .int .i64 i, .int .i64 u]) ∧ w' = ((w.alloc (.cells #[.string c, .int .i64 v, .string h, .int .i64 p, .int .i64 s, .int .i64 d, .int .i64 g, .int .i64 5, .int .i64 16, .int .i64 i, .int .i64 u] 39)).alloc (.cells #[.string c, .int .i64 v, .string h, .int .i64 p, .int .i64 s, .int .i64 d, .int .i64 g, .int .i64 5, .int .i64 16, .int .i64 i, .int .i64 u] 39)) := by
  go_enter Try.func48, Try.ntmps48
  go_wp2
  refine wp_loop_rounds 5 ?_
  rw [rounds_succ]
  go_wp2
  rw [rounds_succ]
  go_wp2
  rw [rounds_succ]
  go_wp2
  rw [rounds_succ]
  go_wp2
  rw [rounds_succ]
  go_wp2
  all_goals exact bodyPost_ret (v := .agg #[.string c, .int .i64 v, .string h, .int .i64 p, .int .i64 s, .int .i64 d, .int .i64 g, .int .i64 5, .int .i64 16, .int .i64 i, .int .i64 u]) (by simp [results, Try.results48, go_sem]) rfl ⟨rfl, rfl⟩

theorem l3Dies_lt (c h : ByteArray) (v p s d g a b i u : Int) (w : World) (hi : i < 1000) (hii : -9223372036854775808 ≤ i) :
    Calls Try.prog 48 #[.agg #[.string c, .int .i64 v, .string h, .int .i64 p, .int .i64 s, .int .i64 d, .int .i64 g, .int .i64 a, .int .i64 b, .int .i64 i, .int .i64 u]] w fun e w' => e = .returned (.agg #[.string c, .int .i64 v, .string h, .int .i64 p, .int .i64 s, .int .i64 d, .int .i64 g, .int .i64 5, .int .i64 (boff (i + 1)), .int .i64 (i + 1), .int .i64 u]) ∧ w' = ((w.alloc (.cells #[.string c, .int .i64 v, .string h, .int .i64 p, .int .i64 s, .int .i64 d, .int .i64 g, .int .i64 5, .int .i64 (boff (i + 1)), .int .i64 (i + 1), .int .i64 u] 39)).alloc (.cells #[.string c, .int .i64 v, .string h, .int .i64 p, .int .i64 s, .int .i64 d, .int .i64 g, .int .i64 5, .int .i64 (boff (i + 1)), .int .i64 (i + 1), .int .i64 u] 39)) := by
  by_cases h0 : i < 0
  · rw [show boff (i + 1) = 1 from by unfold boff; rw [if_pos (by omega)]]; exact l3Dies_0 c h v p s d g a b i u w h0 hii
  · by_cases h1 : i = 0
    · subst h1; exact l3Dies_1 c h v p s d g a b u w
    · by_cases h2 : i = 1
      · subst h2; exact l3Dies_2 c h v p s d g a b u w
      · by_cases h3 : i = 2
        · subst h3; exact l3Dies_3 c h v p s d g a b u w
        · rw [show boff (i + 1) = 16 from by unfold boff; rw [if_neg (by omega), if_neg (by omega), if_neg (by omega), if_neg (by omega)]]; exact l3Dies_4 c h v p s d g a b i u w (by omega) hi
theorem l3Dies_ge (c h : ByteArray) (v p s d g a b i u : Int) (w : World) (hi : 1000 ≤ i) :
    Calls Try.prog 48 #[.agg #[.string c, .int .i64 v, .string h, .int .i64 p, .int .i64 s, .int .i64 d, .int .i64 g, .int .i64 a, .int .i64 b, .int .i64 i, .int .i64 u]] w fun e w' => e = .returned (.agg #[.string c, .int .i64 v, .string h, .int .i64 p, .int .i64 s, .int .i64 d, .int .i64 g, .int .i64 5, .int .i64 (boff i), .int .i64 i, .int .i64 u]) ∧ w' = ((w.alloc (.cells #[.string c, .int .i64 v, .string h, .int .i64 p, .int .i64 s, .int .i64 d, .int .i64 g, .int .i64 5, .int .i64 (boff i), .int .i64 i, .int .i64 u] 39)).alloc (.cells #[.string c, .int .i64 v, .string h, .int .i64 p, .int .i64 s, .int .i64 d, .int .i64 g, .int .i64 5, .int .i64 (boff i), .int .i64 i, .int .i64 u] 39)) := by
  rw [show boff i = 16 from by unfold boff; rw [if_neg (by omega), if_neg (by omega), if_neg (by omega), if_neg (by omega)]]; exact l3Dies_5 c h v p s d g a b i u w hi
end Go.Proofs.Ytmfcnckhgeggkab
