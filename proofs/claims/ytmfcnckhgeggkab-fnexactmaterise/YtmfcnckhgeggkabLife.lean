/- A tick of a run: what both sides are made of. -/
import Derived.Test.YtmfcnckhgeggkabAliveB
import Derived.Laws.EntriesVeiled
import Derived.Laws.StructEq
import Derived.Deep.RegionHeld3
import Derived.Laws.Pointers
import Derived.StillTactics
namespace Go.Proofs.Ytmfcnckhgeggkab
open Go.RowKit
set_option linter.unusedVariables false

theorem runOf_any (c h : ByteArray) (v p s d g a b i u : Int) (w : World) :
    Calls Try.prog 41 #[.agg #[.string c, .int .i64 v, .string h, .int .i64 p, .int .i64 s, .int .i64 d, .int .i64 g, .int .i64 a, .int .i64 b, .int .i64 i, .int .i64 u]] w fun e w' => e = .returned (.agg #[.string c, .int .i64 v, .string h, .int .i64 p, .int .i64 s, .int .i64 d, .int .i64 g, .int .i64 a, .int .i64 b, .int .i64 i, .int .i64 u]) ∧ w' = (w.alloc (.cells #[.string c, .int .i64 v, .string h, .int .i64 p, .int .i64 s, .int .i64 d, .int .i64 g, .int .i64 a, .int .i64 b, .int .i64 i, .int .i64 u] 39)).alloc (.cells #[.string c, .int .i64 v, .string h, .int .i64 p, .int .i64 s, .int .i64 d, .int .i64 g, .int .i64 a, .int .i64 b, .int .i64 i, .int .i64 u] 69) := by
  go_enter Try.func41, Try.ntmps41
  go_wp2
  exact bodyPost_ret (v := .agg #[.string c, .int .i64 v, .string h, .int .i64 p, .int .i64 s, .int .i64 d, .int .i64 g, .int .i64 a, .int .i64 b, .int .i64 i, .int .i64 u]) (by simp [results, Try.results41, go_sem]) rfl ⟨rfl, rfl⟩

theorem told_any (c h : ByteArray) (v p s d g a b i u : Int) (w : World) :
    Calls Try.prog 46 #[.agg #[.string c, .int .i64 v, .string h, .int .i64 p, .int .i64 s, .int .i64 d, .int .i64 g, .int .i64 a, .int .i64 b, .int .i64 i, .int .i64 u]] w fun e w' => e = .returned (.agg #[.string c, .int .i64 v, .string h, .int .i64 p, .int .i64 s, .int .i64 d, .int .i64 g, .int .i64 a, .int .i64 b, .int .i64 i, .int .i64 u]) ∧ w' = (w.alloc (.cells #[.string c, .int .i64 v, .string h, .int .i64 p, .int .i64 s, .int .i64 d, .int .i64 g, .int .i64 a, .int .i64 b, .int .i64 i, .int .i64 u] 69)).alloc (.cells #[.string c, .int .i64 v, .string h, .int .i64 p, .int .i64 s, .int .i64 d, .int .i64 g, .int .i64 a, .int .i64 b, .int .i64 i, .int .i64 u] 39) := by
  go_enter Try.func46, Try.ntmps46
  go_wp2
  exact bodyPost_ret (v := .agg #[.string c, .int .i64 v, .string h, .int .i64 p, .int .i64 s, .int .i64 d, .int .i64 g, .int .i64 a, .int .i64 b, .int .i64 i, .int .i64 u]) (by simp [results, Try.results46, go_sem]) rfl ⟨rfl, rfl⟩

theorem waiting_any (c h : ByteArray) (v p s d g a b i u : Int) (w : World) :
    Calls Try.prog 85 #[.agg #[.string c, .int .i64 v, .string h, .int .i64 p, .int .i64 s, .int .i64 d, .int .i64 g, .int .i64 a, .int .i64 b, .int .i64 i, .int .i64 u]] w fun e w' => e = .returned (.agg #[.string c, .int .i64 v, .string h, .int .i64 p, .int .i64 s, .int .i64 d, .int .i64 g, .int .i64 2, .int .i64 0, .int .i64 i, .int .i64 u]) ∧ w' = (w.alloc (.cells #[.string c, .int .i64 v, .string h, .int .i64 p, .int .i64 s, .int .i64 d, .int .i64 g, .int .i64 2, .int .i64 0, .int .i64 i, .int .i64 u] 69)).alloc (.cells #[.string c, .int .i64 v, .string h, .int .i64 p, .int .i64 s, .int .i64 d, .int .i64 g, .int .i64 2, .int .i64 0, .int .i64 i, .int .i64 u] 69) := by
  go_enter Try.func85, Try.ntmps85
  go_wp2
  exact bodyPost_ret (v := .agg #[.string c, .int .i64 v, .string h, .int .i64 p, .int .i64 s, .int .i64 d, .int .i64 g, .int .i64 2, .int .i64 0, .int .i64 i, .int .i64 u]) (by simp [results, Try.results85, go_sem]) rfl ⟨rfl, rfl⟩

theorem neq_func (fn : Fn) (x y : Array Value) (w : World) : Sem.run Try.prog (binOp BinOp.neq 81 (Value.func fn x y) Value.nilFunc) w = .ok (.bool true) w := by kernel_rfl
theorem neq_nil (w : World) : Sem.run Try.prog (binOp BinOp.neq 81 Value.nilFunc Value.nilFunc) w = .ok (.bool false) w := by kernel_rfl
theorem build_steps (w : World) : Sem.run Try.prog (Instr.build 123 #[(0, .func (.func 123) #[] #[]), (1, .func (.func 124) #[] #[]), (2, .func (.func 125) #[] #[]), (3, .func (.func 126) #[] #[]), (4, .func (.func 127) #[] #[]), (5, .func (.func 124) #[] #[]), (6, .func (.func 128) #[] #[])]) w = .ok (.agg #[.func (.func 123) #[] #[], .func (.func 124) #[] #[], .func (.func 125) #[] #[], .func (.func 126) #[] #[], .func (.func 127) #[] #[], .func (.func 124) #[] #[], .func (.func 128) #[] #[]]) w := by kernel_rfl

theorem steps_any (w : World) :
    Calls Try.prog 113 #[] w fun e w' => e = .returned (.agg #[.func (.func 123) #[] #[], .func (.func 124) #[] #[], .func (.func 125) #[] #[], .func (.func 126) #[] #[], .func (.func 127) #[] #[], .func (.func 124) #[] #[], .func (.func 128) #[] #[]]) ∧ w' = w.alloc (.cells #[.func (.func 123) #[] #[], .func (.func 124) #[] #[], .func (.func 125) #[] #[], .func (.func 126) #[] #[], .func (.func 127) #[] #[], .func (.func 124) #[] #[], .func (.func 128) #[] #[]] 123) := by
  have hb := build_steps
  go_enter Try.func113, Try.ntmps113
  go_wp2
  exact bodyPost_ret (v := .agg #[.func (.func 123) #[] #[], .func (.func 124) #[] #[], .func (.func 125) #[] #[], .func (.func 126) #[] #[], .func (.func 127) #[] #[], .func (.func 124) #[] #[], .func (.func 128) #[] #[]]) (by simp [results, Try.results113, go_sem]) rfl ⟨rfl, rfl⟩

/-- Are two wants the same? -/
def sameW (c h c2 h2 : ByteArray) (v p s d g v2 p2 s2 d2 g2 : Int) : Bool := c2.toList == c.toList && (v2 == v && (h2.toList == h.toList && (p2 == p && (s2 == s && (d2 == d && g2 == g)))))
theorem eql_want (c h c2 h2 : ByteArray) (v p s d g v2 p2 s2 d2 g2 : Int) (w : World) : Sem.run Try.prog (binOp .eql 37 (.agg #[.string c2, .int .i64 v2, .string h2, .int .i64 p2, .int .i64 s2, .int .i64 d2, .int .i64 g2]) (.agg #[.string c, .int .i64 v, .string h, .int .i64 p, .int .i64 s, .int .i64 d, .int .i64 g])) w = .ok (.bool (sameW c h c2 h2 v p s d g v2 p2 s2 d2 g2)) w := by
  unfold sameW
  rw [run_eql_struct, run_equalIn_agg _ _ _ _ _ (by kernel_rfl) (by kernel_rfl)]
  simp only [Program.fieldsOf, Try.underlying37, Op.eqFields]
  simp [go_sem, Try.underlying9, Try.underlying3]
  (repeat' split) <;> simp_all
theorem neq_want (c h c2 h2 : ByteArray) (v p s d g v2 p2 s2 d2 g2 : Int) (w : World) : Sem.run Try.prog (binOp .neq 37 (.agg #[.string c2, .int .i64 v2, .string h2, .int .i64 p2, .int .i64 s2, .int .i64 d2, .int .i64 g2]) (.agg #[.string c, .int .i64 v, .string h, .int .i64 p, .int .i64 s, .int .i64 d, .int .i64 g])) w = .ok (.bool (!sameW c h c2 h2 v p s d g v2 p2 s2 d2 g2)) w := by
  have hq := eql_want c h c2 h2 v p s d g v2 p2 s2 d2 g2 w
  rw [run_eql_struct] at hq
  rw [run_neq_struct]
  cases hr : (Op.equalIn 10000 37 (.agg #[.string c2, .int .i64 v2, .string h2, .int .i64 p2, .int .i64 s2, .int .i64 d2, .int .i64 g2]) (.agg #[.string c, .int .i64 v, .string h, .int .i64 p, .int .i64 s, .int .i64 d, .int .i64 g])).run Try.prog w with
  | ok b w1 => rw [hr] at hq; simp at hq ⊢; obtain ⟨rfl, rfl⟩ := hq; simp
  | halt x w1 => rw [hr] at hq; simp [Result.andThen] at hq

/-- Has a run its hold for long enough, or none? -/
def leasedB (h : ByteArray) (u clock : Int) : Bool := h.toList.isEmpty || decide (wrap64 (clock + 4) ≤ u)

theorem mayLive_any (c h : ByteArray) (v p s d g a b i u clock : Int) (w : World) :
    Calls Try.prog 84 #[.agg #[.string c, .int .i64 v, .string h, .int .i64 p, .int .i64 s, .int .i64 d, .int .i64 g, .int .i64 a, .int .i64 b, .int .i64 i, .int .i64 u], .int .i64 clock] w fun e w' => e = .returned (.bool (leasedB h u clock)) ∧ w' = w.alloc (.cells #[.string c, .int .i64 v, .string h, .int .i64 p, .int .i64 s, .int .i64 d, .int .i64 g, .int .i64 a, .int .i64 b, .int .i64 i, .int .i64 u] 69) := by
  unfold leasedB
  cases hh : h.toList.isEmpty
  · go_enter Try.func84, Try.ntmps84
    go_wp2
    go_ret
    exact ⟨by simp, rfl⟩
  · go_enter Try.func84, Try.ntmps84
    go_wp2
    go_ret
    exact ⟨by simp, rfl⟩

theorem leased_any (c h : ByteArray) (v p s d g a b i u clock : Int) (w : World) :
    Calls Try.prog 44 #[.agg #[.string c, .int .i64 v, .string h, .int .i64 p, .int .i64 s, .int .i64 d, .int .i64 g, .int .i64 a, .int .i64 b, .int .i64 i, .int .i64 u], .int .i64 clock] w fun e w' => e = .returned (.bool (leasedB h u clock)) ∧ w' = w.alloc (.cells #[.string c, .int .i64 v, .string h, .int .i64 p, .int .i64 s, .int .i64 d, .int .i64 g, .int .i64 a, .int .i64 b, .int .i64 i, .int .i64 u] 39) := by
  unfold leasedB
  cases hh : h.toList.isEmpty
  · go_enter Try.func44, Try.ntmps44
    go_wp2
    go_ret
    exact ⟨by simp, rfl⟩
  · go_enter Try.func44, Try.ntmps44
    go_wp2
    go_ret
    exact ⟨by simp, rfl⟩

theorem begin_yes (c h : ByteArray) (v p s d g a b i u clock : Int) (X : World) (bk : Nat) (hbk : bk = X.heap.size) (hl : leasedB h u clock = true) :
    Calls Try.prog 125 #[.pointer (some ⟨bk, 0, none⟩)] (((X.alloc (.cells #[.string c, .int .i64 v, .string h, .int .i64 p, .int .i64 s, .int .i64 d, .int .i64 g, .int .i64 a, .int .i64 b, .int .i64 i, .int .i64 u, .int .i64 clock, .bool false] 79)).alloc (.cells #[.func (.func 123) #[] #[], .func (.func 124) #[] #[], .func (.func 125) #[] #[], .func (.func 126) #[] #[], .func (.func 127) #[] #[], .func (.func 124) #[] #[], .func (.func 128) #[] #[]] 123)).alloc (.cells #[.func (.func 123) #[] #[], .func (.func 124) #[] #[], .func (.func 125) #[] #[], .func (.func 126) #[] #[], .func (.func 127) #[] #[], .func (.func 124) #[] #[], .func (.func 128) #[] #[]] 123)) fun e w' => e = .returned .nilFunc ∧
      w' = ((((X.alloc (.cells #[.string c, .int .i64 v, .string h, .int .i64 p, .int .i64 s, .int .i64 d, .int .i64 g, .int .i64 3, .int .i64 s, .int .i64 i, .int .i64 u, .int .i64 clock, .bool false] 79)).alloc (.cells #[.func (.func 123) #[] #[], .func (.func 124) #[] #[], .func (.func 125) #[] #[], .func (.func 126) #[] #[], .func (.func 127) #[] #[], .func (.func 124) #[] #[], .func (.func 128) #[] #[]] 123)).alloc (.cells #[.func (.func 123) #[] #[], .func (.func 124) #[] #[], .func (.func 125) #[] #[], .func (.func 126) #[] #[], .func (.func 127) #[] #[], .func (.func 124) #[] #[], .func (.func 128) #[] #[]] 123)).alloc (.cells #[.string c, .int .i64 v, .string h, .int .i64 p, .int .i64 s, .int .i64 d, .int .i64 g, .int .i64 a, .int .i64 b, .int .i64 i, .int .i64 u] 69)).drew := by
  subst hbk
  go_enter Try.func125, Try.ntmps125
  go_wp2
  go_region_held3 (fun w' => ∀ k, w'.cell? ⟨X.heap.size, k, none⟩ = (X.alloc (.cells #[.string c, .int .i64 v, .string h, .int .i64 p, .int .i64 s, .int .i64 d, .int .i64 g, .int .i64 a, .int .i64 b, .int .i64 i, .int .i64 u, .int .i64 clock, .bool false] 79)).cell? ⟨X.heap.size, k, none⟩) (simp [go_sem, World.cell?_alloc_past])
    (first | (go_at_call 84; refine (mayLive_any c h v p s d g a b i u clock _).mono ?_; rintro e w' ⟨rfl, rfl⟩))
  go_wp2
  go_ret
  exact ⟨rfl, rfl⟩

theorem begin_no (c h : ByteArray) (v p s d g a b i u clock : Int) (X : World) (bk : Nat) (hbk : bk = X.heap.size) (hl : leasedB h u clock = false) :
    Calls Try.prog 125 #[.pointer (some ⟨bk, 0, none⟩)] (((X.alloc (.cells #[.string c, .int .i64 v, .string h, .int .i64 p, .int .i64 s, .int .i64 d, .int .i64 g, .int .i64 a, .int .i64 b, .int .i64 i, .int .i64 u, .int .i64 clock, .bool false] 79)).alloc (.cells #[.func (.func 123) #[] #[], .func (.func 124) #[] #[], .func (.func 125) #[] #[], .func (.func 126) #[] #[], .func (.func 127) #[] #[], .func (.func 124) #[] #[], .func (.func 128) #[] #[]] 123)).alloc (.cells #[.func (.func 123) #[] #[], .func (.func 124) #[] #[], .func (.func 125) #[] #[], .func (.func 126) #[] #[], .func (.func 127) #[] #[], .func (.func 124) #[] #[], .func (.func 128) #[] #[]] 123)) fun e w' => e = .returned .nilFunc ∧
      w' = ((((((X.alloc (.cells #[.string c, .int .i64 v, .string h, .int .i64 p, .int .i64 s, .int .i64 d, .int .i64 g, .int .i64 2, .int .i64 0, .int .i64 i, .int .i64 u, .int .i64 clock, .bool false] 79)).alloc (.cells #[.func (.func 123) #[] #[], .func (.func 124) #[] #[], .func (.func 125) #[] #[], .func (.func 126) #[] #[], .func (.func 127) #[] #[], .func (.func 124) #[] #[], .func (.func 128) #[] #[]] 123)).alloc (.cells #[.func (.func 123) #[] #[], .func (.func 124) #[] #[], .func (.func 125) #[] #[], .func (.func 126) #[] #[], .func (.func 127) #[] #[], .func (.func 124) #[] #[], .func (.func 128) #[] #[]] 123)).alloc (.cells #[.string c, .int .i64 v, .string h, .int .i64 p, .int .i64 s, .int .i64 d, .int .i64 g, .int .i64 a, .int .i64 b, .int .i64 i, .int .i64 u] 69)).alloc (.cells #[.string c, .int .i64 v, .string h, .int .i64 p, .int .i64 s, .int .i64 d, .int .i64 g, .int .i64 2, .int .i64 0, .int .i64 i, .int .i64 u] 69)).alloc (.cells #[.string c, .int .i64 v, .string h, .int .i64 p, .int .i64 s, .int .i64 d, .int .i64 g, .int .i64 2, .int .i64 0, .int .i64 i, .int .i64 u] 69)).drew := by
  subst hbk
  go_enter Try.func125, Try.ntmps125
  go_wp2
  go_region_held3 (fun w' => ∀ k, w'.cell? ⟨X.heap.size, k, none⟩ = (X.alloc (.cells #[.string c, .int .i64 v, .string h, .int .i64 p, .int .i64 s, .int .i64 d, .int .i64 g, .int .i64 a, .int .i64 b, .int .i64 i, .int .i64 u, .int .i64 clock, .bool false] 79)).cell? ⟨X.heap.size, k, none⟩) (simp [go_sem, World.cell?_alloc_past])
    (first | (go_at_call 84; refine (mayLive_any c h v p s d g a b i u clock _).mono ?_; rintro e w' ⟨rfl, rfl⟩))
  go_wp2_with (first | (go_at_call 85; refine (waiting_any c h v p s d g a b i u _).mono ?_; rintro e w' ⟨rfl, rfl⟩))
  go_ret
  exact ⟨rfl, rfl⟩

/-- How long a copy waits that has died so often. -/
def boff (n : Int) : Int := if n ≤ 0 then 1 else if n = 1 then 2 else if n = 2 then 4 else if n = 3 then 8 else 16

theorem backoff_0 (n : Int) (w : World) (cond : n ≤ 0) : Calls Try.prog 135 #[.int .i64 n] w fun e w' => e = .returned (.int .i64 1) ∧ w' = w := by
  go_enter Try.func135, Try.ntmps135
  go_wp2
  refine wp_loop_rounds 1 ?_
  rw [rounds_succ]
  go_wp2
  all_goals go_ret
  all_goals exact ⟨rfl, rfl⟩

theorem backoff_1 (w : World) : Calls Try.prog 135 #[.int .i64 1] w fun e w' => e = .returned (.int .i64 2) ∧ w' = w := by
  go_enter Try.func135, Try.ntmps135
  go_wp2
  refine wp_loop_rounds 2 ?_
  rw [rounds_succ]
  go_wp2
  rw [rounds_succ]
  go_wp2
  all_goals go_ret
  all_goals exact ⟨rfl, rfl⟩

theorem backoff_2 (w : World) : Calls Try.prog 135 #[.int .i64 2] w fun e w' => e = .returned (.int .i64 4) ∧ w' = w := by
  go_enter Try.func135, Try.ntmps135
  go_wp2
  refine wp_loop_rounds 3 ?_
  rw [rounds_succ]
  go_wp2
  rw [rounds_succ]
  go_wp2
  rw [rounds_succ]
  go_wp2
  all_goals go_ret
  all_goals exact ⟨rfl, rfl⟩

theorem backoff_3 (w : World) : Calls Try.prog 135 #[.int .i64 3] w fun e w' => e = .returned (.int .i64 8) ∧ w' = w := by
  go_enter Try.func135, Try.ntmps135
  go_wp2
  refine wp_loop_rounds 4 ?_
  rw [rounds_succ]
  go_wp2
  rw [rounds_succ]
  go_wp2
  rw [rounds_succ]
  go_wp2
  rw [rounds_succ]
  go_wp2
  all_goals go_ret
  all_goals exact ⟨rfl, rfl⟩

theorem backoff_4 (n : Int) (w : World) (cond : 4 ≤ n) : Calls Try.prog 135 #[.int .i64 n] w fun e w' => e = .returned (.int .i64 16) ∧ w' = w := by
  go_enter Try.func135, Try.ntmps135
  go_wp2
  refine wp_loop_rounds 5 ?_
  rw [rounds_succ]
  go_wp2
  rw [rounds_succ]
  go_wp2
  rw [rounds_succ]
  go_wp2
  rw [rounds_succ]
  go_wp2
  rw [rounds_succ]
  go_wp2
  all_goals go_ret
  all_goals exact ⟨rfl, rfl⟩

theorem backoff_any (n : Int) (w : World) : Calls Try.prog 135 #[.int .i64 n] w fun e w' => e = .returned (.int .i64 (boff n)) ∧ w' = w := by
  unfold boff
  by_cases h0 : n ≤ 0
  · rw [if_pos h0]; exact backoff_0 n w h0
  · rw [if_neg h0]
    by_cases h1 : n = 1
    · rw [if_pos h1]; subst h1; exact backoff_1 w
    · rw [if_neg h1]
      by_cases h2 : n = 2
      · rw [if_pos h2]; subst h2; exact backoff_2 w
      · rw [if_neg h2]
        by_cases h3 : n = 3
        · rw [if_pos h3]; subst h3; exact backoff_3 w
        · rw [if_neg h3]; exact backoff_4 n w (by omega)
end Go.Proofs.Ytmfcnckhgeggkab
