/- What is unwanted is gone in time: equal runs; the plain law of the ticks. -/
import Derived.Test.YtmfcnckhgeggkaaLive
namespace Go.Proofs.Ytmfcnckhgeggkaa
open Go.RowKit
set_option linter.unusedVariables false

theorem eql_run (x0 x2 : ByteArray) (x1 x3 x4 x5 x6 x7 x8 x9 x10 : Int) (w : World) : Sem.run Try.prog (binOp .eql 38 (.agg #[.string x0, .int .i64 x1, .string x2, .int .i64 x3, .int .i64 x4, .int .i64 x5, .int .i64 x6, .int .i64 x7, .int .i64 x8, .int .i64 x9, .int .i64 x10]) (.agg #[.string x0, .int .i64 x1, .string x2, .int .i64 x3, .int .i64 x4, .int .i64 x5, .int .i64 x6, .int .i64 x7, .int .i64 x8, .int .i64 x9, .int .i64 x10])) w = .ok (.bool true) w := by
  rw [run_eql_struct, run_equalIn_agg _ _ _ _ _ (by kernel_rfl) (by kernel_rfl)]
  simp only [Program.fieldsOf, Try.underlying38, Op.eqFields]
  have hw := eql_want x0 x2 x0 x2 x1 x3 x4 x5 x6 x1 x3 x4 x5 x6 w
  rw [run_eql_struct] at hw
  simp [go_sem, Try.underlying3, Try.underlying9, Program.fieldsOf, Try.underlying36, Op.eqFields]
theorem neq_run (x0 x2 : ByteArray) (x1 x3 x4 x5 x6 x7 x8 x9 x10 : Int) (w : World) : Sem.run Try.prog (binOp .neq 38 (.agg #[.string x0, .int .i64 x1, .string x2, .int .i64 x3, .int .i64 x4, .int .i64 x5, .int .i64 x6, .int .i64 x7, .int .i64 x8, .int .i64 x9, .int .i64 x10]) (.agg #[.string x0, .int .i64 x1, .string x2, .int .i64 x3, .int .i64 x4, .int .i64 x5, .int .i64 x6, .int .i64 x7, .int .i64 x8, .int .i64 x9, .int .i64 x10])) w = .ok (.bool false) w := by
  have hq := eql_run x0 x2 x1 x3 x4 x5 x6 x7 x8 x9 x10 w
  rw [run_eql_struct] at hq
  rw [run_neq_struct]
  cases hr : (Op.equalIn 10000 38 (.agg #[.string x0, .int .i64 x1, .string x2, .int .i64 x3, .int .i64 x4, .int .i64 x5, .int .i64 x6, .int .i64 x7, .int .i64 x8, .int .i64 x9, .int .i64 x10]) (.agg #[.string x0, .int .i64 x1, .string x2, .int .i64 x3, .int .i64 x4, .int .i64 x5, .int .i64 x6, .int .i64 x7, .int .i64 x8, .int .i64 x9, .int .i64 x10])).run Try.prog w with
  | ok b w1 => rw [hr] at hq; simp at hq ⊢; obtain ⟨rfl, rfl⟩ := hq; simp
  | halt x w1 => rw [hr] at hq; simp [Result.andThen] at hq
theorem sameW_refl (c h : ByteArray) (v p s d g : Int) : sameW c h c h v p s d g v p s d g = true := by simp [sameW]

/-- Where the ticks have led behind k of them: the state, what is left. -/
def Ticks (g a b : Int) (k : Nat) (x y : Int) : Prop := (k = 0 ∧ x = a ∧ y = b) ∨ (1 ≤ k ∧ x = 6 ∧ y ≤ g + 1 - k ∧ (k = 1 ∨ 1 ≤ y))
theorem ticks_step {h : ByteArray} {s d g a b i u clock : Int} {k : Nat} {x y f : Int} (ha : 1 ≤ a ∧ a ≤ 6) (hb : a = 6 → b ≤ g) (ht : Ticks g a b k x y) :
    liveR h s d g x y f u clock false = none ∨ ∃ y' : Int, liveR h s d g x y f u clock false = some (6, y', f) ∧ Ticks g a b (k + 1) 6 y' := by
  rcases ht with ⟨rfl, rfl, rfl⟩ | ⟨h1, rfl, h2, h3⟩
  · by_cases h6 : x = 6
    · subst h6
      by_cases hy : 1 < y
      · refine Or.inr ⟨y - 1, by simp [liveR, hy], Or.inr ⟨by omega, rfl, by have := hb rfl; omega, by omega⟩⟩
      · exact Or.inl (by simp [liveR, hy])
    · cases hal : aliveB x
      · exact Or.inl (by simp [liveR, h6, hal])
      · exact Or.inr ⟨g, by simp [liveR, h6, hal], Or.inr ⟨by omega, rfl, by omega, by omega⟩⟩
  · by_cases hy : 1 < y
    · refine Or.inr ⟨y - 1, by simp [liveR, hy], Or.inr ⟨by omega, rfl, by omega, by omega⟩⟩
    · exact Or.inl (by simp [liveR, hy])
theorem ticks_end {g a b : Int} {k : Nat} {x y : Int} (hg : 0 ≤ g) (ht : Ticks g a b k x y) (hk : g + 2 ≤ (k : Int)) : False := by
  rcases ht with ⟨rfl, _, _⟩ | ⟨h1, _, h2, h3⟩
  · omega
  · omega
end Go.Proofs.Ytmfcnckhgeggkaa
