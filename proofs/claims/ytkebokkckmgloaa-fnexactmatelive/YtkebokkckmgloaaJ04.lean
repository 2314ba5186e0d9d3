import Derived.Test.YtkebokkckmgloaaJ02
import Derived.Test.YtkebokkckmgloaaJ03
import Derived.Test.YtkebokkckmgloaaJ01
import Derived.ProofKit
import Derived.OpenShut
/- MateLive on both sides is one plain function. -/
namespace Go.Proofs.Ytkebokkckmgloaa
open Go.RowKit
set_option linter.unusedVariables false

/-- A tick of a run: the state, what is left and the falls behind it; none: it is gone. -/
def liveR (h : ByteArray) (s d g a b i u clock : Int) (sm : Bool) : Option (Int × Int × Int) :=
  if sm = false ∧ a ≠ 6 then (if aliveB a = true then some (6, g, i) else none)
  else if a = 2 then (if leasedB h u clock = true then some (3, s, i) else some (2, 0, i))
  else if 1 < b then some (a, b - 1, i)
  else if a = 1 ∨ a = 5 then (if leasedB h u clock = true then some (3, s, i) else some (2, 0, i))
  else if a = 3 then some (4, d, i)
  else if a = 4 ∧ b = 1 then (if i < 1000 then some (5, boff (i + 1), i + 1) else some (5, boff i, i))
  else if a = 6 then none
  else some (a, b, i)
def liveV (c h : ByteArray) (v p s d g u : Int) : Option (Int × Int × Int) → Value
  | none => .tuple #[.agg #[.string ⟨#[]⟩, .int .i64 0, .string ⟨#[]⟩, .int .i64 0, .int .i64 0, .int .i64 0, .int .i64 0, .int .i64 0, .int .i64 0, .int .i64 0, .int .i64 0], .bool false]
  | some (a, b, i) => .tuple #[.agg #[.string c, .int .i64 v, .string h, .int .i64 p, .int .i64 s, .int .i64 d, .int .i64 g, .int .i64 a, .int .i64 b, .int .i64 i, .int .i64 u], .bool true]

theorem implLive_any (c h c2 h2 : ByteArray) (v p s d g a b i u v2 p2 s2 d2 g2 clock : Int) (wanted : Bool) (w : World) (hbb : b ≤ 9223372036854775807) (hii : -9223372036854775808 ≤ i) :
    Calls Try.prog 26 #[.agg #[.string c, .int .i64 v, .string h, .int .i64 p, .int .i64 s, .int .i64 d, .int .i64 g, .int .i64 a, .int .i64 b, .int .i64 i, .int .i64 u], .agg #[.string c2, .int .i64 v2, .string h2, .int .i64 p2, .int .i64 s2, .int .i64 d2, .int .i64 g2], .bool wanted, .int .i64 clock] w fun e w' =>
      e = .returned (liveV c h v p s d g u (liveR h s d g a b i u clock (wanted && sameW c h c2 h2 v p s d g v2 p2 s2 d2 g2))) ∧ Below w.heap.size w w' := by
  have live_gone : ∀ (x : Bool), x = false → a ≠ 6 → liveR h s d g a b i u clock x = if aliveB a = true then some (6, g, i) else none := by
    intro x hx h6; subst hx; simp [liveR, h6]
  cases wanted
  · simp only [Bool.false_and]
    by_cases h6 : a = 6
    · subst h6
      by_cases hb : 1 < b
      · rw [show liveR h s d g 6 b i u clock false = some (6, b - 1, i) from by simp [liveR, hb]]
        (refine (implLive_S6af c h c2 h2 v p s d g b i u v2 p2 s2 d2 g2 clock w hb hbb).mono ?_; rintro e w' ⟨rfl, k⟩; exact ⟨rfl, k⟩)
      · rw [show liveR h s d g 6 b i u clock false = none from by simp [liveR, hb]]
        (refine (implLive_S6bf c h c2 h2 v p s d g b i u v2 p2 s2 d2 g2 clock w (by omega)).mono ?_; rintro e w' ⟨rfl, k⟩; exact ⟨rfl, k⟩)
    · have h6' : (a == 6) = false := by simpa using h6
      rw [live_gone _ rfl h6]
      cases ha : aliveB a
      · (refine (implLive_U0f c h c2 h2 v p s d g a b i u v2 p2 s2 d2 g2 clock w ha h6').mono ?_; rintro e w' ⟨rfl, k⟩; exact ⟨rfl, k⟩)
      · (refine (implLive_U1f c h c2 h2 v p s d g a b i u v2 p2 s2 d2 g2 clock w ha h6').mono ?_; rintro e w' ⟨rfl, k⟩; exact ⟨rfl, k⟩)
  · simp only [Bool.true_and]
    cases hs : sameW c h c2 h2 v p s d g v2 p2 s2 d2 g2
    · have heq : ∀ w, Sem.run Try.prog (binOp .eql 36 (.agg #[.string c2, .int .i64 v2, .string h2, .int .i64 p2, .int .i64 s2, .int .i64 d2, .int .i64 g2]) (.agg #[.string c, .int .i64 v, .string h, .int .i64 p, .int .i64 s, .int .i64 d, .int .i64 g])) w = .ok (.bool false) w := fun w => by
        rw [eql_want, hs]
      by_cases h6 : a = 6
      · subst h6
        by_cases hb : 1 < b
        · rw [show liveR h s d g 6 b i u clock false = some (6, b - 1, i) from by simp [liveR, hb]]
          (refine (implLive_S6an c h c2 h2 v p s d g b i u v2 p2 s2 d2 g2 clock w hb hbb heq).mono ?_; rintro e w' ⟨rfl, k⟩; exact ⟨rfl, k⟩)
        · rw [show liveR h s d g 6 b i u clock false = none from by simp [liveR, hb]]
          (refine (implLive_S6bn c h c2 h2 v p s d g b i u v2 p2 s2 d2 g2 clock w (by omega) heq).mono ?_; rintro e w' ⟨rfl, k⟩; exact ⟨rfl, k⟩)
      · have h6' : (a == 6) = false := by simpa using h6
        rw [live_gone _ rfl h6]
        cases ha : aliveB a
        · (refine (implLive_U0t c h c2 h2 v p s d g a b i u v2 p2 s2 d2 g2 clock w ha h6' heq).mono ?_; rintro e w' ⟨rfl, k⟩; exact ⟨rfl, k⟩)
        · (refine (implLive_U1t c h c2 h2 v p s d g a b i u v2 p2 s2 d2 g2 clock w ha h6' heq).mono ?_; rintro e w' ⟨rfl, k⟩; exact ⟨rfl, k⟩)
    · have heq : ∀ w, Sem.run Try.prog (binOp .eql 36 (.agg #[.string c2, .int .i64 v2, .string h2, .int .i64 p2, .int .i64 s2, .int .i64 d2, .int .i64 g2]) (.agg #[.string c, .int .i64 v, .string h, .int .i64 p, .int .i64 s, .int .i64 d, .int .i64 g])) w = .ok (.bool true) w := fun w => by
        rw [eql_want, hs]
      clear live_gone
      by_cases h6 : a = 6
      · subst h6
        by_cases hb : 1 < b
        · rw [show liveR h s d g 6 b i u clock true = some (6, b - 1, i) from by simp [liveR, hb]]
          (refine (implLive_S6at c h c2 h2 v p s d g b i u v2 p2 s2 d2 g2 clock w hb hbb heq).mono ?_; rintro e w' ⟨rfl, k⟩; exact ⟨rfl, k⟩)
        · rw [show liveR h s d g 6 b i u clock true = none from by simp [liveR, hb]]
          (refine (implLive_S6bt c h c2 h2 v p s d g b i u v2 p2 s2 d2 g2 clock w (by omega) heq).mono ?_; rintro e w' ⟨rfl, k⟩; exact ⟨rfl, k⟩)
      by_cases h2a : a = 2
      · subst h2a
        cases hl : leasedB h u clock
        · rw [show liveR h s d g 2 b i u clock true = some (2, 0, i) from by simp [liveR, hl]]
          (refine (implLive_T2n c h c2 h2 v p s d g b i u v2 p2 s2 d2 g2 clock w hl heq).mono ?_; rintro e w' ⟨rfl, k⟩; exact ⟨rfl, k⟩)
        · rw [show liveR h s d g 2 b i u clock true = some (3, s, i) from by simp [liveR, hl]]
          (refine (implLive_T2y c h c2 h2 v p s d g b i u v2 p2 s2 d2 g2 clock w hl heq).mono ?_; rintro e w' ⟨rfl, k⟩; exact ⟨rfl, k⟩)
      by_cases h1a : a = 1
      · subst h1a
        by_cases hb : 1 < b
        · rw [show liveR h s d g 1 b i u clock true = some (1, b - 1, i) from by simp [liveR, hb]]
          (refine (implLive_T1a c h c2 h2 v p s d g b i u v2 p2 s2 d2 g2 clock w hb hbb heq).mono ?_; rintro e w' ⟨rfl, k⟩; exact ⟨rfl, k⟩)
        · cases hl : leasedB h u clock
          · rw [show liveR h s d g 1 b i u clock true = some (2, 0, i) from by simp [liveR, hb, hl]]
            (refine (implLive_T1n c h c2 h2 v p s d g b i u v2 p2 s2 d2 g2 clock w (by omega) hl heq).mono ?_; rintro e w' ⟨rfl, k⟩; exact ⟨rfl, k⟩)
          · rw [show liveR h s d g 1 b i u clock true = some (3, s, i) from by simp [liveR, hb, hl]]
            (refine (implLive_T1y c h c2 h2 v p s d g b i u v2 p2 s2 d2 g2 clock w (by omega) hl heq).mono ?_; rintro e w' ⟨rfl, k⟩; exact ⟨rfl, k⟩)
      by_cases h5a : a = 5
      · subst h5a
        by_cases hb : 1 < b
        · rw [show liveR h s d g 5 b i u clock true = some (5, b - 1, i) from by simp [liveR, hb]]
          (refine (implLive_T5a c h c2 h2 v p s d g b i u v2 p2 s2 d2 g2 clock w hb hbb heq).mono ?_; rintro e w' ⟨rfl, k⟩; exact ⟨rfl, k⟩)
        · cases hl : leasedB h u clock
          · rw [show liveR h s d g 5 b i u clock true = some (2, 0, i) from by simp [liveR, hb, hl]]
            (refine (implLive_T5n c h c2 h2 v p s d g b i u v2 p2 s2 d2 g2 clock w (by omega) hl heq).mono ?_; rintro e w' ⟨rfl, k⟩; exact ⟨rfl, k⟩)
          · rw [show liveR h s d g 5 b i u clock true = some (3, s, i) from by simp [liveR, hb, hl]]
            (refine (implLive_T5y c h c2 h2 v p s d g b i u v2 p2 s2 d2 g2 clock w (by omega) hl heq).mono ?_; rintro e w' ⟨rfl, k⟩; exact ⟨rfl, k⟩)
      by_cases h3a : a = 3
      · subst h3a
        by_cases hb : 1 < b
        · rw [show liveR h s d g 3 b i u clock true = some (3, b - 1, i) from by simp [liveR, hb]]
          (refine (implLive_T3a c h c2 h2 v p s d g b i u v2 p2 s2 d2 g2 clock w hb hbb heq).mono ?_; rintro e w' ⟨rfl, k⟩; exact ⟨rfl, k⟩)
        · rw [show liveR h s d g 3 b i u clock true = some (4, d, i) from by simp [liveR, hb]]
          (refine (implLive_T3b c h c2 h2 v p s d g b i u v2 p2 s2 d2 g2 clock w (by omega) heq).mono ?_; rintro e w' ⟨rfl, k⟩; exact ⟨rfl, k⟩)
      by_cases h4a : a = 4
      · subst h4a
        by_cases hb : 1 < b
        · rw [show liveR h s d g 4 b i u clock true = some (4, b - 1, i) from by simp [liveR, hb]]
          (refine (implLive_T4a c h c2 h2 v p s d g b i u v2 p2 s2 d2 g2 clock w hb hbb (by simp; omega) heq).mono ?_; rintro e w' ⟨rfl, k⟩; exact ⟨rfl, k⟩)
        · by_cases hb1 : b = 1
          · subst hb1
            by_cases hi : i < 1000
            · rw [show liveR h s d g 4 1 i u clock true = some (5, boff (i + 1), i + 1) from by simp [liveR, hi]]
              (refine (implLive_T4d c h c2 h2 v p s d g i u v2 p2 s2 d2 g2 clock w hi hii heq).mono ?_; rintro e w' ⟨rfl, k⟩; exact ⟨rfl, k⟩)
            · rw [show liveR h s d g 4 1 i u clock true = some (5, boff i, i) from by simp [liveR, hi]]
              (refine (implLive_T4e c h c2 h2 v p s d g i u v2 p2 s2 d2 g2 clock w (by omega) heq).mono ?_; rintro e w' ⟨rfl, k⟩; exact ⟨rfl, k⟩)
          · rw [show liveR h s d g 4 b i u clock true = some (4, b, i) from by simp [liveR, hb, hb1]]
            (refine (implLive_T4z c h c2 h2 v p s d g b i u v2 p2 s2 d2 g2 clock w (by omega) (by simpa using hb1) heq).mono ?_; rintro e w' ⟨rfl, k⟩; exact ⟨rfl, k⟩)
      have hoth : liveR h s d g a b i u clock true = if 1 < b then some (a, b - 1, i) else some (a, b, i) := by simp [liveR, h6, h2a, h1a, h5a, h3a, h4a]
      rw [hoth]
      by_cases hlt : a < 1
      · by_cases hb : 1 < b
        · rw [if_pos hb]
          (refine (implLive_OLa c h c2 h2 v p s d g a b i u v2 p2 s2 d2 g2 clock w hlt hb hbb heq).mono ?_; rintro e w' ⟨rfl, k⟩; exact ⟨rfl, k⟩)
        · rw [if_neg hb]
          (refine (implLive_OLb c h c2 h2 v p s d g a b i u v2 p2 s2 d2 g2 clock w hlt (by omega) heq).mono ?_; rintro e w' ⟨rfl, k⟩; exact ⟨rfl, k⟩)
      · by_cases hb : 1 < b
        · rw [if_pos hb]
          (refine (implLive_OGa c h c2 h2 v p s d g a b i u v2 p2 s2 d2 g2 clock w (by omega) (by omega) hb hbb heq).mono ?_; rintro e w' ⟨rfl, k⟩; exact ⟨rfl, k⟩)
        · rw [if_neg hb]
          (refine (implLive_OGb c h c2 h2 v p s d g a b i u v2 p2 s2 d2 g2 clock w (by omega) (by omega) (by omega) heq).mono ?_; rintro e w' ⟨rfl, k⟩; exact ⟨rfl, k⟩)

theorem specLive_any (c h c2 h2 : ByteArray) (v p s d g a b i u v2 p2 s2 d2 g2 clock : Int) (wanted : Bool) (w : World) (hbb : b ≤ 9223372036854775807) (hii : -9223372036854775808 ≤ i) :
    Calls Try.prog 27 #[.agg #[.string c, .int .i64 v, .string h, .int .i64 p, .int .i64 s, .int .i64 d, .int .i64 g, .int .i64 a, .int .i64 b, .int .i64 i, .int .i64 u], .agg #[.string c2, .int .i64 v2, .string h2, .int .i64 p2, .int .i64 s2, .int .i64 d2, .int .i64 g2], .bool wanted, .int .i64 clock] w fun e w' =>
      e = .returned (liveV c h v p s d g u (liveR h s d g a b i u clock (wanted && sameW c h c2 h2 v p s d g v2 p2 s2 d2 g2))) ∧ Below w.heap.size w w' := by
  have live_gone : ∀ (x : Bool), x = false → a ≠ 6 → liveR h s d g a b i u clock x = if aliveB a = true then some (6, g, i) else none := by
    intro x hx h6; subst hx; simp [liveR, h6]
  cases wanted
  · simp only [Bool.false_and]
    by_cases h6 : a = 6
    · subst h6
      by_cases hb : 1 < b
      · rw [show liveR h s d g 6 b i u clock false = some (6, b - 1, i) from by simp [liveR, hb]]
        (refine (specLive_S6af c h c2 h2 v p s d g b i u v2 p2 s2 d2 g2 clock w hb hbb).mono ?_; rintro e w' ⟨rfl, k⟩; exact ⟨rfl, k⟩)
      · rw [show liveR h s d g 6 b i u clock false = none from by simp [liveR, hb]]
        (refine (specLive_S6bf c h c2 h2 v p s d g b i u v2 p2 s2 d2 g2 clock w (by omega)).mono ?_; rintro e w' ⟨rfl, k⟩; exact ⟨rfl, k⟩)
    · have h6' : (a != 6) = true := by simpa using h6
      rw [live_gone _ rfl h6]
      cases ha : aliveB a
      · (refine (specLive_U0f c h c2 h2 v p s d g a b i u v2 p2 s2 d2 g2 clock w ha h6').mono ?_; rintro e w' ⟨rfl, k⟩; exact ⟨rfl, k⟩)
      · (refine (specLive_U1f c h c2 h2 v p s d g a b i u v2 p2 s2 d2 g2 clock w ha h6').mono ?_; rintro e w' ⟨rfl, k⟩; exact ⟨rfl, k⟩)
  · simp only [Bool.true_and]
    cases hs : sameW c h c2 h2 v p s d g v2 p2 s2 d2 g2
    · have heq : ∀ w, Sem.run Try.prog (binOp .neq 36 (.agg #[.string c2, .int .i64 v2, .string h2, .int .i64 p2, .int .i64 s2, .int .i64 d2, .int .i64 g2]) (.agg #[.string c, .int .i64 v, .string h, .int .i64 p, .int .i64 s, .int .i64 d, .int .i64 g])) w = .ok (.bool true) w := fun w => by
        rw [neq_want, hs]; rfl
      by_cases h6 : a = 6
      · subst h6
        by_cases hb : 1 < b
        · rw [show liveR h s d g 6 b i u clock false = some (6, b - 1, i) from by simp [liveR, hb]]
          (refine (specLive_S6an c h c2 h2 v p s d g b i u v2 p2 s2 d2 g2 clock w hb hbb heq).mono ?_; rintro e w' ⟨rfl, k⟩; exact ⟨rfl, k⟩)
        · rw [show liveR h s d g 6 b i u clock false = none from by simp [liveR, hb]]
          (refine (specLive_S6bn c h c2 h2 v p s d g b i u v2 p2 s2 d2 g2 clock w (by omega) heq).mono ?_; rintro e w' ⟨rfl, k⟩; exact ⟨rfl, k⟩)
      · have h6' : (a != 6) = true := by simpa using h6
        rw [live_gone _ rfl h6]
        cases ha : aliveB a
        · (refine (specLive_U0t c h c2 h2 v p s d g a b i u v2 p2 s2 d2 g2 clock w ha h6' heq).mono ?_; rintro e w' ⟨rfl, k⟩; exact ⟨rfl, k⟩)
        · (refine (specLive_U1t c h c2 h2 v p s d g a b i u v2 p2 s2 d2 g2 clock w ha h6' heq).mono ?_; rintro e w' ⟨rfl, k⟩; exact ⟨rfl, k⟩)
    · have heq : ∀ w, Sem.run Try.prog (binOp .neq 36 (.agg #[.string c2, .int .i64 v2, .string h2, .int .i64 p2, .int .i64 s2, .int .i64 d2, .int .i64 g2]) (.agg #[.string c, .int .i64 v, .string h, .int .i64 p, .int .i64 s, .int .i64 d, .int .i64 g])) w = .ok (.bool false) w := fun w => by
        rw [neq_want, hs]; rfl
      clear live_gone
      by_cases h6 : a = 6
      · subst h6
        by_cases hb : 1 < b
        · rw [show liveR h s d g 6 b i u clock true = some (6, b - 1, i) from by simp [liveR, hb]]
          (refine (specLive_S6at c h c2 h2 v p s d g b i u v2 p2 s2 d2 g2 clock w hb hbb heq).mono ?_; rintro e w' ⟨rfl, k⟩; exact ⟨rfl, k⟩)
        · rw [show liveR h s d g 6 b i u clock true = none from by simp [liveR, hb]]
          (refine (specLive_S6bt c h c2 h2 v p s d g b i u v2 p2 s2 d2 g2 clock w (by omega) heq).mono ?_; rintro e w' ⟨rfl, k⟩; exact ⟨rfl, k⟩)
      by_cases h2a : a = 2
      · subst h2a
        cases hl : leasedB h u clock
        · rw [show liveR h s d g 2 b i u clock true = some (2, 0, i) from by simp [liveR, hl]]
          (refine (specLive_T2n c h c2 h2 v p s d g b i u v2 p2 s2 d2 g2 clock w hl heq).mono ?_; rintro e w' ⟨rfl, k⟩; exact ⟨rfl, k⟩)
        · rw [show liveR h s d g 2 b i u clock true = some (3, s, i) from by simp [liveR, hl]]
          (refine (specLive_T2y c h c2 h2 v p s d g b i u v2 p2 s2 d2 g2 clock w hl heq).mono ?_; rintro e w' ⟨rfl, k⟩; exact ⟨rfl, k⟩)
      by_cases h1a : a = 1
      · subst h1a
        by_cases hb : 1 < b
        · rw [show liveR h s d g 1 b i u clock true = some (1, b - 1, i) from by simp [liveR, hb]]
          (refine (specLive_T1a c h c2 h2 v p s d g b i u v2 p2 s2 d2 g2 clock w hb hbb heq).mono ?_; rintro e w' ⟨rfl, k⟩; exact ⟨rfl, k⟩)
        · cases hl : leasedB h u clock
          · rw [show liveR h s d g 1 b i u clock true = some (2, 0, i) from by simp [liveR, hb, hl]]
            (refine (specLive_T1n c h c2 h2 v p s d g b i u v2 p2 s2 d2 g2 clock w (by omega) hl heq).mono ?_; rintro e w' ⟨rfl, k⟩; exact ⟨rfl, k⟩)
          · rw [show liveR h s d g 1 b i u clock true = some (3, s, i) from by simp [liveR, hb, hl]]
            (refine (specLive_T1y c h c2 h2 v p s d g b i u v2 p2 s2 d2 g2 clock w (by omega) hl heq).mono ?_; rintro e w' ⟨rfl, k⟩; exact ⟨rfl, k⟩)
      by_cases h5a : a = 5
      · subst h5a
        by_cases hb : 1 < b
        · rw [show liveR h s d g 5 b i u clock true = some (5, b - 1, i) from by simp [liveR, hb]]
          (refine (specLive_T5a c h c2 h2 v p s d g b i u v2 p2 s2 d2 g2 clock w hb hbb heq).mono ?_; rintro e w' ⟨rfl, k⟩; exact ⟨rfl, k⟩)
        · cases hl : leasedB h u clock
          · rw [show liveR h s d g 5 b i u clock true = some (2, 0, i) from by simp [liveR, hb, hl]]
            (refine (specLive_T5n c h c2 h2 v p s d g b i u v2 p2 s2 d2 g2 clock w (by omega) hl heq).mono ?_; rintro e w' ⟨rfl, k⟩; exact ⟨rfl, k⟩)
          · rw [show liveR h s d g 5 b i u clock true = some (3, s, i) from by simp [liveR, hb, hl]]
            (refine (specLive_T5y c h c2 h2 v p s d g b i u v2 p2 s2 d2 g2 clock w (by omega) hl heq).mono ?_; rintro e w' ⟨rfl, k⟩; exact ⟨rfl, k⟩)
      by_cases h3a : a = 3
      · subst h3a
        by_cases hb : 1 < b
        · rw [show liveR h s d g 3 b i u clock true = some (3, b - 1, i) from by simp [liveR, hb]]
          (refine (specLive_T3a c h c2 h2 v p s d g b i u v2 p2 s2 d2 g2 clock w hb hbb heq).mono ?_; rintro e w' ⟨rfl, k⟩; exact ⟨rfl, k⟩)
        · rw [show liveR h s d g 3 b i u clock true = some (4, d, i) from by simp [liveR, hb]]
          (refine (specLive_T3b c h c2 h2 v p s d g b i u v2 p2 s2 d2 g2 clock w (by omega) heq).mono ?_; rintro e w' ⟨rfl, k⟩; exact ⟨rfl, k⟩)
      by_cases h4a : a = 4
      · subst h4a
        by_cases hb : 1 < b
        · rw [show liveR h s d g 4 b i u clock true = some (4, b - 1, i) from by simp [liveR, hb]]
          (refine (specLive_T4a c h c2 h2 v p s d g b i u v2 p2 s2 d2 g2 clock w hb hbb heq).mono ?_; rintro e w' ⟨rfl, k⟩; exact ⟨rfl, k⟩)
        · by_cases hb1 : b = 1
          · subst hb1
            by_cases hi : i < 1000
            · rw [show liveR h s d g 4 1 i u clock true = some (5, boff (i + 1), i + 1) from by simp [liveR, hi]]
              (refine (specLive_T4d c h c2 h2 v p s d g i u v2 p2 s2 d2 g2 clock w hi hii heq).mono ?_; rintro e w' ⟨rfl, k⟩; exact ⟨rfl, k⟩)
            · rw [show liveR h s d g 4 1 i u clock true = some (5, boff i, i) from by simp [liveR, hi]]
              (refine (specLive_T4e c h c2 h2 v p s d g i u v2 p2 s2 d2 g2 clock w (by omega) heq).mono ?_; rintro e w' ⟨rfl, k⟩; exact ⟨rfl, k⟩)
          · rw [show liveR h s d g 4 b i u clock true = some (4, b, i) from by simp [liveR, hb, hb1]]
            (refine (specLive_T4z c h c2 h2 v p s d g b i u v2 p2 s2 d2 g2 clock w (by omega) (by simpa using hb1) heq).mono ?_; rintro e w' ⟨rfl, k⟩; exact ⟨rfl, k⟩)
      have hoth : liveR h s d g a b i u clock true = if 1 < b then some (a, b - 1, i) else some (a, b, i) := by simp [liveR, h6, h2a, h1a, h5a, h3a, h4a]
      rw [hoth]
      by_cases hb : 1 < b
      · rw [if_pos hb]
        (refine (specLive_Oa c h c2 h2 v p s d g a b i u v2 p2 s2 d2 g2 clock w (by simpa using h1a) (by simpa using h2a) (by simpa using h2a) (by simpa using h3a) (by simpa using h4a) (by simpa using h5a) (by simpa using h6) (by simpa using h6) hb hbb heq).mono ?_; rintro e w' ⟨rfl, k⟩; exact ⟨rfl, k⟩)
      · rw [if_neg hb]
        (refine (specLive_Ob c h c2 h2 v p s d g a b i u v2 p2 s2 d2 g2 clock w (by simpa using h1a) (by simpa using h2a) (by simpa using h2a) (by simpa using h3a) (by simpa using h4a) (by simpa using h5a) (by simpa using h6) (by simpa using h6) (by omega) heq).mono ?_; rintro e w' ⟨rfl, k⟩; exact ⟨rfl, k⟩)
end Go.Proofs.Ytkebokkckmgloaa
/- What the reading of a want and of a run says of the cells. -/
namespace Go.Proofs.Ytkebokkckmgloaa
open Go.ChangeShapes Go.WideShapes Go.ChangeAt Go.RowKit

theorem cells_want : Try.prog.cellsOf 51 = 7 := by kernel_rfl
theorem cells_run : Try.prog.cellsOf 53 = 11 := by kernel_rfl
theorem cells_int : Try.prog.cellsOf 3 = 1 := by kernel_rfl
theorem cells_string : Try.prog.cellsOf 9 = 1 := by kernel_rfl

/-- A number that an int holds. -/
def I64 (n : Int) : Prop := -9223372036854775808 ≤ n ∧ n ≤ 9223372036854775807
theorem I64_of {n : Int} (h : (Lit.int .i64 n).wf = true) : I64 n := by
  simpa [Lit.wf, IntKind.min, IntKind.max, IntKind.signed, IntKind.bits, I64] using h

theorem some_of {α : Type} {l : List α} {n i : Nat} {x : Option α} (hl : l.length = n) (hi : i < n) (h : x = l[i]?) : ∃ y, x = some y := by
  subst hl; exact ⟨l[i], by rw [h]; exact List.getElem?_eq_getElem hi⟩

theorem list7 {α : Type} {l : List α} (h : l.length = 7) : ∃ a b c d e f g, l = [a, b, c, d, e, f, g] := by
  match l, h with
  | [a, b, c, d, e, f, g], _ => exact ⟨a, b, c, d, e, f, g, rfl⟩
theorem list11 {α : Type} {l : List α} (h : l.length = 11) : ∃ a b c d e f g h i j k, l = [a, b, c, d, e, f, g, h, i, j, k] := by
  match l, h with
  | [a, b, c, d, e, f, g, h, i, j, k], _ => exact ⟨a, b, c, d, e, f, g, h, i, j, k, rfl⟩

section
variable {H : Type} {enc : TypeId × Value → H} {W : World} {base : Nat} {spare : Nat → Bool} {held : Bool} {fuel : Nat} {cs : List Value} {x : DataW H × List MemPlace}

theorem read_want (hx : DataW.trod enc Try.prog W base spare held fuel 51 cs = some x) :
    ∃ (c : ByteArray) (v : Int) (h : ByteArray) (p s d g : Int), cs = [.string c, .int .i64 v, .string h, .int .i64 p, .int .i64 s, .int .i64 d, .int .i64 g] ∧ c.size ≤ maxLen ∧ h.size ≤ maxLen ∧ I64 v ∧ I64 p ∧ I64 s ∧ I64 d ∧ I64 g := by
  obtain ⟨xs, n, rfl, -, hl, hn, hf⟩ := DataW.trod_struct Try.underlying51 hx
  rw [cells_want] at hl
  obtain ⟨c0, c1, c2, c3, c4, c5, c6, rfl⟩ := list7 hl
  have hn' : xs.length = 7 := hn
  have f0 : DataW.trod enc Try.prog W base spare held n 9 (List.take (Try.prog.cellsOf 9) [c0, c1, c2, c3, c4, c5, c6]) = xs[0]? := hf 0 _ rfl
  have f1 : DataW.trod enc Try.prog W base spare held n 3 (List.take (Try.prog.cellsOf 3) [c1, c2, c3, c4, c5, c6]) = xs[1]? := hf 1 _ rfl
  have f2 : DataW.trod enc Try.prog W base spare held n 9 (List.take (Try.prog.cellsOf 9) [c2, c3, c4, c5, c6]) = xs[2]? := hf 2 _ rfl
  have f3 : DataW.trod enc Try.prog W base spare held n 3 (List.take (Try.prog.cellsOf 3) [c3, c4, c5, c6]) = xs[3]? := hf 3 _ rfl
  have f4 : DataW.trod enc Try.prog W base spare held n 3 (List.take (Try.prog.cellsOf 3) [c4, c5, c6]) = xs[4]? := hf 4 _ rfl
  have f5 : DataW.trod enc Try.prog W base spare held n 3 (List.take (Try.prog.cellsOf 3) [c5, c6]) = xs[5]? := hf 5 _ rfl
  have f6 : DataW.trod enc Try.prog W base spare held n 3 (List.take (Try.prog.cellsOf 3) [c6]) = xs[6]? := hf 6 _ rfl
  simp only [cells_int, cells_string, List.take_succ_cons, List.take_zero] at f0 f1 f2 f3 f4 f5 f6
  obtain ⟨y0, g0⟩ := some_of hn' (by decide) f0
  obtain ⟨y1, g1⟩ := some_of hn' (by decide) f1
  obtain ⟨y2, g2⟩ := some_of hn' (by decide) f2
  obtain ⟨y3, g3⟩ := some_of hn' (by decide) f3
  obtain ⟨y4, g4⟩ := some_of hn' (by decide) f4
  obtain ⟨y5, g5⟩ := some_of hn' (by decide) f5
  obtain ⟨y6, g6⟩ := some_of hn' (by decide) f6
  obtain ⟨c, e0, -, w0⟩ := DataW.trod_string Try.underlying9 g0
  obtain ⟨v, e1, -, w1⟩ := DataW.trod_int Try.underlying3 g1
  obtain ⟨h, e2, -, w2⟩ := DataW.trod_string Try.underlying9 g2
  obtain ⟨p, e3, -, w3⟩ := DataW.trod_int Try.underlying3 g3
  obtain ⟨s, e4, -, w4⟩ := DataW.trod_int Try.underlying3 g4
  obtain ⟨d, e5, -, w5⟩ := DataW.trod_int Try.underlying3 g5
  obtain ⟨g, e6, -, w6⟩ := DataW.trod_int Try.underlying3 g6
  simp only [List.cons.injEq, and_true] at e0 e1 e2 e3 e4 e5 e6
  subst e0 e1 e2 e3 e4 e5 e6
  exact ⟨c, v, h, p, s, d, g, rfl, w0, w2, I64_of w1, I64_of w3, I64_of w4, I64_of w5, I64_of w6⟩

theorem read_run (hx : DataW.trod enc Try.prog W base spare held fuel 53 cs = some x) :
    ∃ (c : ByteArray) (v : Int) (h : ByteArray) (p s d g a b i u : Int), cs = [.string c, .int .i64 v, .string h, .int .i64 p, .int .i64 s, .int .i64 d, .int .i64 g, .int .i64 a, .int .i64 b, .int .i64 i, .int .i64 u] ∧ c.size ≤ maxLen ∧ h.size ≤ maxLen ∧ I64 v ∧ I64 p ∧ I64 s ∧ I64 d ∧ I64 g ∧ I64 a ∧ I64 b ∧ I64 i ∧ I64 u := by
  obtain ⟨xs, n, rfl, -, hl, hn, hf⟩ := DataW.trod_struct Try.underlying53 hx
  rw [cells_run] at hl
  obtain ⟨c0, c1, c2, c3, c4, c5, c6, c7, c8, c9, c10, rfl⟩ := list11 hl
  have hn' : xs.length = 5 := hn
  have f0 : DataW.trod enc Try.prog W base spare held n 51 (List.take (Try.prog.cellsOf 51) [c0, c1, c2, c3, c4, c5, c6, c7, c8, c9, c10]) = xs[0]? := hf 0 _ rfl
  have f1 : DataW.trod enc Try.prog W base spare held n 3 (List.take (Try.prog.cellsOf 3) [c7, c8, c9, c10]) = xs[1]? := hf 1 _ rfl
  have f2 : DataW.trod enc Try.prog W base spare held n 3 (List.take (Try.prog.cellsOf 3) [c8, c9, c10]) = xs[2]? := hf 2 _ rfl
  have f3 : DataW.trod enc Try.prog W base spare held n 3 (List.take (Try.prog.cellsOf 3) [c9, c10]) = xs[3]? := hf 3 _ rfl
  have f4 : DataW.trod enc Try.prog W base spare held n 3 (List.take (Try.prog.cellsOf 3) [c10]) = xs[4]? := hf 4 _ rfl
  simp only [cells_int, cells_want, List.take_succ_cons, List.take_zero] at f0 f1 f2 f3 f4
  obtain ⟨y0, g0⟩ := some_of hn' (by decide) f0
  obtain ⟨y1, g1⟩ := some_of hn' (by decide) f1
  obtain ⟨y2, g2⟩ := some_of hn' (by decide) f2
  obtain ⟨y3, g3⟩ := some_of hn' (by decide) f3
  obtain ⟨y4, g4⟩ := some_of hn' (by decide) f4
  obtain ⟨c, v, h, p, s, d, g, e0, w0⟩ := read_want g0
  obtain ⟨a, e1, -, w1⟩ := DataW.trod_int Try.underlying3 g1
  obtain ⟨b, e2, -, w2⟩ := DataW.trod_int Try.underlying3 g2
  obtain ⟨i, e3, -, w3⟩ := DataW.trod_int Try.underlying3 g3
  obtain ⟨u, e4, -, w4⟩ := DataW.trod_int Try.underlying3 g4
  simp only [List.cons.injEq, and_true] at e0 e1 e2 e3 e4
  obtain ⟨e00, e01, e02, e03, e04, e05, e06⟩ := e0
  subst e00 e01 e02 e03 e04 e05 e06 e1 e2 e3 e4
  obtain ⟨k0, k1, k2, k3, k4, k5, k6⟩ := w0
  exact ⟨c, v, h, p, s, d, g, a, b, i, u, rfl, k0, k1, k2, k3, k4, k5, k6, I64_of w1, I64_of w2, I64_of w3, I64_of w4⟩
end
end Go.Proofs.Ytkebokkckmgloaa
