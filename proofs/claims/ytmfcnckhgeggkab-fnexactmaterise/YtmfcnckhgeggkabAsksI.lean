/- Asks that are ok: the program's side. -/
import Derived.Test.YtmfcnckhgeggkabAsksS
namespace Go.Proofs.Ytmfcnckhgeggkab.A
open Go.RowKit
set_option linter.unusedVariables false

set_option maxHeartbeats 1000000 in
theorem askOk_any (r : AskD) (clock : Int) (w : World) (hf1 : r.h.size ≤ maxLen) (hf2 : r.c.size ≤ maxLen) :
    Calls Try.prog 121 #[.agg #[.string r.h, .string r.c, .int .i64 r.f, .int .i64 r.t], .int .i64 clock] w fun e w' => e = .returned (.bool (askB clock r)) ∧ Below w.heap.size w w' := by
  cases q1 : holdB r.h
  · go_enter Try.func121, Try.ntmps121
    go_wp2_with (first | (go_at_call 122; refine (implHold_any r.h _ hf1).mono ?_; rintro e w' ⟨rfl, rfl⟩) | (go_at_call 92; refine (implName_any r.c _ hf2).mono ?_; rintro e w' ⟨rfl, rfl⟩) | (go_at_call 81; refine (within_any _ _ _ _).mono ?_; rintro e w' ⟨rfl, rfl⟩))
    go_ret
    exact ⟨ret_b (by simp [askB, *]), bl_alloc (Below.refl _ _) _⟩
  cases q2 : nameB r.c
  · go_enter Try.func121, Try.ntmps121
    go_wp2_with (first | (go_at_call 122; refine (implHold_any r.h _ hf1).mono ?_; rintro e w' ⟨rfl, rfl⟩) | (go_at_call 92; refine (implName_any r.c _ hf2).mono ?_; rintro e w' ⟨rfl, rfl⟩) | (go_at_call 81; refine (within_any _ _ _ _).mono ?_; rintro e w' ⟨rfl, rfl⟩))
    go_ret
    exact ⟨ret_b (by simp [askB, *]), bl_alloc (Below.refl _ _) _⟩
  cases q4 : inB r.f 0 r.t
  · go_enter Try.func121, Try.ntmps121
    go_wp2_with (first | (go_at_call 122; refine (implHold_any r.h _ hf1).mono ?_; rintro e w' ⟨rfl, rfl⟩) | (go_at_call 92; refine (implName_any r.c _ hf2).mono ?_; rintro e w' ⟨rfl, rfl⟩) | (go_at_call 81; refine (within_any _ _ _ _).mono ?_; rintro e w' ⟨rfl, rfl⟩))
    go_ret
    exact ⟨ret_b (by simp [askB, *]), bl_alloc (Below.refl _ _) _⟩
  cases q3 : inB r.t 0 clock
  · go_enter Try.func121, Try.ntmps121
    go_wp2_with (first | (go_at_call 122; refine (implHold_any r.h _ hf1).mono ?_; rintro e w' ⟨rfl, rfl⟩) | (go_at_call 92; refine (implName_any r.c _ hf2).mono ?_; rintro e w' ⟨rfl, rfl⟩) | (go_at_call 81; refine (within_any _ _ _ _).mono ?_; rintro e w' ⟨rfl, rfl⟩))
    go_ret
    exact ⟨ret_b (by simp [askB, *]), bl_alloc (Below.refl _ _) _⟩
  · go_enter Try.func121, Try.ntmps121
    go_wp2_with (first | (go_at_call 122; refine (implHold_any r.h _ hf1).mono ?_; rintro e w' ⟨rfl, rfl⟩) | (go_at_call 92; refine (implName_any r.c _ hf2).mono ?_; rintro e w' ⟨rfl, rfl⟩) | (go_at_call 81; refine (within_any _ _ _ _).mono ?_; rintro e w' ⟨rfl, rfl⟩))
    go_ret
    exact ⟨ret_b (by simp [askB, *]), bl_alloc (Below.refl _ _) _⟩
theorem closAsk (r : AskD) (clock : Int) (bk : Nat) (w : World) (hc : w.cell? ⟨bk, 0, none⟩ = some (.int .i64 clock)) (lk : bk < w.heap.size) (hf : r.fits) :
    Calls Try.prog 120 #[.agg #[.string r.h, .string r.c, .int .i64 r.f, .int .i64 r.t], .pointer (some ⟨bk, 0, none⟩)] w fun e w' => e = .returned (.bool (askB clock r)) ∧ Below w.heap.size w w' := by
  go_enter Try.func120, Try.ntmps120
  go_wp2_with (go_at_call 121; refine (askOk_any r clock _ hf.1 hf.2).mono ?_; rintro e w' ⟨rfl, hx⟩)
  go_ret
  exact ⟨rfl, bl_trans (bl_alloc (Below.refl _ _) _) hx⟩

set_option maxRecDepth 4000 in
set_option maxHeartbeats 1000000 in
theorem implAsksOk (b off cap : Nat) (rs : List AskD) (clock : Int) (w : World) (hR : RowsAt w b off rs) (l1 : b < w.heap.size) (hfit : ∀ r ∈ rs, r.fits) (hl : rs.length ≤ 1048576) :
    Calls Try.prog 94 #[.slice (some ⟨b, off, none⟩) rs.length cap, .int .i64 clock] w fun e w' => (∃ q : Bool, e = .returned (.bool q) ∧ SaysA q clock rs) ∧ Below w.heap.size w w' := by
  by_cases h40 : rs.length ≤ 40
  · have hi40 : (rs.length : Int) ≤ 40 := by omega
    go_enter Try.func94, Try.ntmps94
    go_wp2_with fail
    have hb0 : Below w.heap.size w (w.alloc (.cells #[.int .i64 clock] 3)) := bl_alloc (Below.refl _ _) _
    refine (ascends b off cap rs _ (hR.keep l1 hb0) (by simp; omega) hl).mono ?_
    rintro e w1 ⟨⟨q1, rfl, h1⟩, b1⟩
    have B1 := bl_trans hb0 b1
    have H0 : Hid _ := h1
    clear h1
    cases q1
    · clear hb0 b1
      go_wp2
      go_ret
      exact ⟨⟨false, rfl, ⟨fun h => (by cases h), fun h => by have := H0.out.2 h.2.1; cases this⟩⟩, B1⟩
    · have H1 : Hid _ := H0.out.1 rfl
      have hck : w1.cell? ⟨w.heap.size, 0, none⟩ = some (.int .i64 clock) := by rw [box_keep b1 0]; simp [go_sem]
      have lck : w.heap.size < w1.heap.size := by have := b1.size; simp at this; omega
      have Hck : Hid _ := hck
      clear hck hb0 b1
      go_wp2_with fail
      refine (allOk w.heap.size (askB clock) b off cap rs w1 (hR.keep l1 B1) (Nat.lt_of_lt_of_le l1 B1.size) hl (fun r hr x hx => closAsk r clock w.heap.size x ((hx.cell (p := ⟨w.heap.size, 0, none⟩) lck).trans Hck.out) (Nat.lt_of_lt_of_le lck hx.size) (hfit r hr))).mono ?_
      rintro e w2 ⟨⟨q2, rfl, h2⟩, b2⟩
      have B2 := bl_trans B1 b2
      have H2 : Hid _ := h2
      clear b2 h2
      go_wp2
      go_ret
      exact ⟨⟨q2, rfl, ⟨fun h => ⟨h40, H1.out, H2.out.1 h⟩, fun h => H2.out.2 h.2.2⟩⟩, B2⟩
  · have hi40 : (40 : Int) < (rs.length : Int) := by omega
    have H40 : Hid _ := h40
    clear h40
    go_enter Try.func94, Try.ntmps94
    go_wp2
    go_ret
    first
    | exact ⟨Or.inl ⟨rfl, ⟨fun h => (by cases h), fun h => absurd h.1 H40.out⟩⟩, bl_alloc (Below.refl _ _) _⟩
    | exact ⟨⟨false, rfl, ⟨fun h => (by cases h), fun h => absurd h.1 H40.out⟩⟩, bl_alloc (Below.refl _ _) _⟩
end Go.Proofs.Ytmfcnckhgeggkab.A
