import Derived.Test.YtkebokkckmgloaaJ01
import Derived.Deep.RegionHeld3
import Derived.Laws.Pointers
import Derived.StillTactics
import Derived.ProofKit
import Derived.OpenShut
import Derived.ChangeOld
/- A list of runs is marked. -/
namespace Go.Proofs.Ytkebokkckmgloaa
open Go.RowKit
set_option linter.unusedVariables false

def markRun (k : Int) : RunD := ⟨markB k, markB (k + 1 + 1), k + 1, k + 1 + 1 + 1, k + 1 + 1 + 1 + 1, k + 1 + 1 + 1 + 1 + 1, k + 1 + 1 + 1 + 1 + 1 + 1, k + 1 + 1 + 1 + 1 + 1 + 1 + 1, k + 1 + 1 + 1 + 1 + 1 + 1 + 1 + 1, k + 1 + 1 + 1 + 1 + 1 + 1 + 1 + 1 + 1, k + 1 + 1 + 1 + 1 + 1 + 1 + 1 + 1 + 1 + 1⟩
def markRuns (k : Int) (n : Nat) : List RunD := (List.range n).map (fun (i : Nat) => markRun (k + 11 * (i : Int)))

/-- The cells of a row that is to be written. -/
theorem row_cells {x : World} {g n k : Nat} (h : x.there g 0 (n * 11)) (hk : k < n) (j : Nat) (hj : j < 11) : (∃ v, x.cell? ⟨g, k * 11 + j, none⟩ = some v) ∧ x.frozen? ⟨g, k * 11 + j, none⟩ = false := by
  have h1 := h (k * 11 + j) (by omega)
  rw [Nat.zero_add] at h1
  exact ⟨Option.isSome_iff_exists.1 h1.1, h1.2⟩

theorem len_marks (k : Int) (n : Nat) : (markRuns k n).length = n := by simp [markRuns]
theorem rows_apart {x : World} {g : Nat} {rs : List RunD} (h : RowsAt x g 0 rs) (o : Nat) (hl : rs.length * 11 ≤ o) (vs : List Value) : RowsAt (x.setCells g o vs) g 0 rs :=
  fun j q hj => World.rangeAt_setCells_apart (h j q hj) g o vs (Or.inr (Or.inl (by
    have : j < rs.length := by
      rcases Nat.lt_or_ge j rs.length with h' | h'
      · exact h'
      · rw [List.getElem?_eq_none h'] at hj; cases hj
    show 0 + j * 11 + 11 ≤ o
    omega)))
theorem rows_snoc {x : World} {b m : Nat} {k0 kk : Int} (hk : kk = k0 + 11 * (m : Int)) (h : RowsAt x b 0 (markRuns k0 m)) (hr : x.rangeAt b (m * 11) (markRun kk).cells) : RowsAt x b 0 (markRuns k0 (m + 1)) := by
  intro j q hj
  rw [markRuns, List.range_succ, List.map_append] at hj
  rcases Nat.lt_or_ge j m with hl | hl
  · rw [List.getElem?_append_left (by simpa using hl)] at hj; exact h j q hj
  · rw [List.getElem?_append_right (by simpa using hl)] at hj
    by_cases e : j = m
    · subst e
      simp at hj
      subst hj
      rw [← hk, Nat.zero_add]
      exact hr
    · rw [List.getElem?_eq_none (by simp; omega)] at hj; cases hj

set_option maxRecDepth 4000 in
set_option maxHeartbeats 1000000 in
theorem markRunS (b n cap : Nat) (k0 : Int) (w : World) (hth : w.there b 0 (n * 11)) (hb : b < w.heap.size) (hn : n ≤ 1048576) (h0 : 0 ≤ k0) (h1 : k0 ≤ 1000000000) :
    Calls Try.prog 42 #[.slice (some ⟨b, 0, none⟩) n cap, .int .i64 k0] w fun e w' => e = .returned (.int .i64 (k0 + 11 * (n : Int))) ∧ RowsAt w' b 0 (markRuns k0 n) ∧ w'.there b 0 (n * 11) ∧ Ex b w w' := by
  go_enter Try.func42, Try.ntmps42
  go_wp2
  go_loopw [1, 5] (fun q i wx => ∃ (m : Nat) (kk : Int), m ≤ n ∧ i = .int .i64 m ∧ q = .int .i64 kk ∧ kk = k0 + 11 * (m : Int) ∧ RowsAt wx b 0 (markRuns k0 m) ∧ wx.there b 0 (n * 11) ∧ Ex b w wx) (fun _ i _ => n - (intOf i).toNat)
  case atStart => exact ⟨0, k0, Nat.zero_le _, rfl, rfl, by simp, fun k r h => by simp [markRuns] at h, hth, Ex.refl _ _⟩
  case round =>
    obtain ⟨m, kk, hm, rfl, rfl, hkk, hrows, ht, hE⟩ := hrel
    have Hk : Hid _ := hkk
    have k1 : 0 ≤ kk := by omega
    have k2 : kk ≤ 100000000000 := by omega
    clear hkk
    have bz : b < wr.heap.size := Nat.lt_of_lt_of_le hb hE.size
    by_cases hlt : m < n
    · go_wp2_with fail
      refine (markText_any kk (by omega) _).mono ?_
      rintro e w1 ⟨rfl, b1⟩
      have t1 := there_keep ht bz b1
      obtain ⟨⟨v0, c0⟩, f0⟩ := row_cells t1 hlt 0 (by omega)
      obtain ⟨⟨v1, c1⟩, f1⟩ := row_cells t1 hlt 1 (by omega)
      simp only [Nat.add_zero] at c0 f0
      go_wp2_with fail
      have W2 : World.setCells w1 b (m * 11) [.string (markB kk), .int .i64 (kk + 1)] = (w1.setCell { block := b, off := m * 11 } (Value.string (markB kk))).setCell { block := b, off := m * 11 + 1 } (Value.int IntKind.i64 (kk + 1)) := rfl
      have r1 : (World.setCells w1 b (m * 11) [.string (markB kk), .int .i64 (kk + 1)]).rangeAt b (m * 11) [.string (markB kk), .int .i64 (kk + 1)] := World.rangeAt_setCells_same w1 b (m * 11) _ (fun j hj => there_part t1 hlt j (by simp at hj; omega))
      have t2 := World.there_setCells t1 b (m * 11) [.string (markB kk), .int .i64 (kk + 1)]
      have e1 : Ex b w (World.setCells w1 b (m * 11) [.string (markB kk), .int .i64 (kk + 1)]) := (hE.trans (Ex.of_below b1)).cells _ _
      have q1 : RowsAt (World.setCells w1 b (m * 11) [.string (markB kk), .int .i64 (kk + 1)]) b 0 (markRuns k0 m) := rows_apart (hrows.keep bz b1) (m * 11) (by rw [len_marks]; omega) _
      have z1 : b < (World.setCells w1 b (m * 11) [.string (markB kk), .int .i64 (kk + 1)]).heap.size := Nat.lt_of_lt_of_le hb e1.size
      rw [W2] at r1 t2 e1 q1 z1
      clear W2 c0 c1 f0 f1 hrows ht hE t1 b1 bz
      refine (markText_any _ (by omega) _).mono ?_
      rintro e w2 ⟨rfl, b2⟩
      have r2 := range_keep r1 z1 b2
      have t3 := there_keep t2 z1 b2
      have q2 := q1.keep z1 b2
      have e2 := e1.trans (Ex.of_below b2)
      clear r1 t2 q1 e1 b2 z1
      obtain ⟨⟨v2, c2⟩, f2⟩ := row_cells t3 hlt 2 (by omega)
      obtain ⟨⟨v3, c3⟩, f3⟩ := row_cells t3 hlt 3 (by omega)
      obtain ⟨⟨v4, c4⟩, f4⟩ := row_cells t3 hlt 4 (by omega)
      obtain ⟨⟨v5, c5⟩, f5⟩ := row_cells t3 hlt 5 (by omega)
      obtain ⟨⟨v6, c6⟩, f6⟩ := row_cells t3 hlt 6 (by omega)
      obtain ⟨⟨v7, c7⟩, f7⟩ := row_cells t3 hlt 7 (by omega)
      obtain ⟨⟨v8, c8⟩, f8⟩ := row_cells t3 hlt 8 (by omega)
      obtain ⟨⟨v9, c9⟩, f9⟩ := row_cells t3 hlt 9 (by omega)
      obtain ⟨⟨v10, c10⟩, f10⟩ := row_cells t3 hlt 10 (by omega)
      have T3 : Hid _ := t3
      have R2 : Hid _ := r2
      have Q2 : Hid _ := q2
      have E2 : Hid _ := e2
      clear t3 r2 q2 e2
      go_wp2
      have t3 := T3.out
      have r2 := R2.out
      have q2 := Q2.out
      have e2 := E2.out
      have t4 := World.there_setCells t3 b (m * 11 + 2) [.string (markB (kk + 1 + 1)), .int .i64 (kk + 1 + 1 + 1), .int .i64 (kk + 1 + 1 + 1 + 1), .int .i64 (kk + 1 + 1 + 1 + 1 + 1), .int .i64 (kk + 1 + 1 + 1 + 1 + 1 + 1), .int .i64 (kk + 1 + 1 + 1 + 1 + 1 + 1 + 1), .int .i64 (kk + 1 + 1 + 1 + 1 + 1 + 1 + 1 + 1), .int .i64 (kk + 1 + 1 + 1 + 1 + 1 + 1 + 1 + 1 + 1), .int .i64 (kk + 1 + 1 + 1 + 1 + 1 + 1 + 1 + 1 + 1 + 1)]
      have r3 : (World.setCells w2 b (m * 11 + 2) [.string (markB (kk + 1 + 1)), .int .i64 (kk + 1 + 1 + 1), .int .i64 (kk + 1 + 1 + 1 + 1), .int .i64 (kk + 1 + 1 + 1 + 1 + 1), .int .i64 (kk + 1 + 1 + 1 + 1 + 1 + 1), .int .i64 (kk + 1 + 1 + 1 + 1 + 1 + 1 + 1), .int .i64 (kk + 1 + 1 + 1 + 1 + 1 + 1 + 1 + 1), .int .i64 (kk + 1 + 1 + 1 + 1 + 1 + 1 + 1 + 1 + 1), .int .i64 (kk + 1 + 1 + 1 + 1 + 1 + 1 + 1 + 1 + 1 + 1)]).rangeAt b (m * 11 + 2) [.string (markB (kk + 1 + 1)), .int .i64 (kk + 1 + 1 + 1), .int .i64 (kk + 1 + 1 + 1 + 1), .int .i64 (kk + 1 + 1 + 1 + 1 + 1), .int .i64 (kk + 1 + 1 + 1 + 1 + 1 + 1), .int .i64 (kk + 1 + 1 + 1 + 1 + 1 + 1 + 1), .int .i64 (kk + 1 + 1 + 1 + 1 + 1 + 1 + 1 + 1), .int .i64 (kk + 1 + 1 + 1 + 1 + 1 + 1 + 1 + 1 + 1), .int .i64 (kk + 1 + 1 + 1 + 1 + 1 + 1 + 1 + 1 + 1 + 1)] := World.rangeAt_setCells_same w2 b (m * 11 + 2) _ (fun j hj => by have := there_part t3 hlt (j + 2) (by simp at hj; omega); rwa [show m * 11 + (j + 2) = m * 11 + 2 + j from by omega] at this)
      have r4 := World.rangeAt_setCells_apart r2 b (m * 11 + 2) [.string (markB (kk + 1 + 1)), .int .i64 (kk + 1 + 1 + 1), .int .i64 (kk + 1 + 1 + 1 + 1), .int .i64 (kk + 1 + 1 + 1 + 1 + 1), .int .i64 (kk + 1 + 1 + 1 + 1 + 1 + 1), .int .i64 (kk + 1 + 1 + 1 + 1 + 1 + 1 + 1), .int .i64 (kk + 1 + 1 + 1 + 1 + 1 + 1 + 1 + 1), .int .i64 (kk + 1 + 1 + 1 + 1 + 1 + 1 + 1 + 1 + 1), .int .i64 (kk + 1 + 1 + 1 + 1 + 1 + 1 + 1 + 1 + 1 + 1)] (Or.inr (Or.inl (by simp)))
      have q3 : RowsAt (World.setCells w2 b (m * 11 + 2) [.string (markB (kk + 1 + 1)), .int .i64 (kk + 1 + 1 + 1), .int .i64 (kk + 1 + 1 + 1 + 1), .int .i64 (kk + 1 + 1 + 1 + 1 + 1), .int .i64 (kk + 1 + 1 + 1 + 1 + 1 + 1), .int .i64 (kk + 1 + 1 + 1 + 1 + 1 + 1 + 1), .int .i64 (kk + 1 + 1 + 1 + 1 + 1 + 1 + 1 + 1), .int .i64 (kk + 1 + 1 + 1 + 1 + 1 + 1 + 1 + 1 + 1), .int .i64 (kk + 1 + 1 + 1 + 1 + 1 + 1 + 1 + 1 + 1 + 1)]) b 0 (markRuns k0 m) := rows_apart q2 (m * 11 + 2) (by rw [len_marks]; omega) _
      have r5 : (World.setCells w2 b (m * 11 + 2) [.string (markB (kk + 1 + 1)), .int .i64 (kk + 1 + 1 + 1), .int .i64 (kk + 1 + 1 + 1 + 1), .int .i64 (kk + 1 + 1 + 1 + 1 + 1), .int .i64 (kk + 1 + 1 + 1 + 1 + 1 + 1), .int .i64 (kk + 1 + 1 + 1 + 1 + 1 + 1 + 1), .int .i64 (kk + 1 + 1 + 1 + 1 + 1 + 1 + 1 + 1), .int .i64 (kk + 1 + 1 + 1 + 1 + 1 + 1 + 1 + 1 + 1), .int .i64 (kk + 1 + 1 + 1 + 1 + 1 + 1 + 1 + 1 + 1 + 1)]).rangeAt b (m * 11) (markRun kk).cells := range_append r4 r3
      have q4 := rows_snoc Hk.out q3 r5
      have e3 : Ex b w (World.setCells w2 b (m * 11 + 2) [.string (markB (kk + 1 + 1)), .int .i64 (kk + 1 + 1 + 1), .int .i64 (kk + 1 + 1 + 1 + 1), .int .i64 (kk + 1 + 1 + 1 + 1 + 1), .int .i64 (kk + 1 + 1 + 1 + 1 + 1 + 1), .int .i64 (kk + 1 + 1 + 1 + 1 + 1 + 1 + 1), .int .i64 (kk + 1 + 1 + 1 + 1 + 1 + 1 + 1 + 1), .int .i64 (kk + 1 + 1 + 1 + 1 + 1 + 1 + 1 + 1 + 1), .int .i64 (kk + 1 + 1 + 1 + 1 + 1 + 1 + 1 + 1 + 1 + 1)]) := e2.cells _ _
      clear r5 r4 r3 q3 r2 q2 e2 t3
      have W3 : World.setCells w2 b (m * 11 + 2) [.string (markB (kk + 1 + 1)), .int .i64 (kk + 1 + 1 + 1), .int .i64 (kk + 1 + 1 + 1 + 1), .int .i64 (kk + 1 + 1 + 1 + 1 + 1), .int .i64 (kk + 1 + 1 + 1 + 1 + 1 + 1), .int .i64 (kk + 1 + 1 + 1 + 1 + 1 + 1 + 1), .int .i64 (kk + 1 + 1 + 1 + 1 + 1 + 1 + 1 + 1), .int .i64 (kk + 1 + 1 + 1 + 1 + 1 + 1 + 1 + 1 + 1), .int .i64 (kk + 1 + 1 + 1 + 1 + 1 + 1 + 1 + 1 + 1 + 1)] = ((((((((w2.setCell { block := b, off := m * 11 + 2 } (.string (markB (kk + 1 + 1)))).setCell { block := b, off := m * 11 + 3 } (.int .i64 (kk + 1 + 1 + 1))).setCell { block := b, off := m * 11 + 4 } (.int .i64 (kk + 1 + 1 + 1 + 1))).setCell { block := b, off := m * 11 + 5 } (.int .i64 (kk + 1 + 1 + 1 + 1 + 1))).setCell { block := b, off := m * 11 + 6 } (.int .i64 (kk + 1 + 1 + 1 + 1 + 1 + 1))).setCell { block := b, off := m * 11 + 7 } (.int .i64 (kk + 1 + 1 + 1 + 1 + 1 + 1 + 1))).setCell { block := b, off := m * 11 + 8 } (.int .i64 (kk + 1 + 1 + 1 + 1 + 1 + 1 + 1 + 1))).setCell { block := b, off := m * 11 + 9 } (.int .i64 (kk + 1 + 1 + 1 + 1 + 1 + 1 + 1 + 1 + 1))).setCell { block := b, off := m * 11 + 10 } (.int .i64 (kk + 1 + 1 + 1 + 1 + 1 + 1 + 1 + 1 + 1 + 1)) := rfl
      rw [W3] at q4 t4 e3
      clear W3
      exact ⟨⟨m + 1, _, by omega, by go_num, rfl, by have := Hk.out; omega, q4, t4, e3⟩, by simp [intOf]; omega⟩
    · go_wp2
      go_ret
      have hmn : m = n := by omega
      subst hmn
      exact ⟨by rw [← Hk.out]; rfl, hrows, ht, hE⟩
end Go.Proofs.Ytkebokkckmgloaa
/- A list of marked runs is told to be held. -/
namespace Go.Proofs.Ytkebokkckmgloaa
open Go.RowKit
set_option linter.unusedVariables false

theorem marks_at (k0 kk : Int) (n m : Nat) (hm : m < n) (hk : kk = k0 + 11 * (m : Int)) : (markRuns k0 n)[m]? = some (markRun kk) := by
  subst hk; simp [markRuns, List.getElem?_range hm]
theorem heldK {x w' : World} {b m : Nat} {kk : Int} {rs : List RunD} (hk : rs[m]? = some (markRun kk)) (h1 : RowsAt x b 0 rs) (l1 : b < x.heap.size) (hb : Below x.heap.size x w') :
    Below x.heap.size x w' ∧ (w'.cell? ⟨b, m * 11, none⟩ = some (.string (markB kk)) ∧ w'.cell? ⟨b, m * 11 + 1, none⟩ = some (.int .i64 (kk + 1)) ∧ w'.cell? ⟨b, m * 11 + 2, none⟩ = some (.string (markB (kk + 1 + 1))) ∧ w'.cell? ⟨b, m * 11 + 3, none⟩ = some (.int .i64 (kk + 1 + 1 + 1)) ∧ w'.cell? ⟨b, m * 11 + 4, none⟩ = some (.int .i64 (kk + 1 + 1 + 1 + 1)) ∧ w'.cell? ⟨b, m * 11 + 5, none⟩ = some (.int .i64 (kk + 1 + 1 + 1 + 1 + 1)) ∧ w'.cell? ⟨b, m * 11 + 6, none⟩ = some (.int .i64 (kk + 1 + 1 + 1 + 1 + 1 + 1)) ∧ w'.cell? ⟨b, m * 11 + 7, none⟩ = some (.int .i64 (kk + 1 + 1 + 1 + 1 + 1 + 1 + 1)) ∧ w'.cell? ⟨b, m * 11 + 8, none⟩ = some (.int .i64 (kk + 1 + 1 + 1 + 1 + 1 + 1 + 1 + 1)) ∧ w'.cell? ⟨b, m * 11 + 9, none⟩ = some (.int .i64 (kk + 1 + 1 + 1 + 1 + 1 + 1 + 1 + 1 + 1)) ∧ w'.cell? ⟨b, m * 11 + 10, none⟩ = some (.int .i64 (kk + 1 + 1 + 1 + 1 + 1 + 1 + 1 + 1 + 1 + 1))) := by
  have := (h1.keep l1 hb).at hk
  rw [Nat.zero_add] at this
  exact ⟨hb, this⟩

set_option maxRecDepth 4000 in
set_option maxHeartbeats 2000000 in
theorem heldRunS (b n cap : Nat) (k0 : Int) (w : World) (hR : RowsAt w b 0 (markRuns k0 n)) (hb : b < w.heap.size) (hn : n ≤ 1048576) (h0 : 0 ≤ k0) (h1 : k0 ≤ 1000000000) :
    Calls Try.prog 43 #[.slice (some ⟨b, 0, none⟩) n cap, .int .i64 k0] w fun e w' => e = .returned (.int .i64 (k0 + 11 * (n : Int))) ∧ Below w.heap.size w w' := by
  go_enter Try.func43, Try.ntmps43
  go_wp2
  go_loopw [1, 5] (fun q i wx => ∃ (m : Nat) (kk : Int), m ≤ n ∧ i = .int .i64 m ∧ q = .int .i64 kk ∧ kk = k0 + 11 * (m : Int) ∧ Below w.heap.size w wx) (fun _ i _ => n - (intOf i).toNat)
  case atStart => exact ⟨0, k0, Nat.zero_le _, rfl, rfl, by simp, Below.refl _ _⟩
  case round =>
    obtain ⟨m, kk, hm, rfl, rfl, hkk, hB⟩ := hrel
    have Hk : Hid _ := hkk
    have k1 : 0 ≤ kk := by omega
    have k2 : kk ≤ 100000000000 := by omega
    clear hkk
    have bz : b < wr.heap.size := Nat.lt_of_lt_of_le hb hB.size
    by_cases hlt : m < n
    · have Hr : Hid _ := marks_at k0 kk n m hlt Hk.out
      have g1 := hR.keep hb hB
      have i0 : (0 : Int) ≤ (m : Int) := by omega
      have i1 : (m : Int) < (n : Int) := by omega
      go_wp2_with fail
      go_region_held3 (fun w' => Below wr.heap.size wr w' ∧ (w'.cell? ⟨b, m * 11, none⟩ = some (.string (markB kk)) ∧ w'.cell? ⟨b, m * 11 + 1, none⟩ = some (.int .i64 (kk + 1)) ∧ w'.cell? ⟨b, m * 11 + 2, none⟩ = some (.string (markB (kk + 1 + 1))) ∧ w'.cell? ⟨b, m * 11 + 3, none⟩ = some (.int .i64 (kk + 1 + 1 + 1)) ∧ w'.cell? ⟨b, m * 11 + 4, none⟩ = some (.int .i64 (kk + 1 + 1 + 1 + 1)) ∧ w'.cell? ⟨b, m * 11 + 5, none⟩ = some (.int .i64 (kk + 1 + 1 + 1 + 1 + 1)) ∧ w'.cell? ⟨b, m * 11 + 6, none⟩ = some (.int .i64 (kk + 1 + 1 + 1 + 1 + 1 + 1)) ∧ w'.cell? ⟨b, m * 11 + 7, none⟩ = some (.int .i64 (kk + 1 + 1 + 1 + 1 + 1 + 1 + 1)) ∧ w'.cell? ⟨b, m * 11 + 8, none⟩ = some (.int .i64 (kk + 1 + 1 + 1 + 1 + 1 + 1 + 1 + 1)) ∧ w'.cell? ⟨b, m * 11 + 9, none⟩ = some (.int .i64 (kk + 1 + 1 + 1 + 1 + 1 + 1 + 1 + 1 + 1)) ∧ w'.cell? ⟨b, m * 11 + 10, none⟩ = some (.int .i64 (kk + 1 + 1 + 1 + 1 + 1 + 1 + 1 + 1 + 1 + 1))))
        (first | exact heldK Hr.out g1 bz (bl_drew (Below.refl _ _)) | exact heldK Hr.out g1 bz (bl_trans (bl_drew (Below.refl _ _)) hx))
        (first | (go_at_call 100; refine (markText_any _ (by omega) _).mono ?_; rintro e w' ⟨rfl, hx⟩))
      have y1 : Below wr.heap.size wr w' := bl_trans (bl_drew (Below.refl _ _)) hx
      have g2 := g1.keep bz y1
      have bz2 : b < w'.heap.size := Nat.lt_of_lt_of_le bz y1.size
      have hB2 := bl_trans hB y1
      obtain ⟨c0, c1, -⟩ := (heldK Hr.out g1 bz y1).2
      clear g1 bz hB y1 hx
      obtain ⟨w2, rfl⟩ : ∃ w2 : World, w2 = w' := ⟨_, rfl⟩
      go_wp2_with fail
      clear c0 c1
      go_region_held3 (fun w' => Below w2.heap.size w2 w' ∧ (w'.cell? ⟨b, m * 11, none⟩ = some (.string (markB kk)) ∧ w'.cell? ⟨b, m * 11 + 1, none⟩ = some (.int .i64 (kk + 1)) ∧ w'.cell? ⟨b, m * 11 + 2, none⟩ = some (.string (markB (kk + 1 + 1))) ∧ w'.cell? ⟨b, m * 11 + 3, none⟩ = some (.int .i64 (kk + 1 + 1 + 1)) ∧ w'.cell? ⟨b, m * 11 + 4, none⟩ = some (.int .i64 (kk + 1 + 1 + 1 + 1)) ∧ w'.cell? ⟨b, m * 11 + 5, none⟩ = some (.int .i64 (kk + 1 + 1 + 1 + 1 + 1)) ∧ w'.cell? ⟨b, m * 11 + 6, none⟩ = some (.int .i64 (kk + 1 + 1 + 1 + 1 + 1 + 1)) ∧ w'.cell? ⟨b, m * 11 + 7, none⟩ = some (.int .i64 (kk + 1 + 1 + 1 + 1 + 1 + 1 + 1)) ∧ w'.cell? ⟨b, m * 11 + 8, none⟩ = some (.int .i64 (kk + 1 + 1 + 1 + 1 + 1 + 1 + 1 + 1)) ∧ w'.cell? ⟨b, m * 11 + 9, none⟩ = some (.int .i64 (kk + 1 + 1 + 1 + 1 + 1 + 1 + 1 + 1 + 1)) ∧ w'.cell? ⟨b, m * 11 + 10, none⟩ = some (.int .i64 (kk + 1 + 1 + 1 + 1 + 1 + 1 + 1 + 1 + 1 + 1))))
        (first | exact heldK Hr.out g2 bz2 (bl_drew (Below.refl _ _)) | exact heldK Hr.out g2 bz2 (bl_trans (bl_drew (Below.refl _ _)) hx))
        (first | (go_at_call 100; refine (markText_any _ (by omega) _).mono ?_; rintro e w' ⟨rfl, hx⟩))
      have y2 : Below w2.heap.size w2 w' := bl_trans (bl_drew (Below.refl _ _)) hx
      have hB3 := bl_trans hB2 y2
      obtain ⟨c0, c1, c2, c3, c4, c5, c6, c7, c8, c9, c10⟩ := (heldK Hr.out g2 bz2 y2).2
      clear g2 bz2 hB2 y2 hx
      go_wp2
      exact ⟨⟨m + 1, _, by omega, by go_num, rfl, by have := Hk.out; omega, hB3⟩, by simp [intOf]; omega⟩
    · go_wp2
      go_ret
      have hmn : m = n := by omega
      subst hmn
      exact ⟨by rw [← Hk.out]; rfl, hB⟩
end Go.Proofs.Ytkebokkckmgloaa
/- Equal wants and runs are told to be equal. -/
namespace Go.Proofs.Ytkebokkckmgloaa
open Go.RowKit

theorem eqWant_same (c h : ByteArray) (v p s d g : Int) (w : World) :
    Calls Try.prog 91 #[.agg #[.string c, .int .i64 v, .string h, .int .i64 p, .int .i64 s, .int .i64 d, .int .i64 g], .agg #[.string c, .int .i64 v, .string h, .int .i64 p, .int .i64 s, .int .i64 d, .int .i64 g]] w fun e w' => e = .returned (.bool true) ∧
      w' = (w.alloc (.cells #[.string c, .int .i64 v, .string h, .int .i64 p, .int .i64 s, .int .i64 d, .int .i64 g] 36)).alloc (.cells #[.string c, .int .i64 v, .string h, .int .i64 p, .int .i64 s, .int .i64 d, .int .i64 g] 36) := by
  go_enter Try.func91, Try.ntmps91
  go_wp2
  go_ret
  exact ⟨rfl, rfl⟩

end Go.Proofs.Ytkebokkckmgloaa
/- Equal wants and runs are told to be equal. -/
namespace Go.Proofs.Ytkebokkckmgloaa
open Go.RowKit

theorem eqRun_same (c h : ByteArray) (v p s d g a b i u : Int) (w : World) :
    Calls Try.prog 46 #[.agg #[.string c, .int .i64 v, .string h, .int .i64 p, .int .i64 s, .int .i64 d, .int .i64 g, .int .i64 a, .int .i64 b, .int .i64 i, .int .i64 u], .agg #[.string c, .int .i64 v, .string h, .int .i64 p, .int .i64 s, .int .i64 d, .int .i64 g, .int .i64 a, .int .i64 b, .int .i64 i, .int .i64 u]] w fun e w' => e = .returned (.bool true) ∧ Below w.heap.size w w' := by
  go_enter Try.func46, Try.ntmps46
  go_wp2_with (first | (go_at_call 91; refine (eqWant_same c h v p s d g _).mono ?_; rintro e w' ⟨rfl, rfl⟩))
  go_ret
  exact ⟨rfl, by repeat (first | exact Below.refl _ _ | refine bl_alloc ?_ _ | refine bl_drew ?_)⟩
end Go.Proofs.Ytkebokkckmgloaa
/- Two lists of the same runs are told to be equal. -/
namespace Go.Proofs.Ytkebokkckmgloaa
open Go.RowKit
set_option linter.unusedVariables false

theorem keepR {x w' : World} {b1 o1 b2 o2 k : Nat} {rs : List RunD} {r : RunD} (hk : rs[k]? = some r) (h1 : RowsAt x b1 o1 rs) (h2 : RowsAt x b2 o2 rs) (l1 : b1 < x.heap.size) (l2 : b2 < x.heap.size) (hb : Below x.heap.size x w') :
    Below x.heap.size x w' ∧ (w'.cell? ⟨b1, o1 + k * 11, none⟩ = some (.string r.c) ∧ w'.cell? ⟨b1, o1 + k * 11 + 1, none⟩ = some (.int .i64 r.v) ∧ w'.cell? ⟨b1, o1 + k * 11 + 2, none⟩ = some (.string r.h) ∧ w'.cell? ⟨b1, o1 + k * 11 + 3, none⟩ = some (.int .i64 r.p) ∧ w'.cell? ⟨b1, o1 + k * 11 + 4, none⟩ = some (.int .i64 r.s) ∧ w'.cell? ⟨b1, o1 + k * 11 + 5, none⟩ = some (.int .i64 r.d) ∧ w'.cell? ⟨b1, o1 + k * 11 + 6, none⟩ = some (.int .i64 r.g) ∧ w'.cell? ⟨b1, o1 + k * 11 + 7, none⟩ = some (.int .i64 r.a) ∧ w'.cell? ⟨b1, o1 + k * 11 + 8, none⟩ = some (.int .i64 r.b) ∧ w'.cell? ⟨b1, o1 + k * 11 + 9, none⟩ = some (.int .i64 r.i) ∧ w'.cell? ⟨b1, o1 + k * 11 + 10, none⟩ = some (.int .i64 r.u)) ∧ (w'.cell? ⟨b2, o2 + k * 11, none⟩ = some (.string r.c) ∧ w'.cell? ⟨b2, o2 + k * 11 + 1, none⟩ = some (.int .i64 r.v) ∧ w'.cell? ⟨b2, o2 + k * 11 + 2, none⟩ = some (.string r.h) ∧ w'.cell? ⟨b2, o2 + k * 11 + 3, none⟩ = some (.int .i64 r.p) ∧ w'.cell? ⟨b2, o2 + k * 11 + 4, none⟩ = some (.int .i64 r.s) ∧ w'.cell? ⟨b2, o2 + k * 11 + 5, none⟩ = some (.int .i64 r.d) ∧ w'.cell? ⟨b2, o2 + k * 11 + 6, none⟩ = some (.int .i64 r.g) ∧ w'.cell? ⟨b2, o2 + k * 11 + 7, none⟩ = some (.int .i64 r.a) ∧ w'.cell? ⟨b2, o2 + k * 11 + 8, none⟩ = some (.int .i64 r.b) ∧ w'.cell? ⟨b2, o2 + k * 11 + 9, none⟩ = some (.int .i64 r.i) ∧ w'.cell? ⟨b2, o2 + k * 11 + 10, none⟩ = some (.int .i64 r.u)) :=
  ⟨hb, (h1.keep l1 hb).at hk, (h2.keep l2 hb).at hk⟩

set_option maxHeartbeats 1000000 in
theorem eqRunS (b1 o1 n1 b2 o2 n2 : Nat) (rs : List RunD) (w : World) (h1 : RowsAt w b1 o1 rs) (h2 : RowsAt w b2 o2 rs) (l1 : b1 < w.heap.size) (l2 : b2 < w.heap.size) (hl : rs.length ≤ 1048576) :
    Calls Try.prog 39 #[.slice (some ⟨b1, o1, none⟩) rs.length n1, .slice (some ⟨b2, o2, none⟩) rs.length n2] w fun e w' => e = .returned (.bool true) ∧ Below w.heap.size w w' := by
  go_enter Try.func39, Try.ntmps39
  go_wp2
  go_loopw [5] (fun i wx => ∃ (k : Nat), k ≤ rs.length ∧ i = .int .i64 k ∧ Below w.heap.size w wx) (fun i _ => rs.length - (intOf i).toNat)
  case atStart => exact ⟨0, Nat.zero_le _, rfl, Below.refl _ _⟩
  case round =>
    obtain ⟨k, hk, rfl, hB⟩ := hrel
    by_cases hlt : k < rs.length
    · obtain ⟨r, hr⟩ : ∃ r, rs[k]? = some r := ⟨rs[k], List.getElem?_eq_getElem hlt⟩
      have Hr : Hid _ := hr
      clear hr
      have g1 := h1.keep l1 hB
      have g2 := h2.keep l2 hB
      have z1 : b1 < wr.heap.size := Nat.lt_of_lt_of_le l1 hB.size
      have z2 : b2 < wr.heap.size := Nat.lt_of_lt_of_le l2 hB.size
      have i0 : (0 : Int) ≤ (k : Int) := by omega
      have i1 : (k : Int) < (rs.length : Int) := by omega
      go_wp2_with fail
      go_region_held3 (fun w' => Below wr.heap.size wr w' ∧ (w'.cell? ⟨b1, o1 + k * 11, none⟩ = some (.string r.c) ∧ w'.cell? ⟨b1, o1 + k * 11 + 1, none⟩ = some (.int .i64 r.v) ∧ w'.cell? ⟨b1, o1 + k * 11 + 2, none⟩ = some (.string r.h) ∧ w'.cell? ⟨b1, o1 + k * 11 + 3, none⟩ = some (.int .i64 r.p) ∧ w'.cell? ⟨b1, o1 + k * 11 + 4, none⟩ = some (.int .i64 r.s) ∧ w'.cell? ⟨b1, o1 + k * 11 + 5, none⟩ = some (.int .i64 r.d) ∧ w'.cell? ⟨b1, o1 + k * 11 + 6, none⟩ = some (.int .i64 r.g) ∧ w'.cell? ⟨b1, o1 + k * 11 + 7, none⟩ = some (.int .i64 r.a) ∧ w'.cell? ⟨b1, o1 + k * 11 + 8, none⟩ = some (.int .i64 r.b) ∧ w'.cell? ⟨b1, o1 + k * 11 + 9, none⟩ = some (.int .i64 r.i) ∧ w'.cell? ⟨b1, o1 + k * 11 + 10, none⟩ = some (.int .i64 r.u)) ∧ (w'.cell? ⟨b2, o2 + k * 11, none⟩ = some (.string r.c) ∧ w'.cell? ⟨b2, o2 + k * 11 + 1, none⟩ = some (.int .i64 r.v) ∧ w'.cell? ⟨b2, o2 + k * 11 + 2, none⟩ = some (.string r.h) ∧ w'.cell? ⟨b2, o2 + k * 11 + 3, none⟩ = some (.int .i64 r.p) ∧ w'.cell? ⟨b2, o2 + k * 11 + 4, none⟩ = some (.int .i64 r.s) ∧ w'.cell? ⟨b2, o2 + k * 11 + 5, none⟩ = some (.int .i64 r.d) ∧ w'.cell? ⟨b2, o2 + k * 11 + 6, none⟩ = some (.int .i64 r.g) ∧ w'.cell? ⟨b2, o2 + k * 11 + 7, none⟩ = some (.int .i64 r.a) ∧ w'.cell? ⟨b2, o2 + k * 11 + 8, none⟩ = some (.int .i64 r.b) ∧ w'.cell? ⟨b2, o2 + k * 11 + 9, none⟩ = some (.int .i64 r.i) ∧ w'.cell? ⟨b2, o2 + k * 11 + 10, none⟩ = some (.int .i64 r.u)))
        (first | exact keepR Hr.out g1 g2 z1 z2 (bl_drew (Below.refl _ _)) | exact keepR Hr.out g1 g2 z1 z2 (bl_trans (bl_drew (Below.refl _ _)) hb))
        (first | (go_at_call 46; refine (eqRun_same r.c r.h r.v r.p r.s r.d r.g r.a r.b r.i r.u _).mono ?_; rintro e w' ⟨rfl, hb⟩))
      go_wp2
      exact ⟨⟨k + 1, by omega, by go_num, bl_trans hB (bl_trans (bl_drew (Below.refl _ _)) hb)⟩, by simp [intOf]; omega⟩
    · go_wp2
      go_ret
      exact ⟨rfl, hB⟩
end Go.Proofs.Ytkebokkckmgloaa
/- FnExactMateWatchdog: the law's walk. -/
namespace Go.Proofs.Ytkebokkckmgloaa
open Go.RowKit
set_option linter.unusedVariables false

theorem eqRunS_n (n : Nat) (b1 n1 b2 n2 : Nat) (rs : List RunD) (w : World) (hn : rs.length = n) (h1 : RowsAt w b1 0 rs) (h2 : RowsAt w b2 0 rs) (l1 : b1 < w.heap.size) (l2 : b2 < w.heap.size) (hl : n ≤ 1048576) :
    Calls Try.prog 39 #[.slice (some ⟨b1, 0, none⟩) n n1, .slice (some ⟨b2, 0, none⟩) n n2] w fun e w' => e = .returned (.bool true) ∧ Below w.heap.size w w' := by
  subst hn; exact eqRunS b1 0 n1 b2 0 n2 rs w h1 h2 l1 l2 hl

set_option maxHeartbeats 2000000 in
theorem lawWatch (v : Value) (rs : List RunD) (clock : Int) (w : World)
    (hSz : Calls Try.prog 35 #[v, .int .i64 1048576] w fun e w' => (e = .returned (.int .i64 (-1)) ∨ ∃ m : Int, e = .returned (.int .i64 m) ∧ 0 ≤ m ∧ rs.length ≤ 1048576) ∧ Below w.heap.size w w')
    (hTo : rs.length ≤ 1048576 → ∀ x, Below w.heap.size w x → Calls Try.prog 37 #[v] x fun e x' => e = .returned (.slice (some ⟨x.heap.size, 0, none⟩) rs.length rs.length) ∧ RowsAt x' x.heap.size 0 rs ∧ x'.there x.heap.size 0 (rs.length * 11) ∧ x.heap.size < x'.heap.size ∧ Below x.heap.size x x') :
    Calls Try.prog 8 #[v, .int .i64 clock] w fun e w' => e = .returned (.bool true) ∧ Below w.heap.size w w' := by
  have hlen : (rs.map (watchD clock)).length = rs.length := List.length_map _
  obtain ⟨n, hn⟩ : ∃ n, n = rs.length := ⟨_, rfl⟩
  rw [← hn] at hSz hTo hlen
  have Hn : Hid (rs.length = n) := hn.symm
  have Hlen : Hid _ := hlen
  clear hlen hn
  go_enter Try.func8, Try.ntmps8
  go_wp2_with fail
  refine hSz.mono ?_
  rintro e w1 ⟨rfl | ⟨m0, rfl, m1, hl⟩, b1⟩
  · go_wp2
    go_ret
    exact ⟨rfl, b1⟩
  have hT := hTo hl
  clear hSz hTo
  have HT : Hid (∀ x, Below w.heap.size w x → Calls Try.prog 37 #[v] x fun e x' => e = .returned (.slice (some ⟨x.heap.size, 0, none⟩) n n) ∧ RowsAt x' x.heap.size 0 rs ∧ x'.there x.heap.size 0 (n * 11) ∧ x.heap.size < x'.heap.size ∧ Below x.heap.size x x') := hT
  clear hT
  go_wp2_with fail
  refine (HT.out _ b1).mono ?_
  rintro e w2 ⟨rfl, S2, -, z2, b2⟩
  go_wp2_with fail
  have sp := specWatch w1.heap.size 0 n rs clock w2 S2 z2 (by rw [Hn.out]; exact hl)
  rw [Hn.out] at sp
  refine sp.mono ?_
  rintro e w3 ⟨⟨g, cap', rfl, g0, g1, G3, -⟩, b3⟩
  have B3 : Below w.heap.size w w3 := bl_trans b1 (bl_trans b2 b3)
  clear sp S2 z2 b1 b2 b3 g0
  go_wp2_with fail
  refine (HT.out _ B3).mono ?_
  rintro e w4 ⟨rfl, X4, t4, z4, b4⟩
  have G4 := G3.keep g1 b4
  have y4 : g < w4.heap.size := Nat.lt_of_lt_of_le g1 b4.size
  have B4 := bl_trans B3 b4
  clear G3 b4
  go_wp2_with fail
  have im := implWatch w3.heap.size 0 n rs clock w4 X4 z4 (by rw [Hn.out]; exact hl)
  rw [Hn.out] at im
  refine im.mono ?_
  rintro e w5 ⟨rfl, A5, t5, z5, b5⟩
  have G5 := G4.keep y4 b5
  have y5 : g < w5.heap.size := Nat.lt_of_lt_of_le y4 b5.size
  have X5 := X4.keep z4 b5
  have tx5 := there_keep t4 z4 b5
  have zx5 : w3.heap.size < w5.heap.size := Nat.lt_of_lt_of_le z4 b5.size
  have B5 := bl_trans B4 b5
  clear im G4 X4 t4 b5 B4
  go_wp2_with fail
  refine (eqRunS_n n _ _ _ _ _ _ Hlen.out A5 G5 z5 y5 hl).mono ?_
  rintro e w6 ⟨rfl, b6⟩
  have G6 := G5.keep y5 b6
  have y6 : g < w6.heap.size := Nat.lt_of_lt_of_le y5 b6.size
  have X6 := X5.keep zx5 b6
  have tx6 := there_keep tx5 zx5 b6
  have zx6 : w3.heap.size < w6.heap.size := Nat.lt_of_lt_of_le zx5 b6.size
  have A6 := A5.keep z5 b6
  have t6 := there_keep t5 z5 b6
  have z6 : w4.heap.size < w6.heap.size := Nat.lt_of_lt_of_le z5 b6.size
  have B6 := bl_trans B5 b6
  clear G5 y5 X5 tx5 zx5 A5 t5 z5 b6 B5
  go_wp2_with fail
  refine (HT.out _ B6).mono ?_
  rintro e w7 ⟨rfl, Y7, -, zy7, b7⟩
  have G7 := G6.keep y6 b7
  have y7 : g < w7.heap.size := Nat.lt_of_lt_of_le y6 b7.size
  have X7 := X6.keep zx6 b7
  have tx7 := there_keep tx6 zx6 b7
  have zx7 : w3.heap.size < w7.heap.size := Nat.lt_of_lt_of_le zx6 b7.size
  have A7 := A6.keep z6 b7
  have t7 := there_keep t6 z6 b7
  have z7 : w4.heap.size < w7.heap.size := Nat.lt_of_lt_of_le z6 b7.size
  have B7 := bl_trans B6 b7
  clear G6 y6 X6 tx6 zx6 A6 t6 z6 b7 B6
  go_wp2_with fail
  refine (eqRunS_n n _ _ _ _ _ _ Hn.out X7 Y7 zx7 zy7 hl).mono ?_
  rintro e w8 ⟨rfl, b8⟩
  have G8 := G7.keep y7 b8
  have y8 : g < w8.heap.size := Nat.lt_of_lt_of_le y7 b8.size
  have tx8 := there_keep tx7 zx7 b8
  have zx8 : w3.heap.size < w8.heap.size := Nat.lt_of_lt_of_le zx7 b8.size
  have A8 := A7.keep z7 b8
  have t8 := there_keep t7 z7 b8
  have z8 : w4.heap.size < w8.heap.size := Nat.lt_of_lt_of_le z7 b8.size
  have B8 := bl_trans B7 b8
  clear G7 y7 X7 tx7 zx7 A7 t7 z7 b8 B7 Y7 zy7
  go_wp2_with fail
  refine (markRunS w3.heap.size n _ 1 _ tx8 zx8 hl (by omega) (by omega)).mono ?_
  rintro e w9 ⟨rfl, -, -, e9⟩
  have G9 := G8.ex y8 e9 (by omega)
  have y9 : g < w9.heap.size := Nat.lt_of_lt_of_le y8 e9.size
  have A9 := A8.ex z8 e9 (by omega)
  have t9 := there_ex t8 z8 e9 (by omega)
  have z9 : w4.heap.size < w9.heap.size := Nat.lt_of_lt_of_le z8 e9.size
  have B9 := Ex.mono B8 e9 B3.size
  have z34 : w3.heap.size < w4.heap.size := z4
  clear G8 y8 tx8 zx8 A8 t8 z8 e9 B8
  go_wp2_with fail
  refine (eqRunS_n n _ _ _ _ _ _ Hlen.out A9 G9 z9 y9 hl).mono ?_
  rintro e w10 ⟨rfl, b10⟩
  have G10 := G9.keep y9 b10
  have y10 : g < w10.heap.size := Nat.lt_of_lt_of_le y9 b10.size
  have t10 := there_keep t9 z9 b10
  have z10 : w4.heap.size < w10.heap.size := Nat.lt_of_lt_of_le z9 b10.size
  have B10 := bl_trans B9 b10
  clear G9 y9 A9 t9 z9 b10 B9
  go_wp2_with fail
  refine (markRunS w4.heap.size n _ 1 _ t10 z10 hl (by omega) (by omega)).mono ?_
  rintro e w11 ⟨rfl, M11, -, e11⟩
  have G11 := G10.ex y10 e11 (by omega)
  have y11 : g < w11.heap.size := Nat.lt_of_lt_of_le y10 e11.size
  have z11 : w4.heap.size < w11.heap.size := Nat.lt_of_lt_of_le z10 e11.size
  have B11 := Ex.mono B10 e11 (Nat.le_trans B3.size (Nat.le_of_lt z34))
  clear G10 y10 t10 z10 e11 B10
  go_wp2_with fail
  refine (heldRunS w4.heap.size n _ 1 _ M11 z11 hl (by omega) (by omega)).mono ?_
  rintro e w12 ⟨rfl, b12⟩
  have G12 := G11.keep y11 b12
  have y12 : g < w12.heap.size := Nat.lt_of_lt_of_le y11 b12.size
  have M12 := M11.keep z11 b12
  have z12 : w4.heap.size < w12.heap.size := Nat.lt_of_lt_of_le z11 b12.size
  have B12 := bl_trans B11 b12
  clear G11 y11 M11 z11 b12 B11
  go_wp2_with fail
  refine (HT.out _ B12).mono ?_
  rintro e w13 ⟨rfl, Y13, -, zy13, b13⟩
  have G13 := G12.keep y12 b13
  have y13 : g < w13.heap.size := Nat.lt_of_lt_of_le y12 b13.size
  have M13 := M12.keep z12 b13
  have z13 : w4.heap.size < w13.heap.size := Nat.lt_of_lt_of_le z12 b13.size
  have B13 := bl_trans B12 b13
  clear G12 y12 M12 z12 b13 B12
  go_wp2_with fail
  have im := implWatch w12.heap.size 0 n rs clock w13 Y13 zy13 (by rw [Hn.out]; exact hl)
  rw [Hn.out] at im
  refine im.mono ?_
  rintro e w14 ⟨rfl, A14, -, zz14, b14⟩
  have G14 := G13.keep y13 b14
  have y14 : g < w14.heap.size := Nat.lt_of_lt_of_le y13 b14.size
  have M14 := M13.keep z13 b14
  have z14 : w4.heap.size < w14.heap.size := Nat.lt_of_lt_of_le z13 b14.size
  have B14 := bl_trans B13 b14
  clear im G13 y13 M13 z13 b14 B13 Y13 zy13
  go_wp2_with fail
  refine (eqRunS_n n _ _ _ _ _ _ Hlen.out A14 G14 zz14 y14 hl).mono ?_
  rintro e w15 ⟨rfl, b15⟩
  have M15 := M14.keep z14 b15
  have z15 : w4.heap.size < w15.heap.size := Nat.lt_of_lt_of_le z14 b15.size
  have B15 := bl_trans B14 b15
  clear G14 y14 M14 z14 b15 B14 A14 zz14
  go_wp2_with fail
  refine (heldRunS w4.heap.size n _ 1 _ M15 z15 hl (by omega) (by omega)).mono ?_
  rintro e w16 ⟨rfl, b16⟩
  have B16 := bl_trans B15 b16
  clear M15 z15 b16 B15
  go_wp2
  go_ret
  exact ⟨rfl, B16⟩
end Go.Proofs.Ytkebokkckmgloaa
/- What the reading of a want and of a run says of the cells. -/
namespace Go.Proofs.Ytkebokkckmgloaa
open Go.ChangeShapes Go.WideShapes Go.ChangeAt Go.RowKit

theorem cells_want : Try.prog.cellsOf 51 = 7 := by kernel_rfl
theorem cells_run : Try.prog.cellsOf 53 = 11 := by kernel_rfl
theorem cells_int : Try.prog.cellsOf 3 = 1 := by kernel_rfl
theorem cells_string : Try.prog.cellsOf 9 = 1 := by kernel_rfl

/-- A number that an int holds. -/
def I64 (n : Int) : Prop := -9223372036854775808 ≤ n ∧ n ≤ 9223372036854775807
theorem I64_of {n : Int} (h : (Lit.int .i64 n).wf = true) : I64 n := by
  simpa [Lit.wf, IntKind.min, IntKind.max, IntKind.signed, IntKind.bits, I64] using h

theorem some_of {α : Type} {l : List α} {n i : Nat} {x : Option α} (hl : l.length = n) (hi : i < n) (h : x = l[i]?) : ∃ y, x = some y := by
  subst hl; exact ⟨l[i], by rw [h]; exact List.getElem?_eq_getElem hi⟩

theorem list7 {α : Type} {l : List α} (h : l.length = 7) : ∃ a b c d e f g, l = [a, b, c, d, e, f, g] := by
  match l, h with
  | [a, b, c, d, e, f, g], _ => exact ⟨a, b, c, d, e, f, g, rfl⟩
theorem list11 {α : Type} {l : List α} (h : l.length = 11) : ∃ a b c d e f g h i j k, l = [a, b, c, d, e, f, g, h, i, j, k] := by
  match l, h with
  | [a, b, c, d, e, f, g, h, i, j, k], _ => exact ⟨a, b, c, d, e, f, g, h, i, j, k, rfl⟩

section
variable {H : Type} {enc : TypeId × Value → H} {W : World} {base : Nat} {spare : Nat → Bool} {held : Bool} {fuel : Nat} {cs : List Value} {x : DataW H × List MemPlace}

theorem read_want (hx : DataW.trod enc Try.prog W base spare held fuel 51 cs = some x) :
    ∃ (c : ByteArray) (v : Int) (h : ByteArray) (p s d g : Int), cs = [.string c, .int .i64 v, .string h, .int .i64 p, .int .i64 s, .int .i64 d, .int .i64 g] ∧ c.size ≤ maxLen ∧ h.size ≤ maxLen ∧ I64 v ∧ I64 p ∧ I64 s ∧ I64 d ∧ I64 g := by
  obtain ⟨xs, n, rfl, -, hl, hn, hf⟩ := DataW.trod_struct Try.underlying51 hx
  rw [cells_want] at hl
  obtain ⟨c0, c1, c2, c3, c4, c5, c6, rfl⟩ := list7 hl
  have hn' : xs.length = 7 := hn
  have f0 : DataW.trod enc Try.prog W base spare held n 9 (List.take (Try.prog.cellsOf 9) [c0, c1, c2, c3, c4, c5, c6]) = xs[0]? := hf 0 _ rfl
  have f1 : DataW.trod enc Try.prog W base spare held n 3 (List.take (Try.prog.cellsOf 3) [c1, c2, c3, c4, c5, c6]) = xs[1]? := hf 1 _ rfl
  have f2 : DataW.trod enc Try.prog W base spare held n 9 (List.take (Try.prog.cellsOf 9) [c2, c3, c4, c5, c6]) = xs[2]? := hf 2 _ rfl
  have f3 : DataW.trod enc Try.prog W base spare held n 3 (List.take (Try.prog.cellsOf 3) [c3, c4, c5, c6]) = xs[3]? := hf 3 _ rfl
  have f4 : DataW.trod enc Try.prog W base spare held n 3 (List.take (Try.prog.cellsOf 3) [c4, c5, c6]) = xs[4]? := hf 4 _ rfl
  have f5 : DataW.trod enc Try.prog W base spare held n 3 (List.take (Try.prog.cellsOf 3) [c5, c6]) = xs[5]? := hf 5 _ rfl
  have f6 : DataW.trod enc Try.prog W base spare held n 3 (List.take (Try.prog.cellsOf 3) [c6]) = xs[6]? := hf 6 _ rfl
  simp only [cells_int, cells_string, List.take_succ_cons, List.take_zero] at f0 f1 f2 f3 f4 f5 f6
  obtain ⟨y0, g0⟩ := some_of hn' (by decide) f0
  obtain ⟨y1, g1⟩ := some_of hn' (by decide) f1
  obtain ⟨y2, g2⟩ := some_of hn' (by decide) f2
  obtain ⟨y3, g3⟩ := some_of hn' (by decide) f3
  obtain ⟨y4, g4⟩ := some_of hn' (by decide) f4
  obtain ⟨y5, g5⟩ := some_of hn' (by decide) f5
  obtain ⟨y6, g6⟩ := some_of hn' (by decide) f6
  obtain ⟨c, e0, -, w0⟩ := DataW.trod_string Try.underlying9 g0
  obtain ⟨v, e1, -, w1⟩ := DataW.trod_int Try.underlying3 g1
  obtain ⟨h, e2, -, w2⟩ := DataW.trod_string Try.underlying9 g2
  obtain ⟨p, e3, -, w3⟩ := DataW.trod_int Try.underlying3 g3
  obtain ⟨s, e4, -, w4⟩ := DataW.trod_int Try.underlying3 g4
  obtain ⟨d, e5, -, w5⟩ := DataW.trod_int Try.underlying3 g5
  obtain ⟨g, e6, -, w6⟩ := DataW.trod_int Try.underlying3 g6
  simp only [List.cons.injEq, and_true] at e0 e1 e2 e3 e4 e5 e6
  subst e0 e1 e2 e3 e4 e5 e6
  exact ⟨c, v, h, p, s, d, g, rfl, w0, w2, I64_of w1, I64_of w3, I64_of w4, I64_of w5, I64_of w6⟩

theorem read_run (hx : DataW.trod enc Try.prog W base spare held fuel 53 cs = some x) :
    ∃ (c : ByteArray) (v : Int) (h : ByteArray) (p s d g a b i u : Int), cs = [.string c, .int .i64 v, .string h, .int .i64 p, .int .i64 s, .int .i64 d, .int .i64 g, .int .i64 a, .int .i64 b, .int .i64 i, .int .i64 u] ∧ c.size ≤ maxLen ∧ h.size ≤ maxLen ∧ I64 v ∧ I64 p ∧ I64 s ∧ I64 d ∧ I64 g ∧ I64 a ∧ I64 b ∧ I64 i ∧ I64 u := by
  obtain ⟨xs, n, rfl, -, hl, hn, hf⟩ := DataW.trod_struct Try.underlying53 hx
  rw [cells_run] at hl
  obtain ⟨c0, c1, c2, c3, c4, c5, c6, c7, c8, c9, c10, rfl⟩ := list11 hl
  have hn' : xs.length = 5 := hn
  have f0 : DataW.trod enc Try.prog W base spare held n 51 (List.take (Try.prog.cellsOf 51) [c0, c1, c2, c3, c4, c5, c6, c7, c8, c9, c10]) = xs[0]? := hf 0 _ rfl
  have f1 : DataW.trod enc Try.prog W base spare held n 3 (List.take (Try.prog.cellsOf 3) [c7, c8, c9, c10]) = xs[1]? := hf 1 _ rfl
  have f2 : DataW.trod enc Try.prog W base spare held n 3 (List.take (Try.prog.cellsOf 3) [c8, c9, c10]) = xs[2]? := hf 2 _ rfl
  have f3 : DataW.trod enc Try.prog W base spare held n 3 (List.take (Try.prog.cellsOf 3) [c9, c10]) = xs[3]? := hf 3 _ rfl
  have f4 : DataW.trod enc Try.prog W base spare held n 3 (List.take (Try.prog.cellsOf 3) [c10]) = xs[4]? := hf 4 _ rfl
  simp only [cells_int, cells_want, List.take_succ_cons, List.take_zero] at f0 f1 f2 f3 f4
  obtain ⟨y0, g0⟩ := some_of hn' (by decide) f0
  obtain ⟨y1, g1⟩ := some_of hn' (by decide) f1
  obtain ⟨y2, g2⟩ := some_of hn' (by decide) f2
  obtain ⟨y3, g3⟩ := some_of hn' (by decide) f3
  obtain ⟨y4, g4⟩ := some_of hn' (by decide) f4
  obtain ⟨c, v, h, p, s, d, g, e0, w0⟩ := read_want g0
  obtain ⟨a, e1, -, w1⟩ := DataW.trod_int Try.underlying3 g1
  obtain ⟨b, e2, -, w2⟩ := DataW.trod_int Try.underlying3 g2
  obtain ⟨i, e3, -, w3⟩ := DataW.trod_int Try.underlying3 g3
  obtain ⟨u, e4, -, w4⟩ := DataW.trod_int Try.underlying3 g4
  simp only [List.cons.injEq, and_true] at e0 e1 e2 e3 e4
  obtain ⟨e00, e01, e02, e03, e04, e05, e06⟩ := e0
  subst e00 e01 e02 e03 e04 e05 e06 e1 e2 e3 e4
  obtain ⟨k0, k1, k2, k3, k4, k5, k6⟩ := w0
  exact ⟨c, v, h, p, s, d, g, a, b, i, u, rfl, k0, k1, k2, k3, k4, k5, k6, I64_of w1, I64_of w2, I64_of w3, I64_of w4⟩
end
end Go.Proofs.Ytkebokkckmgloaa
/- What the reading of a list of runs says of memory. -/
namespace Go.Proofs.Ytkebokkckmgloaa
open Go.ChangeShapes Go.WideShapes Go.ChangeAt Go.RowKit

theorem exists_list {α : Type} (P : Nat → α → Prop) : ∀ (n : Nat), (∀ i, i < n → ∃ r, P i r) → ∃ rs : List α, rs.length = n ∧ ∀ i r, rs[i]? = some r → P i r
  | 0, _ => ⟨[], rfl, fun i r h => by simp at h⟩
  | n + 1, h => by
    obtain ⟨rs, hl, hr⟩ := exists_list P n (fun i hi => h i (by omega))
    obtain ⟨r, hp⟩ := h n (by omega)
    refine ⟨rs ++ [r], by simp [hl], fun i q hq => ?_⟩
    rcases Nat.lt_or_ge i n with hi | hi
    · rw [List.getElem?_append_left (by omega)] at hq; exact hr i q hq
    · rw [List.getElem?_append_right (by omega)] at hq
      by_cases e : i = n
      · subst e; simp [hl] at hq; subst hq; exact hp
      · rw [List.getElem?_eq_none (by simp; omega)] at hq; cases hq

section
variable {H : Type} {enc : TypeId × Value → H} {W : World} {base : Nat} {spare : Nat → Bool} {held : Bool} {fuel : Nat} {cs : List Value} {x : DataW H × List MemPlace}

/-- A list of runs that came in: it is empty, or lies in a block of old memory. -/
theorem read_runs (hx : DataW.trod enc Try.prog W base spare held fuel 57 cs = some x) :
    (∃ (a : Option Addr) (cap : Nat), cs = [.slice a 0 cap]) ∨
    ∃ (b off cap : Nat) (rs : List RunD), cs = [.slice (some ⟨b, off, none⟩) rs.length cap] ∧ 0 < rs.length ∧ rs.length ≤ maxLen ∧ b < W.heap.size ∧ RowsAt W b off rs ∧ ∀ r ∈ rs, r.fits := by
  rcases DataW.trod_slice Try.underlying57 hx with ⟨hcs, -⟩ | ⟨a, len, cap, elems, rest, n, -, hcs, -, hb, hlc, hcm, hel, hat, -⟩
  · exact Or.inl ⟨none, 0, hcs⟩
  by_cases h0 : len = 0
  · subst h0; exact Or.inl ⟨some a, cap, hcs⟩
  refine Or.inr ?_
  rw [cells_run] at hat
  have hall : ∀ i, i < len → ∃ r : RunD, W.cells? base (a.add (i * 11)) 11 = some r.cells ∧ r.fits := by
    intro i hi
    have h1 := hat i hi
    rw [List.getElem?_eq_getElem (by omega)] at h1
    obtain ⟨ws, hw, ht⟩ := Option.bind_eq_some_iff.1 h1
    obtain ⟨c, v, h, p, s, d, g, st, lf, fl, un, rfl, w0, w1, i0, i1, i2, i3, i4, i5, i6, i7, i8⟩ := read_run ht
    exact ⟨⟨c, h, v, p, s, d, g, st, lf, fl, un⟩, hw, w0, w1, i6.2, i7.1⟩
  obtain ⟨rs, hlen, hrs⟩ := exists_list _ len hall
  have hcell : ∀ i r, rs[i]? = some r → ∀ j v, r.cells[j]? = some v → W.cell? ((a.add (i * 11)).add j) = some v := by
    intro i r hr j v hj
    obtain ⟨hw, -⟩ := hrs i r hr
    have hlt : j < 11 := by
      rcases Nat.lt_or_ge j 11 with h' | h'
      · exact h'
      · rw [List.getElem?_eq_none (by simpa [RunD.cells] using h')] at hj; cases hj
    have h2 := (World.cells?_some hw).2.2 j hlt
    rw [h2, hj]
  obtain ⟨r0, hr0⟩ : ∃ r, rs[0]? = some r := ⟨rs[0]'(by omega), List.getElem?_eq_getElem (by omega)⟩
  have hc0 := hcell 0 r0 hr0 0 (.string r0.c) rfl
  obtain ⟨b, off, spot⟩ := a
  have hspot : spot = none := by
    have := World.cell?_spot hc0
    simpa [Addr.add] using this
  subst hspot
  have hblk : b < W.heap.size := World.cells?_block (hrs 0 r0 hr0).1 (by omega)
  refine ⟨b, off, cap, rs, by rw [hlen]; exact hcs, by omega, by omega, hblk, fun i r hr j v hj => ?_, fun r hr => ?_⟩
  · have := hcell i r hr j v hj
    rw [Addr.add_mid, Addr.add_mid] at this
    exact this
  · obtain ⟨i, hi⟩ := List.getElem?_of_mem hr
    exact (hrs i r hi).2
end
end Go.Proofs.Ytkebokkckmgloaa
