/- A list is marked. -/
import Derived.Test.YtmfcnckhgeggkabMark
import Derived.Test.YtmfcnckhgeggkabEx
import Derived.Test.YtmfcnckhgeggkabARows2
namespace Go.Proofs.Ytmfcnckhgeggkab.A
open Go.RowKit
set_option linter.unusedVariables false

def markAsk (k : Int) : AskD := { h := markB (k), c := markB (k + 1), f := k + 1 + 1, t := k + 1 + 1 + 1 }
def marks (k : Int) (n : Nat) : List AskD := (List.range n).map (fun (i : Nat) => markAsk (k + 4 * (i : Int)))
theorem row_cells {x : World} {g n k : Nat} (h : x.there g 0 (n * 4)) (hk : k < n) (j : Nat) (hj : j < 4) : (∃ v, x.cell? ⟨g, k * 4 + j, none⟩ = some v) ∧ x.frozen? ⟨g, k * 4 + j, none⟩ = false := by
  have h1 := h (k * 4 + j) (by omega)
  rw [Nat.zero_add] at h1
  exact ⟨Option.isSome_iff_exists.1 h1.1, h1.2⟩
theorem len_marks (k : Int) (n : Nat) : (marks k n).length = n := by simp [marks]
theorem rows_apart {x : World} {g : Nat} {rs : List AskD} (h : RowsAt x g 0 rs) (o : Nat) (hl : rs.length * 4 ≤ o) (vs : List Value) : RowsAt (x.setCells g o vs) g 0 rs :=
  fun j q hj => World.rangeAt_setCells_apart (h j q hj) g o vs (Or.inr (Or.inl (by
    have : j < rs.length := by
      rcases Nat.lt_or_ge j rs.length with h' | h'
      · exact h'
      · rw [List.getElem?_eq_none h'] at hj; cases hj
    show 0 + j * 4 + 4 ≤ o
    omega)))
theorem rows_snoc {x : World} {b m : Nat} {k0 kk : Int} (hk : kk = k0 + 4 * (m : Int)) (h : RowsAt x b 0 (marks k0 m)) (hr : x.rangeAt b (m * 4) (markAsk kk).cells) : RowsAt x b 0 (marks k0 (m + 1)) := by
  intro j q hj
  rw [marks, List.range_succ, List.map_append] at hj
  rcases Nat.lt_or_ge j m with hl | hl
  · rw [List.getElem?_append_left (by simpa using hl)] at hj; exact h j q hj
  · rw [List.getElem?_append_right (by simpa using hl)] at hj
    by_cases e : j = m
    · subst e
      simp at hj
      subst hj
      rw [← hk, Nat.zero_add]
      exact hr
    · rw [List.getElem?_eq_none (by simp; omega)] at hj; cases hj

set_option maxRecDepth 4000 in
set_option maxHeartbeats 1000000 in
theorem markS (b n cap : Nat) (k0 : Int) (w : World) (hth : w.there b 0 (n * 4)) (hb : b < w.heap.size) (hn : n ≤ 1048576) (h0 : 0 ≤ k0) (h1 : k0 ≤ 10000000000) :
    Calls Try.prog 73 #[.slice (some ⟨b, 0, none⟩) n cap, .int .i64 k0] w fun e w' => e = .returned (.int .i64 (k0 + 4 * (n : Int))) ∧ RowsAt w' b 0 (marks k0 n) ∧ w'.there b 0 (n * 4) ∧ Ex b w w' := by
  go_enter Try.func73, Try.ntmps73
  go_wp2
  go_loopw [1, 5] (fun q i wx => ∃ (m : Nat) (kk : Int), m ≤ n ∧ i = .int .i64 m ∧ q = .int .i64 kk ∧ kk = k0 + 4 * (m : Int) ∧ RowsAt wx b 0 (marks k0 m) ∧ wx.there b 0 (n * 4) ∧ Ex b w wx) (fun _ i _ => n - (intOf i).toNat)
  case atStart => exact ⟨0, k0, Nat.zero_le _, rfl, rfl, by simp, fun k r h => by simp [marks] at h, hth, Ex.refl _ _⟩
  case round =>
    obtain ⟨m, kk, hm, rfl, rfl, hkk, hrows, ht, hE⟩ := hrel
    have Hk : Hid _ := hkk
    have k1 : 0 ≤ kk := by omega
    have k2 : kk ≤ 100000000000 := by omega
    clear hkk
    have bz : b < wr.heap.size := Nat.lt_of_lt_of_le hb hE.size
    by_cases hlt : m < n
    · go_wp2_with fail
      refine (markText_any kk (by omega) _).mono ?_
      rintro e w1 ⟨rfl, b1⟩
      have t1 := there_keep2 ht bz b1
      obtain ⟨⟨v0, c0⟩, f0⟩ := row_cells t1 hlt 0 (by omega)
      simp only [Nat.add_zero] at c0 f0
      go_wp2_with fail
      have W2 : World.setCells w1 b (m * 4) [.string (markB kk)] = w1.setCell { block := b, off := m * 4 } (.string (markB kk)) := rfl
      have r1 : (World.setCells w1 b (m * 4) [.string (markB kk)]).rangeAt b (m * 4) [.string (markB kk)] := World.rangeAt_setCells_same w1 b (m * 4) _ (fun j hj => there_part t1 hlt j (by simp at hj; omega))
      have t2 := World.there_setCells t1 b (m * 4) [.string (markB kk)]
      have e1 : Ex b w (World.setCells w1 b (m * 4) [.string (markB kk)]) := (hE.trans (Ex.of_below b1)).cells _ _
      have q1 : RowsAt (World.setCells w1 b (m * 4) [.string (markB kk)]) b 0 (marks k0 m) := rows_apart (hrows.keep bz b1) (m * 4) (by rw [len_marks]; omega) _
      have z1 : b < (World.setCells w1 b (m * 4) [.string (markB kk)]).heap.size := Nat.lt_of_lt_of_le hb e1.size
      rw [W2] at r1 t2 e1 q1 z1
      clear W2 c0 f0 hrows ht hE t1 b1 bz
      refine (markText_any _ (by omega) _).mono ?_
      rintro e w2 ⟨rfl, b2⟩
      have r2 := range_keep r1 z1 b2
      have t3 := there_keep2 t2 z1 b2
      have q2 := q1.keep z1 b2
      have e2 := e1.trans (Ex.of_below b2)
      clear r1 t2 q1 e1 b2 z1
      obtain ⟨⟨v1, c1⟩, f1⟩ := row_cells t3 hlt 1 (by omega)
      obtain ⟨⟨v2, c2⟩, f2⟩ := row_cells t3 hlt 2 (by omega)
      obtain ⟨⟨v3, c3⟩, f3⟩ := row_cells t3 hlt 3 (by omega)
      have T3 : Hid _ := t3
      have R2 : Hid _ := r2
      have Q2 : Hid _ := q2
      have E2 : Hid _ := e2
      clear t3 r2 q2 e2
      go_wp2
      have t3 := T3.out
      have r2 := R2.out
      have q2 := Q2.out
      have e2 := E2.out
      have t4 := World.there_setCells t3 b (m * 4 + 1) [.string (markB (kk + 1)), .int .i64 (kk + 1 + 1), .int .i64 (kk + 1 + 1 + 1)]
      have r3 : (World.setCells w2 b (m * 4 + 1) [.string (markB (kk + 1)), .int .i64 (kk + 1 + 1), .int .i64 (kk + 1 + 1 + 1)]).rangeAt b (m * 4 + 1) [.string (markB (kk + 1)), .int .i64 (kk + 1 + 1), .int .i64 (kk + 1 + 1 + 1)] := World.rangeAt_setCells_same w2 b (m * 4 + 1) _ (fun j hj => by have := there_part t3 hlt (j + 1) (by simp at hj; omega); rwa [show m * 4 + (j + 1) = m * 4 + 1 + j from by omega] at this)
      have r4 := World.rangeAt_setCells_apart r2 b (m * 4 + 1) [.string (markB (kk + 1)), .int .i64 (kk + 1 + 1), .int .i64 (kk + 1 + 1 + 1)] (Or.inr (Or.inl (by simp)))
      have q3 : RowsAt (World.setCells w2 b (m * 4 + 1) [.string (markB (kk + 1)), .int .i64 (kk + 1 + 1), .int .i64 (kk + 1 + 1 + 1)]) b 0 (marks k0 m) := rows_apart q2 (m * 4 + 1) (by rw [len_marks]; omega) _
      have r5 : (World.setCells w2 b (m * 4 + 1) [.string (markB (kk + 1)), .int .i64 (kk + 1 + 1), .int .i64 (kk + 1 + 1 + 1)]).rangeAt b (m * 4) (markAsk kk).cells := range_append r4 r3
      have q4 := rows_snoc Hk.out q3 r5
      have e3 : Ex b w (World.setCells w2 b (m * 4 + 1) [.string (markB (kk + 1)), .int .i64 (kk + 1 + 1), .int .i64 (kk + 1 + 1 + 1)]) := e2.cells _ _
      clear r5 r4 r3 q3 r2 q2 e2 t3
      have W3 : World.setCells w2 b (m * 4 + 1) [.string (markB (kk + 1)), .int .i64 (kk + 1 + 1), .int .i64 (kk + 1 + 1 + 1)] = ((w2.setCell { block := b, off := m * 4 + 1 } (.string (markB (kk + 1)))).setCell { block := b, off := m * 4 + 2 } (.int .i64 (kk + 1 + 1))).setCell { block := b, off := m * 4 + 3 } (.int .i64 (kk + 1 + 1 + 1)) := rfl
      rw [W3] at q4 t4 e3
      clear W3
      exact ⟨⟨m + 1, _, by omega, by go_num, rfl, by have := Hk.out; omega, q4, t4, e3⟩, by simp [intOf]; omega⟩
    · go_wp2
      go_ret
      have hmn : m = n := by omega
      subst hmn
      exact ⟨by rw [← Hk.out]; rfl, hrows, ht, hE⟩
end Go.Proofs.Ytmfcnckhgeggkab.A
