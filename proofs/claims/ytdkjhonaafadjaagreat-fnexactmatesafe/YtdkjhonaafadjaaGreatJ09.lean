import Derived.Test.YtdkjhonaafadjaaGreatJ08
import Derived.Test.YtdkjhonaafadjaaGreatJ01
import Derived.Deep.RegionHeld3
import Derived.Laws.Pointers
import Derived.StillTactics
import Derived.Test.YtdkjhonaafadjaaGreatJ07
import Derived.Test.YtdkjhonaafadjaaGreatJ02
import Derived.ChangeOld
/- A list is marked. -/
namespace Go.Proofs.YtdkjhonaafadjaaGreat.A
open Go.RowKit
set_option linter.unusedVariables false

def markAsk (k : Int) : AskD := { h := markB (k), c := markB (k + 1), f := k + 1 + 1, t := k + 1 + 1 + 1 }
def marks (k : Int) (n : Nat) : List AskD := (List.range n).map (fun (i : Nat) => markAsk (k + 4 * (i : Int)))
theorem row_cells {x : World} {g n k : Nat} (h : x.there g 0 (n * 4)) (hk : k < n) (j : Nat) (hj : j < 4) : (∃ v, x.cell? ⟨g, k * 4 + j, none⟩ = some v) ∧ x.frozen? ⟨g, k * 4 + j, none⟩ = false := by
  have h1 := h (k * 4 + j) (by omega)
  rw [Nat.zero_add] at h1
  exact ⟨Option.isSome_iff_exists.1 h1.1, h1.2⟩
theorem len_marks (k : Int) (n : Nat) : (marks k n).length = n := by simp [marks]
theorem rows_apart {x : World} {g : Nat} {rs : List AskD} (h : RowsAt x g 0 rs) (o : Nat) (hl : rs.length * 4 ≤ o) (vs : List Value) : RowsAt (x.setCells g o vs) g 0 rs :=
  fun j q hj => World.rangeAt_setCells_apart (h j q hj) g o vs (Or.inr (Or.inl (by
    have : j < rs.length := by
      rcases Nat.lt_or_ge j rs.length with h' | h'
      · exact h'
      · rw [List.getElem?_eq_none h'] at hj; cases hj
    show 0 + j * 4 + 4 ≤ o
    omega)))
theorem rows_snoc {x : World} {b m : Nat} {k0 kk : Int} (hk : kk = k0 + 4 * (m : Int)) (h : RowsAt x b 0 (marks k0 m)) (hr : x.rangeAt b (m * 4) (markAsk kk).cells) : RowsAt x b 0 (marks k0 (m + 1)) := by
  intro j q hj
  rw [marks, List.range_succ, List.map_append] at hj
  rcases Nat.lt_or_ge j m with hl | hl
  · rw [List.getElem?_append_left (by simpa using hl)] at hj; exact h j q hj
  · rw [List.getElem?_append_right (by simpa using hl)] at hj
    by_cases e : j = m
    · subst e
      simp at hj
      subst hj
      rw [← hk, Nat.zero_add]
      exact hr
    · rw [List.getElem?_eq_none (by simp; omega)] at hj; cases hj

set_option maxRecDepth 4000 in
set_option maxHeartbeats 1000000 in
theorem markS (b n cap : Nat) (k0 : Int) (w : World) (hth : w.there b 0 (n * 4)) (hb : b < w.heap.size) (hn : n ≤ 1048576) (h0 : 0 ≤ k0) (h1 : k0 ≤ 10000000000) :
    Calls Tryz.prog 61 #[.slice (some ⟨b, 0, none⟩) n cap, .int .i64 k0] w fun e w' => e = .returned (.int .i64 (k0 + 4 * (n : Int))) ∧ RowsAt w' b 0 (marks k0 n) ∧ w'.there b 0 (n * 4) ∧ Ex b w w' := by
  go_enter Tryz.func61, Tryz.ntmps61
  go_wp2
  go_loopw [1, 5] (fun q i wx => ∃ (m : Nat) (kk : Int), m ≤ n ∧ i = .int .i64 m ∧ q = .int .i64 kk ∧ kk = k0 + 4 * (m : Int) ∧ RowsAt wx b 0 (marks k0 m) ∧ wx.there b 0 (n * 4) ∧ Ex b w wx) (fun _ i _ => n - (intOf i).toNat)
  case atStart => exact ⟨0, k0, Nat.zero_le _, rfl, rfl, by simp, fun k r h => by simp [marks] at h, hth, Ex.refl _ _⟩
  case round =>
    obtain ⟨m, kk, hm, rfl, rfl, hkk, hrows, ht, hE⟩ := hrel
    have Hk : Hid _ := hkk
    have k1 : 0 ≤ kk := by omega
    have k2 : kk ≤ 100000000000 := by omega
    clear hkk
    have bz : b < wr.heap.size := Nat.lt_of_lt_of_le hb hE.size
    by_cases hlt : m < n
    · go_wp2_with fail
      refine (markText_any kk (by omega) _).mono ?_
      rintro e w1 ⟨rfl, b1⟩
      have t1 := there_keep2 ht bz b1
      obtain ⟨⟨v0, c0⟩, f0⟩ := row_cells t1 hlt 0 (by omega)
      simp only [Nat.add_zero] at c0 f0
      go_wp2_with fail
      have W2 : World.setCells w1 b (m * 4) [.string (markB kk)] = w1.setCell { block := b, off := m * 4 } (.string (markB kk)) := rfl
      have r1 : (World.setCells w1 b (m * 4) [.string (markB kk)]).rangeAt b (m * 4) [.string (markB kk)] := World.rangeAt_setCells_same w1 b (m * 4) _ (fun j hj => there_part t1 hlt j (by simp at hj; omega))
      have t2 := World.there_setCells t1 b (m * 4) [.string (markB kk)]
      have e1 : Ex b w (World.setCells w1 b (m * 4) [.string (markB kk)]) := (hE.trans (Ex.of_below b1)).cells _ _
      have q1 : RowsAt (World.setCells w1 b (m * 4) [.string (markB kk)]) b 0 (marks k0 m) := rows_apart (hrows.keep bz b1) (m * 4) (by rw [len_marks]; omega) _
      have z1 : b < (World.setCells w1 b (m * 4) [.string (markB kk)]).heap.size := Nat.lt_of_lt_of_le hb e1.size
      rw [W2] at r1 t2 e1 q1 z1
      clear W2 c0 f0 hrows ht hE t1 b1 bz
      refine (markText_any _ (by omega) _).mono ?_
      rintro e w2 ⟨rfl, b2⟩
      have r2 := range_keep r1 z1 b2
      have t3 := there_keep2 t2 z1 b2
      have q2 := q1.keep z1 b2
      have e2 := e1.trans (Ex.of_below b2)
      clear r1 t2 q1 e1 b2 z1
      obtain ⟨⟨v1, c1⟩, f1⟩ := row_cells t3 hlt 1 (by omega)
      obtain ⟨⟨v2, c2⟩, f2⟩ := row_cells t3 hlt 2 (by omega)
      obtain ⟨⟨v3, c3⟩, f3⟩ := row_cells t3 hlt 3 (by omega)
      have T3 : Hid _ := t3
      have R2 : Hid _ := r2
      have Q2 : Hid _ := q2
      have E2 : Hid _ := e2
      clear t3 r2 q2 e2
      go_wp2
      have t3 := T3.out
      have r2 := R2.out
      have q2 := Q2.out
      have e2 := E2.out
      have t4 := World.there_setCells t3 b (m * 4 + 1) [.string (markB (kk + 1)), .int .i64 (kk + 1 + 1), .int .i64 (kk + 1 + 1 + 1)]
      have r3 : (World.setCells w2 b (m * 4 + 1) [.string (markB (kk + 1)), .int .i64 (kk + 1 + 1), .int .i64 (kk + 1 + 1 + 1)]).rangeAt b (m * 4 + 1) [.string (markB (kk + 1)), .int .i64 (kk + 1 + 1), .int .i64 (kk + 1 + 1 + 1)] := World.rangeAt_setCells_same w2 b (m * 4 + 1) _ (fun j hj => by have := there_part t3 hlt (j + 1) (by simp at hj; omega); rwa [show m * 4 + (j + 1) = m * 4 + 1 + j from by omega] at this)
      have r4 := World.rangeAt_setCells_apart r2 b (m * 4 + 1) [.string (markB (kk + 1)), .int .i64 (kk + 1 + 1), .int .i64 (kk + 1 + 1 + 1)] (Or.inr (Or.inl (by simp)))
      have q3 : RowsAt (World.setCells w2 b (m * 4 + 1) [.string (markB (kk + 1)), .int .i64 (kk + 1 + 1), .int .i64 (kk + 1 + 1 + 1)]) b 0 (marks k0 m) := rows_apart q2 (m * 4 + 1) (by rw [len_marks]; omega) _
      have r5 : (World.setCells w2 b (m * 4 + 1) [.string (markB (kk + 1)), .int .i64 (kk + 1 + 1), .int .i64 (kk + 1 + 1 + 1)]).rangeAt b (m * 4) (markAsk kk).cells := range_append r4 r3
      have q4 := rows_snoc Hk.out q3 r5
      have e3 : Ex b w (World.setCells w2 b (m * 4 + 1) [.string (markB (kk + 1)), .int .i64 (kk + 1 + 1), .int .i64 (kk + 1 + 1 + 1)]) := e2.cells _ _
      clear r5 r4 r3 q3 r2 q2 e2 t3
      have W3 : World.setCells w2 b (m * 4 + 1) [.string (markB (kk + 1)), .int .i64 (kk + 1 + 1), .int .i64 (kk + 1 + 1 + 1)] = ((w2.setCell { block := b, off := m * 4 + 1 } (.string (markB (kk + 1)))).setCell { block := b, off := m * 4 + 2 } (.int .i64 (kk + 1 + 1))).setCell { block := b, off := m * 4 + 3 } (.int .i64 (kk + 1 + 1 + 1)) := rfl
      rw [W3] at q4 t4 e3
      clear W3
      exact ⟨⟨m + 1, _, by omega, by go_num, rfl, by have := Hk.out; omega, q4, t4, e3⟩, by simp [intOf]; omega⟩
    · go_wp2
      go_ret
      have hmn : m = n := by omega
      subst hmn
      exact ⟨by rw [← Hk.out]; rfl, hrows, ht, hE⟩
end Go.Proofs.YtdkjhonaafadjaaGreat.A
/- A list of marks is told to be held. -/
namespace Go.Proofs.YtdkjhonaafadjaaGreat.A
open Go.RowKit
set_option linter.unusedVariables false

theorem marks_at (k0 kk : Int) (n m : Nat) (hm : m < n) (hk : kk = k0 + 4 * (m : Int)) : (marks k0 n)[m]? = some (markAsk kk) := by
  subst hk; simp [marks, List.getElem?_range hm]
theorem heldK {x w' : World} {b m : Nat} {kk : Int} {rs : List AskD} (hk : rs[m]? = some (markAsk kk)) (h1 : RowsAt x b 0 rs) (l1 : b < x.heap.size) (hb : Below x.heap.size x w') :
    Below x.heap.size x w' ∧ (w'.cell? ⟨b, m * 4, none⟩ = some (.string (markB kk)) ∧ w'.cell? ⟨b, m * 4 + 1, none⟩ = some (.string (markB (kk + 1))) ∧ w'.cell? ⟨b, m * 4 + 2, none⟩ = some (.int .i64 (kk + 1 + 1)) ∧ w'.cell? ⟨b, m * 4 + 3, none⟩ = some (.int .i64 (kk + 1 + 1 + 1))) := by
  have := (h1.keep l1 hb).at hk
  rw [Nat.zero_add] at this
  exact ⟨hb, this⟩

set_option maxRecDepth 4000 in
set_option maxHeartbeats 2000000 in
theorem heldS (b n cap : Nat) (k0 : Int) (w : World) (hR : RowsAt w b 0 (marks k0 n)) (hb : b < w.heap.size) (hn : n ≤ 1048576) (h0 : 0 ≤ k0) (h1 : k0 ≤ 10000000000) :
    Calls Tryz.prog 66 #[.slice (some ⟨b, 0, none⟩) n cap, .int .i64 k0] w fun e w' => e = .returned (.int .i64 (k0 + 4 * (n : Int))) ∧ Below w.heap.size w w' := by
  go_enter Tryz.func66, Tryz.ntmps66
  go_wp2
  go_loopw [1, 5] (fun q i wx => ∃ (m : Nat) (kk : Int), m ≤ n ∧ i = .int .i64 m ∧ q = .int .i64 kk ∧ kk = k0 + 4 * (m : Int) ∧ Below w.heap.size w wx) (fun _ i _ => n - (intOf i).toNat)
  case atStart => exact ⟨0, k0, Nat.zero_le _, rfl, rfl, by simp, Below.refl _ _⟩
  case round =>
    obtain ⟨m, kk, hm, rfl, rfl, hkk, hB⟩ := hrel
    have Hk : Hid _ := hkk
    have k1 : 0 ≤ kk := by omega
    have k2 : kk ≤ 100000000000 := by omega
    clear hkk
    have bz : b < wr.heap.size := Nat.lt_of_lt_of_le hb hB.size
    by_cases hlt : m < n
    · have Hr : Hid _ := marks_at k0 kk n m hlt Hk.out
      have g1 := hR.keep hb hB
      have i0 : (0 : Int) ≤ (m : Int) := by omega
      have i1 : (m : Int) < (n : Int) := by omega
      go_wp2_with fail
      go_region_held3 (fun w' => Below wr.heap.size wr w' ∧ (w'.cell? ⟨b, m * 4, none⟩ = some (.string (markB kk)) ∧ w'.cell? ⟨b, m * 4 + 1, none⟩ = some (.string (markB (kk + 1))) ∧ w'.cell? ⟨b, m * 4 + 2, none⟩ = some (.int .i64 (kk + 1 + 1)) ∧ w'.cell? ⟨b, m * 4 + 3, none⟩ = some (.int .i64 (kk + 1 + 1 + 1))))
        (first | exact heldK Hr.out g1 bz (bl_drew (Below.refl _ _)) | exact heldK Hr.out g1 bz (bl_trans (bl_drew (Below.refl _ _)) hx))
        (first | (go_at_call 26; refine (markText_any _ (by omega) _).mono ?_; rintro e w' ⟨rfl, hx⟩))
      have y1 : Below wr.heap.size wr w' := bl_trans (bl_drew (Below.refl _ _)) hx
      have g2 := g1.keep bz y1
      have bz2 : b < w'.heap.size := Nat.lt_of_lt_of_le bz y1.size
      have hB2 := bl_trans hB y1
      obtain ⟨c0, c1, c2, c3⟩ := (heldK Hr.out g1 bz y1).2
      clear g1 bz hB y1 hx
      obtain ⟨w2, rfl⟩ : ∃ w2 : World, w2 = w' := ⟨_, rfl⟩
      go_wp2_with fail
      clear c0 c1 c2 c3
      go_region_held3 (fun w' => Below w2.heap.size w2 w' ∧ (w'.cell? ⟨b, m * 4, none⟩ = some (.string (markB kk)) ∧ w'.cell? ⟨b, m * 4 + 1, none⟩ = some (.string (markB (kk + 1))) ∧ w'.cell? ⟨b, m * 4 + 2, none⟩ = some (.int .i64 (kk + 1 + 1)) ∧ w'.cell? ⟨b, m * 4 + 3, none⟩ = some (.int .i64 (kk + 1 + 1 + 1))))
        (first | exact heldK Hr.out g2 bz2 (bl_drew (Below.refl _ _)) | exact heldK Hr.out g2 bz2 (bl_trans (bl_drew (Below.refl _ _)) hx))
        (first | (go_at_call 26; refine (markText_any _ (by omega) _).mono ?_; rintro e w' ⟨rfl, hx⟩))
      have y2 : Below w2.heap.size w2 w' := bl_trans (bl_drew (Below.refl _ _)) hx
      have hB3 := bl_trans hB2 y2
      obtain ⟨c0, c1, c2, c3⟩ := (heldK Hr.out g2 bz2 y2).2
      clear g2 bz2 hB2 y2 hx
      go_wp2
      exact ⟨⟨m + 1, _, by omega, by go_num, rfl, by have := Hk.out; omega, hB3⟩, by simp [intOf]; omega⟩
    · go_wp2
      go_ret
      have hmn : m = n := by omega
      subst hmn
      exact ⟨by rw [← Hk.out]; rfl, hB⟩
end Go.Proofs.YtdkjhonaafadjaaGreat.A
/- A list in a row of the call's own, or nil. -/
namespace Go.Proofs.YtdkjhonaafadjaaGreat.A
open Go.RowKit
set_option linter.unusedVariables false

/-- The value v shows the list l: it is nil and the list empty, or the list lies in a block from B on, which may be written. -/
def Sl (w : World) (v : Value) (l : List AskD) (B : Nat) : Prop := (v = .slice none 0 0 ∧ l = []) ∨ ∃ g cap, v = .slice (some ⟨g, 0, none⟩) l.length cap ∧ B ≤ g ∧ g < w.heap.size ∧ RowsAt w g 0 l ∧ w.there g 0 (l.length * 4)
theorem Sl.of_owns {w : World} {v : Value} {l : List AskD} {B : Nat} (h : w.ownsRow B 108 4 v l.length (flatR l)) : Sl w v l B := rows_of_owns h
theorem Sl.grown {w w' : World} {v : Value} {l : List AskD} {B : Nat} {row : Option Nat} (h : Sl w v l B) (hg : w.grownBy w' row) (hne : v.ownBlock = none ∨ v.ownBlock ≠ row) : Sl w' v l B := by
  rcases h with h | ⟨g, cap, rfl, h1, h2, h3, h4⟩
  · exact Or.inl h
  · have hn : some g ≠ row := by simpa [Value.ownBlock] using hne
    have hc : ∀ o, w'.cell? ⟨g, o, none⟩ = w.cell? ⟨g, o, none⟩ := fun o => World.cell?_of_block (w := w) (a := ⟨g, o, none⟩) (hg.block g h2 hn)
    have hfz : ∀ o, w'.frozen? ⟨g, o, none⟩ = w.frozen? ⟨g, o, none⟩ := fun o => World.frozen?_of_block (w := w) (a := ⟨g, o, none⟩) (hg.block g h2 hn)
    exact Or.inr ⟨g, cap, rfl, h1, Nat.lt_of_lt_of_le h2 hg.size, fun k r hk j v hj => (hc _).trans (h3 k r hk j v hj), fun j hj => ⟨by rw [hc]; exact (h4 j hj).1, by rw [hfz]; exact (h4 j hj).2⟩⟩
theorem Sl.keep {w w' : World} {v : Value} {l : List AskD} {B : Nat} (h : Sl w v l B) (hb : Below w.heap.size w w') : Sl w' v l B :=
  h.grown (row := none) ⟨hb.os, hb.tape, hb.output, hb.size, fun k hk _ => hb.block k hk⟩ (by cases hv : v.ownBlock <;> simp)
theorem Sl.lt {w : World} {v : Value} {l : List AskD} {B : Nat} (h : Sl w v l B) : ∀ g, v.ownBlock = some g → B ≤ g ∧ g < w.heap.size := by
  rcases h with ⟨rfl, -⟩ | ⟨g, cap, rfl, h1, h2, -⟩
  · intro g hg; simp [Value.ownBlock] at hg
  · intro g' hg; simp [Value.ownBlock] at hg; subst hg; exact ⟨h1, h2⟩
theorem ex_grown {w w' : World} {kr : Nat} (h : Ex kr w w') : w.grownBy w' (some kr) := ⟨h.os, h.tape, h.output, h.size, fun k hk hne => h.block k hk (fun e => hne (by rw [e]))⟩

theorem eq_zero (a1 a2 : Option Addr) (c1 c2 : Nat) (w : World) :
    Calls Tryz.prog 90 #[.slice a1 0 c1, .slice a2 0 c2] w fun e w' => e = .returned (.bool true) ∧ w' = w := by
  go_enter Tryz.func90, Tryz.ntmps90
  go_wp2
  refine wp_loop_rounds 1 ?_
  rw [rounds_succ]
  go_wp2
  go_ret
  exact ⟨rfl, rfl⟩
theorem eq_sl {w : World} {v1 v2 : Value} {l : List AskD} {B1 B2 : Nat} (h1 : Sl w v1 l B1) (h2 : Sl w v2 l B2) (hl : l.length ≤ 1048576) :
    Calls Tryz.prog 90 #[v1, v2] w fun e w' => e = .returned (.bool true) ∧ Below w.heap.size w w' := by
  have z : ∀ (a1 a2 : Option Addr) (c1 c2 : Nat), Calls Tryz.prog 90 #[.slice a1 0 c1, .slice a2 0 c2] w fun e w' => e = .returned (.bool true) ∧ Below w.heap.size w w' := fun a1 a2 c1 c2 => (eq_zero a1 a2 c1 c2 w).mono (by rintro e w' ⟨rfl, rfl⟩; exact ⟨rfl, Below.refl _ _⟩)
  rcases h1 with ⟨rfl, rfl⟩ | ⟨g1, cap1, rfl, -, k2, k3, -⟩
  · rcases h2 with ⟨rfl, -⟩ | ⟨g2, cap2, rfl, -, m2, m3, -⟩
    · exact z _ _ _ _
    · exact z _ _ _ _
  · rcases h2 with ⟨rfl, rfl⟩ | ⟨g2, cap2, rfl, -, m2, m3, -⟩
    · exact z _ _ _ _
    · exact eqAskS g1 0 cap1 g2 0 cap2 l w k3 m3 k2 m2 hl
theorem mark_zero (a : Option Addr) (c : Nat) (k : Int) (w : World) : Calls Tryz.prog 61 #[.slice a 0 c, .int .i64 k] w fun e w' => e = .returned (.int .i64 k) ∧ w' = w := by
  go_enter Tryz.func61, Tryz.ntmps61
  go_wp2
  refine wp_loop_rounds 1 ?_
  rw [rounds_succ]
  go_wp2
  go_ret
  exact ⟨rfl, rfl⟩
theorem held_zero (a : Option Addr) (c : Nat) (k : Int) (w : World) : Calls Tryz.prog 66 #[.slice a 0 c, .int .i64 k] w fun e w' => e = .returned (.int .i64 k) ∧ w' = w := by
  go_enter Tryz.func66, Tryz.ntmps66
  go_wp2
  refine wp_loop_rounds 1 ?_
  rw [rounds_succ]
  go_wp2
  go_ret
  exact ⟨rfl, rfl⟩
theorem mark_sl {w : World} {v : Value} {l : List AskD} {B : Nat} (h : Sl w v l B) (k0 : Int) (hl : l.length ≤ 1048576) (h0 : 0 ≤ k0) (h1 : k0 ≤ 1000000000) :
    Calls Tryz.prog 61 #[v, .int .i64 k0] w fun e w' => e = .returned (.int .i64 (k0 + 4 * (l.length : Int))) ∧ Sl w' v (marks k0 l.length) B ∧ w.grownBy w' v.ownBlock := by
  rcases h with ⟨rfl, rfl⟩ | ⟨g, cap, rfl, a1, a2, a3, a4⟩
  · refine (mark_zero none 0 k0 w).mono ?_
    rintro e w' ⟨rfl, rfl⟩
    exact ⟨by simp, Or.inl ⟨rfl, rfl⟩, ⟨rfl, rfl, rfl, Nat.le_refl _, fun _ _ _ => rfl⟩⟩
  · refine (markS g l.length cap k0 w a4 a2 hl h0 (by omega)).mono ?_
    rintro e w' ⟨rfl, b1, b2, b3⟩
    exact ⟨rfl, Or.inr ⟨g, cap, by rw [len_marks], a1, Nat.lt_of_lt_of_le a2 b3.size, b1, by rw [len_marks]; exact b2⟩, ex_grown b3⟩
theorem held_sl {w : World} {v : Value} {m : Nat} {B : Nat} (k0 : Int) (h : Sl w v (marks k0 m) B) (hl : m ≤ 1048576) (h0 : 0 ≤ k0) (h1 : k0 ≤ 1000000000) :
    Calls Tryz.prog 66 #[v, .int .i64 k0] w fun e w' => e = .returned (.int .i64 (k0 + 4 * (m : Int))) ∧ Below w.heap.size w w' := by
  rcases h with ⟨rfl, h⟩ | ⟨g, cap, rfl, a1, a2, a3, a4⟩
  · have hm : m = 0 := by have := congrArg List.length h; rw [len_marks] at this; simpa using this
    subst hm
    refine (held_zero none 0 k0 w).mono ?_
    rintro e w' ⟨rfl, rfl⟩
    exact ⟨by simp, Below.refl _ _⟩
  · rw [len_marks]
    exact heldS g m cap k0 w a3 a2 hl h0 (by omega)
end Go.Proofs.YtdkjhonaafadjaaGreat.A
/- Mates whose lists are the call's own. -/
namespace Go.Proofs.YtdkjhonaafadjaaGreat
open Go.RowKit
set_option linter.unusedVariables false

/-- Nothing that was there has turned but for the blocks that P tells. -/
structure Off (P : Nat → Prop) (w w' : World) : Prop where
  os : w'.os = w.os
  tape : w'.tape = w.tape
  output : w'.output = w.output
  size : w.heap.size ≤ w'.heap.size
  block : ∀ k, k < w.heap.size → ¬ P k → w'.heap[k]? = w.heap[k]?
theorem Off.refl (P : Nat → Prop) (w : World) : Off P w w := ⟨rfl, rfl, rfl, Nat.le_refl _, fun _ _ _ => rfl⟩
theorem Off.trans {P : Nat → Prop} {a b c : World} (h : Off P a b) (k : Off P b c) : Off P a c :=
  ⟨k.os.trans h.os, k.tape.trans h.tape, k.output.trans h.output, Nat.le_trans h.size k.size, fun i hi hp => (k.block i (Nat.lt_of_lt_of_le hi h.size) hp).trans (h.block i hi hp)⟩
theorem Off.of_below {P : Nat → Prop} {a b : World} (h : Below a.heap.size a b) : Off P a b := ⟨h.os, h.tape, h.output, h.size, fun i hi _ => h.block i hi⟩
theorem Off.of_grown {P : Nat → Prop} {a b : World} {row : Option Nat} (h : a.grownBy b row) (hp : ∀ j, row = some j → P j) : Off P a b := ⟨h.os, h.tape, h.output, h.size, fun i hi hn => h.block i hi (fun e => hn (hp i e.symm))⟩
theorem Off.cell {P : Nat → Prop} {a b : World} (h : Off P a b) {p : Addr} (hp : p.block < a.heap.size) (hn : ¬ P p.block) : b.cell? p = a.cell? p := World.cell?_of_block (w := a) (h.block p.block hp hn)
theorem Off.below {P : Nat → Prop} {a b : World} {B : Nat} (h : Off P a b) (hP : ∀ j, P j → B ≤ j) (hB : B ≤ a.heap.size) : Below B a b := ⟨h.os, h.tape, h.output, h.size, fun i hi => h.block i (by omega) (fun hp => by have := hP i hp; omega)⟩
theorem Off.grown {P : Nat → Prop} {a b : World} (h : Off P a b) {v : Value} (hv : ∀ g, v.ownBlock = some g → ¬ P g) : ∀ g, v.ownBlock = some g → g < a.heap.size → b.heap[g]? = a.heap[g]? := fun g hg hl => h.block g hl (hv g hg)

/-- Two values don't share a block. -/
def Dif (a b : Value) : Prop := a.ownBlock = none ∨ a.ownBlock ≠ b.ownBlock
theorem Dif.symm {a b : Value} (h : Dif a b) : Dif b a := by
  rcases h with h | h
  · cases hb : b.ownBlock with
    | none => exact Or.inl hb
    | some g => exact Or.inr (by rw [h, hb]; simp)
  · exact Or.inr (fun e => h e.symm)
/-- A mate's lists, all the call's own and none in another's block. -/
structure SlM (w : World) (m : MateD) (s1 s2 s3 s4 : Value) (B : Nat) : Prop where
  a1 : W.Sl w s1 m.ws B
  a2 : Sl w s2 m.rs B
  a3 : A.Sl w s3 m.qs B
  a4 : A.Sl w s4 m.gs B
  d12 : Dif s1 s2
  d13 : Dif s1 s3
  d14 : Dif s1 s4
  d23 : Dif s2 s3
  d24 : Dif s2 s4
  d34 : Dif s3 s4
theorem SlM.keep {w w' : World} {m : MateD} {s1 s2 s3 s4 : Value} {B : Nat} (h : SlM w m s1 s2 s3 s4 B) (hb : Below w.heap.size w w') : SlM w' m s1 s2 s3 s4 B :=
  ⟨h.a1.keep hb, h.a2.keep hb, h.a3.keep hb, h.a4.keep hb, h.d12, h.d13, h.d14, h.d23, h.d24, h.d34⟩
theorem SlM.lt {w : World} {m : MateD} {s1 s2 s3 s4 : Value} {B : Nat} (h : SlM w m s1 s2 s3 s4 B) : ∀ j, (s1.ownBlock = some j ∨ s2.ownBlock = some j ∨ s3.ownBlock = some j ∨ s4.ownBlock = some j) → j < w.heap.size := by
  rintro j (e | e | e | e)
  · exact (h.a1.lt j e).2
  · exact (h.a2.lt j e).2
  · exact (h.a3.lt j e).2
  · exact (h.a4.lt j e).2
theorem SlM.ge {w : World} {m : MateD} {s1 s2 s3 s4 : Value} {B : Nat} (h : SlM w m s1 s2 s3 s4 B) : ∀ j, (s1.ownBlock = some j ∨ s2.ownBlock = some j ∨ s3.ownBlock = some j ∨ s4.ownBlock = some j) → B ≤ j := by
  rintro j (e | e | e | e)
  · exact (h.a1.lt j e).1
  · exact (h.a2.lt j e).1
  · exact (h.a3.lt j e).1
  · exact (h.a4.lt j e).1
theorem SlM.put1 {w w' : World} {m : MateD} {s1 s2 s3 s4 : Value} {B : Nat} {l : List W.WantD} (h : SlM w m s1 s2 s3 s4 B) (r : W.Sl w' s1 l B) (g : w.grownBy w' s1.ownBlock) : SlM w' { m with ws := l } s1 s2 s3 s4 B :=
  ⟨r, h.a2.grown g h.d12.symm, h.a3.grown g h.d13.symm, h.a4.grown g h.d14.symm, h.d12, h.d13, h.d14, h.d23, h.d24, h.d34⟩
theorem SlM.put2 {w w' : World} {m : MateD} {s1 s2 s3 s4 : Value} {B : Nat} {l : List RunD} (h : SlM w m s1 s2 s3 s4 B) (r : Sl w' s2 l B) (g : w.grownBy w' s2.ownBlock) : SlM w' { m with rs := l } s1 s2 s3 s4 B :=
  ⟨h.a1.grown g h.d12, r, h.a3.grown g h.d23.symm, h.a4.grown g h.d24.symm, h.d12, h.d13, h.d14, h.d23, h.d24, h.d34⟩
theorem SlM.put3 {w w' : World} {m : MateD} {s1 s2 s3 s4 : Value} {B : Nat} {l : List A.AskD} (h : SlM w m s1 s2 s3 s4 B) (r : A.Sl w' s3 l B) (g : w.grownBy w' s3.ownBlock) : SlM w' { m with qs := l } s1 s2 s3 s4 B :=
  ⟨h.a1.grown g h.d13, h.a2.grown g h.d23, r, h.a4.grown g h.d34.symm, h.d12, h.d13, h.d14, h.d23, h.d24, h.d34⟩
theorem SlM.put4 {w w' : World} {m : MateD} {s1 s2 s3 s4 : Value} {B : Nat} {l : List A.AskD} (h : SlM w m s1 s2 s3 s4 B) (r : A.Sl w' s4 l B) (g : w.grownBy w' s4.ownBlock) : SlM w' { m with gs := l } s1 s2 s3 s4 B :=
  ⟨h.a1.grown g h.d14, h.a2.grown g h.d24, h.a3.grown g h.d34, r, h.d12, h.d13, h.d14, h.d23, h.d24, h.d34⟩
theorem boxes_sl {w w' : World} {m : MateD} {s1 s2 s3 s4 t1 t2 t3 t4 : Value} (hb : Below ((w.alloc (.cells #[.string m.nm, .bool m.up, .int .i64 m.ck, .bool m.kn, .int .i64 m.se, s1, s2, s3, s4] 52)).alloc (.cells #[.string m.nm, .bool m.up, .int .i64 m.ck, .bool m.kn, .int .i64 m.se, t1, t2, t3, t4] 52)).heap.size ((w.alloc (.cells #[.string m.nm, .bool m.up, .int .i64 m.ck, .bool m.kn, .int .i64 m.se, s1, s2, s3, s4] 52)).alloc (.cells #[.string m.nm, .bool m.up, .int .i64 m.ck, .bool m.kn, .int .i64 m.se, t1, t2, t3, t4] 52)) w') :
    (∀ k, w'.cell? ⟨w.heap.size, k, none⟩ = (#[.string m.nm, .bool m.up, .int .i64 m.ck, .bool m.kn, .int .i64 m.se, s1, s2, s3, s4] : Array Value)[k]?) ∧ (∀ k, w'.cell? ⟨w.heap.size + 1, k, none⟩ = (#[.string m.nm, .bool m.up, .int .i64 m.ck, .bool m.kn, .int .i64 m.se, t1, t2, t3, t4] : Array Value)[k]?) := by
  constructor
  · intro k
    rw [hb.cell (p := ⟨w.heap.size, k, none⟩) (by simp; omega)]
    simp [go_sem]
  · intro k
    rw [hb.cell (p := ⟨w.heap.size + 1, k, none⟩) (by simp)]
    simp [go_sem]

/-- The lists' lengths. -/
structure Lens (m : MateD) : Prop where
  k1 : m.ws.length ≤ 1048576
  k2 : m.rs.length ≤ 1048576
  k3 : m.qs.length ≤ 1048576
  k4 : m.gs.length ≤ 1048576

set_option maxRecDepth 4000 in
set_option maxHeartbeats 2000000 in
theorem eqMate_sl (m : MateD) (s1 s2 s3 s4 t1 t2 t3 t4 : Value) (B1 B2 : Nat) (w : World) (h1 : SlM w m s1 s2 s3 s4 B1) (h2 : SlM w m t1 t2 t3 t4 B2) (hf : Lens m) :
    Calls Tryz.prog 56 #[.agg #[.string m.nm, .bool m.up, .int .i64 m.ck, .bool m.kn, .int .i64 m.se, s1, s2, s3, s4], .agg #[.string m.nm, .bool m.up, .int .i64 m.ck, .bool m.kn, .int .i64 m.se, t1, t2, t3, t4]] w fun e w' => e = .returned (.bool true) ∧ Below w.heap.size w w' := by
  have Hb0 : Hid (Below w.heap.size w ((w.alloc (.cells #[.string m.nm, .bool m.up, .int .i64 m.ck, .bool m.kn, .int .i64 m.se, s1, s2, s3, s4] 52)).alloc (.cells #[.string m.nm, .bool m.up, .int .i64 m.ck, .bool m.kn, .int .i64 m.se, t1, t2, t3, t4] 52))) := bl_alloc (bl_alloc (Below.refl _ _) _) _
  have P0 : Hid _ := h1.keep Hb0.out
  have Q0 : Hid _ := h2.keep Hb0.out
  go_enter Tryz.func56, Tryz.ntmps56
  go_wp2_with fail
  refine (W.eq_sl P0.out.a1 Q0.out.a1 hf.k1).mono ?_
  rintro e w1 ⟨rfl, c1⟩
  have D1 : Hid (Below ((w.alloc (.cells #[.string m.nm, .bool m.up, .int .i64 m.ck, .bool m.kn, .int .i64 m.se, s1, s2, s3, s4] 52)).alloc (.cells #[.string m.nm, .bool m.up, .int .i64 m.ck, .bool m.kn, .int .i64 m.se, t1, t2, t3, t4] 52)).heap.size ((w.alloc (.cells #[.string m.nm, .bool m.up, .int .i64 m.ck, .bool m.kn, .int .i64 m.se, s1, s2, s3, s4] 52)).alloc (.cells #[.string m.nm, .bool m.up, .int .i64 m.ck, .bool m.kn, .int .i64 m.se, t1, t2, t3, t4] 52)) w1) := c1
  have P1 : Hid _ := P0.out.keep D1.out
  have Q1 : Hid _ := Q0.out.keep D1.out
  clear c1
  obtain ⟨ka1, kb1⟩ := boxes_sl D1.out
  go_wp2_with fail
  refine (eq_sl P1.out.a2 Q1.out.a2 hf.k2).mono ?_
  rintro e w2 ⟨rfl, c2⟩
  have D2 : Hid (Below ((w.alloc (.cells #[.string m.nm, .bool m.up, .int .i64 m.ck, .bool m.kn, .int .i64 m.se, s1, s2, s3, s4] 52)).alloc (.cells #[.string m.nm, .bool m.up, .int .i64 m.ck, .bool m.kn, .int .i64 m.se, t1, t2, t3, t4] 52)).heap.size ((w.alloc (.cells #[.string m.nm, .bool m.up, .int .i64 m.ck, .bool m.kn, .int .i64 m.se, s1, s2, s3, s4] 52)).alloc (.cells #[.string m.nm, .bool m.up, .int .i64 m.ck, .bool m.kn, .int .i64 m.se, t1, t2, t3, t4] 52)) w2) := bl_trans D1.out c2
  have P2 : Hid _ := P0.out.keep D2.out
  have Q2 : Hid _ := Q0.out.keep D2.out
  clear c2 ka1 kb1
  obtain ⟨ka2, kb2⟩ := boxes_sl D2.out
  go_wp2_with fail
  refine (A.eq_sl P2.out.a3 Q2.out.a3 hf.k3).mono ?_
  rintro e w3 ⟨rfl, c3⟩
  have D3 : Hid (Below ((w.alloc (.cells #[.string m.nm, .bool m.up, .int .i64 m.ck, .bool m.kn, .int .i64 m.se, s1, s2, s3, s4] 52)).alloc (.cells #[.string m.nm, .bool m.up, .int .i64 m.ck, .bool m.kn, .int .i64 m.se, t1, t2, t3, t4] 52)).heap.size ((w.alloc (.cells #[.string m.nm, .bool m.up, .int .i64 m.ck, .bool m.kn, .int .i64 m.se, s1, s2, s3, s4] 52)).alloc (.cells #[.string m.nm, .bool m.up, .int .i64 m.ck, .bool m.kn, .int .i64 m.se, t1, t2, t3, t4] 52)) w3) := bl_trans D2.out c3
  have P3 : Hid _ := P0.out.keep D3.out
  have Q3 : Hid _ := Q0.out.keep D3.out
  clear c3 ka2 kb2
  obtain ⟨ka3, kb3⟩ := boxes_sl D3.out
  go_wp2_with fail
  refine (A.eq_sl P3.out.a4 Q3.out.a4 hf.k4).mono ?_
  rintro e w4 ⟨rfl, c4⟩
  have D4 : Hid (Below ((w.alloc (.cells #[.string m.nm, .bool m.up, .int .i64 m.ck, .bool m.kn, .int .i64 m.se, s1, s2, s3, s4] 52)).alloc (.cells #[.string m.nm, .bool m.up, .int .i64 m.ck, .bool m.kn, .int .i64 m.se, t1, t2, t3, t4] 52)).heap.size ((w.alloc (.cells #[.string m.nm, .bool m.up, .int .i64 m.ck, .bool m.kn, .int .i64 m.se, s1, s2, s3, s4] 52)).alloc (.cells #[.string m.nm, .bool m.up, .int .i64 m.ck, .bool m.kn, .int .i64 m.se, t1, t2, t3, t4] 52)) w4) := bl_trans D3.out c4
  have P4 : Hid _ := P0.out.keep D4.out
  have Q4 : Hid _ := Q0.out.keep D4.out
  clear c4 ka3 kb3
  obtain ⟨ka4, kb4⟩ := boxes_sl D4.out
  go_wp2
  go_ret
  exact ⟨rfl, bl_trans Hb0.out D4.out⟩
end Go.Proofs.YtdkjhonaafadjaaGreat
/- Lists of mates. -/
namespace Go.Proofs.YtdkjhonaafadjaaGreat.Mt
open Go.RowKit
set_option linter.unusedVariables false

/-- A mate in a row: its lists are slices. -/
structure MRow where
  m : MateD
  a1 : Option Addr
  c1 : Nat
  a2 : Option Addr
  c2 : Nat
  a3 : Option Addr
  c3 : Nat
  a4 : Option Addr
  c4 : Nat
def MRow.cells (r : MRow) : List Value := [.string r.m.nm, .bool r.m.up, .int .i64 r.m.ck, .bool r.m.kn, .int .i64 r.m.se, .slice r.a1 r.m.ws.length r.c1, .slice r.a2 r.m.rs.length r.c2, .slice r.a3 r.m.qs.length r.c3, .slice r.a4 r.m.gs.length r.c4]
def Like (ps qs : List MRow) : Prop := ps.map MRow.m = qs.map MRow.m
theorem Like.len {ps qs : List MRow} (h : Like ps qs) : ps.length = qs.length := by simpa using congrArg List.length h
theorem Like.at {ps qs : List MRow} (h : Like ps qs) {k : Nat} {p q : MRow} (hp : ps[k]? = some p) (hq : qs[k]? = some q) : p.m = q.m := by
  have h1 : (ps.map MRow.m)[k]? = (qs.map MRow.m)[k]? := by rw [h]
  rw [List.getElem?_map, List.getElem?_map, hp, hq] at h1
  simpa using h1
theorem Like.get {ps qs : List MRow} (h : Like ps qs) {k : Nat} {p : MRow} (hp : ps[k]? = some p) : ∃ q, qs[k]? = some q ∧ p.m = q.m := by
  have hk : k < qs.length := by rw [← h.len]; exact (List.getElem?_eq_some_iff.1 hp).1
  exact ⟨qs[k], List.getElem?_eq_getElem hk, h.at hp (List.getElem?_eq_getElem hk)⟩
theorem Like.symm {ps qs : List MRow} (h : Like ps qs) : Like qs ps := Eq.symm h
theorem Like.trans {ps qs rs : List MRow} (h : Like ps qs) (h' : Like qs rs) : Like ps rs := Eq.trans h h'
theorem Like.mem {ps qs : List MRow} (h : Like ps qs) {p : MRow} (hp : p ∈ ps) : ∃ q ∈ qs, p.m = q.m := by
  obtain ⟨k, hk⟩ := List.getElem?_of_mem hp
  obtain ⟨q, hq, e⟩ := h.get hk
  exact ⟨q, List.mem_of_getElem? hq, e⟩
/-- The mates rs lie in block b from off on. -/
def RowsAt (w : World) (b off : Nat) (rs : List MRow) : Prop := ∀ k r, rs[k]? = some r → w.rangeAt b (off + k * 9) r.cells
theorem RowsAt.keep {w w' : World} {b off : Nat} {rs : List MRow} (h : RowsAt w b off rs) (hb : b < w.heap.size) (hB : Below w.heap.size w w') : RowsAt w' b off rs :=
  fun k r hk j v hj => (hB.cell (p := ⟨b, off + k * 9 + j, none⟩) hb).trans (h k r hk j v hj)
theorem RowsAt.at {w : World} {b off : Nat} {rs : List MRow} (h : RowsAt w b off rs) {k : Nat} {r : MRow} (hk : rs[k]? = some r) :
    w.cell? ⟨b, off + k * 9, none⟩ = some (.string r.m.nm) ∧ w.cell? ⟨b, off + k * 9 + 1, none⟩ = some (.bool r.m.up) ∧ w.cell? ⟨b, off + k * 9 + 2, none⟩ = some (.int .i64 r.m.ck) ∧ w.cell? ⟨b, off + k * 9 + 3, none⟩ = some (.bool r.m.kn) ∧ w.cell? ⟨b, off + k * 9 + 4, none⟩ = some (.int .i64 r.m.se) ∧ w.cell? ⟨b, off + k * 9 + 5, none⟩ = some (.slice r.a1 r.m.ws.length r.c1) ∧ w.cell? ⟨b, off + k * 9 + 6, none⟩ = some (.slice r.a2 r.m.rs.length r.c2) ∧ w.cell? ⟨b, off + k * 9 + 7, none⟩ = some (.slice r.a3 r.m.qs.length r.c3) ∧ w.cell? ⟨b, off + k * 9 + 8, none⟩ = some (.slice r.a4 r.m.gs.length r.c4) :=
  ⟨h k r hk 0 _ rfl, h k r hk 1 _ rfl, h k r hk 2 _ rfl, h k r hk 3 _ rfl, h k r hk 4 _ rfl, h k r hk 5 _ rfl, h k r hk 6 _ rfl, h k r hk 7 _ rfl, h k r hk 8 _ rfl⟩
/-- What came in. -/
structure MRow.inn (w : World) (r : MRow) : Prop where
  n : r.m.nm.size ≤ maxLen
  i1 : W.In w (.slice r.a1 r.m.ws.length r.c1) r.m.ws
  i2 : Go.Proofs.YtdkjhonaafadjaaGreat.In w (.slice r.a2 r.m.rs.length r.c2) r.m.rs
  i3 : A.In w (.slice r.a3 r.m.qs.length r.c3) r.m.qs
  i4 : A.In w (.slice r.a4 r.m.gs.length r.c4) r.m.gs
theorem MRow.inn.keep {w w' : World} {r : MRow} (h : r.inn w) (hB : Below w.heap.size w w') : r.inn w' := ⟨h.n, h.i1.keep hB, h.i2.keep hB, h.i3.keep hB, h.i4.keep hB⟩
/-- The lists lie in blocks of the call's own, behind block B. -/
structure MRow.blk (B : Nat) (w : World) (r : MRow) (g1 g2 g3 g4 : Nat) : Prop where
  e1 : r.a1 = some ⟨g1, 0, none⟩
  f1 : r.c1 = r.m.ws.length
  b1 : B < g1
  e2 : r.a2 = some ⟨g2, 0, none⟩
  f2 : r.c2 = r.m.rs.length
  b2 : B < g2
  e3 : r.a3 = some ⟨g3, 0, none⟩
  f3 : r.c3 = r.m.qs.length
  b3 : B < g3
  e4 : r.a4 = some ⟨g4, 0, none⟩
  f4 : r.c4 = r.m.gs.length
  b4 : B < g4
  l : Lists w r.m g1 g2 g3 g4
theorem MRow.blk.keep {B : Nat} {w w' : World} {r : MRow} {g1 g2 g3 g4 : Nat} (h : r.blk B w g1 g2 g3 g4) (hB : Below w.heap.size w w') : r.blk B w' g1 g2 g3 g4 := { h with l := h.l.keep hB }
theorem MRow.blk.low {B B' : Nat} {w : World} {r : MRow} {g1 g2 g3 g4 : Nat} (h : r.blk B w g1 g2 g3 g4) (hB : B' ≤ B) : r.blk B' w g1 g2 g3 g4 := { h with b1 := by have := h.b1; omega, b2 := by have := h.b2; omega, b3 := by have := h.b3; omega, b4 := by have := h.b4; omega }
def Lns (rs : List MRow) : Prop := ∀ r ∈ rs, Lens r.m
def Blks (B : Nat) (w : World) (rs : List MRow) : Prop := ∀ r ∈ rs, ∃ g1 g2 g3 g4, r.blk B w g1 g2 g3 g4
theorem Blks.keep {B : Nat} {w w' : World} {rs : List MRow} (h : Blks B w rs) (hB : Below w.heap.size w w') : Blks B w' rs := fun r hr => by
  obtain ⟨g1, g2, g3, g4, h⟩ := h r hr
  exact ⟨g1, g2, g3, g4, h.keep hB⟩

theorem szMate_g (m : MateD) (v1 v2 v3 v4 : Value) (left : Int) (w : World) (i1 : W.In w v1 m.ws) (i2 : Go.Proofs.YtdkjhonaafadjaaGreat.In w v2 m.rs) (i3 : A.In w v3 m.qs) (i4 : A.In w v4 m.gs) (hn : m.nm.size ≤ maxLen) (h0 : 0 ≤ left) (h1 : left ≤ 1048576) :
    Calls Tryz.prog 69 #[.agg #[.string m.nm, .bool m.up, .int .i64 m.ck, .bool m.kn, .int .i64 m.se, v1, v2, v3, v4], .int .i64 left] w fun e w' => (e = .returned (.int .i64 (-1)) ∨ ∃ x : Int, e = .returned (.int .i64 x) ∧ 0 ≤ x ∧ x ≤ 1048576 ∧ m.ws.length ≤ 1048576 ∧ m.rs.length ≤ 1048576 ∧ m.qs.length ≤ 1048576 ∧ m.gs.length ≤ 1048576) ∧ Below w.heap.size w w' := by
  have Hb0 : Hid (Below w.heap.size w (w.alloc (.cells #[.string m.nm, .bool m.up, .int .i64 m.ck, .bool m.kn, .int .i64 m.se, v1, v2, v3, v4] 99))) := bl_alloc (Below.refl _ _) _
  by_cases hnm : (m.nm.size : Int) ≤ left
  · go_enter Tryz.func69, Tryz.ntmps69
    go_wp2_with fail
    refine (W.sz_in (i1.keep Hb0.out) (left - (m.nm.size : Int)) (by omega) (by omega)).mono ?_
    rintro e w1 ⟨hx1, c1⟩
    have C1 : Hid (Below w.heap.size w w1) := bl_trans Hb0.out c1
    have D1 : Hid (Below (w.alloc (.cells #[.string m.nm, .bool m.up, .int .i64 m.ck, .bool m.kn, .int .i64 m.se, v1, v2, v3, v4] 99)).heap.size (w.alloc (.cells #[.string m.nm, .bool m.up, .int .i64 m.ck, .bool m.kn, .int .i64 m.se, v1, v2, v3, v4] 99)) w1) := c1
    clear c1
    have kb1 := box_keep D1.out
    rcases hx1 with rfl | ⟨x1, rfl, p1, r1, l1⟩
    · go_wp2
      go_ret
      exact ⟨Or.inl rfl, C1.out⟩
    go_wp2_with fail
    refine (sz_in (i2.keep C1.out) x1 (by omega) (by omega)).mono ?_
    rintro e w2 ⟨hx2, c2⟩
    have C2 : Hid (Below w.heap.size w w2) := bl_trans C1.out c2
    have D2 : Hid (Below (w.alloc (.cells #[.string m.nm, .bool m.up, .int .i64 m.ck, .bool m.kn, .int .i64 m.se, v1, v2, v3, v4] 99)).heap.size (w.alloc (.cells #[.string m.nm, .bool m.up, .int .i64 m.ck, .bool m.kn, .int .i64 m.se, v1, v2, v3, v4] 99)) w2) := bl_trans D1.out c2
    clear c2 kb1
    have kb2 := box_keep D2.out
    rcases hx2 with rfl | ⟨x2, rfl, p2, r2, l2⟩
    · go_wp2
      go_ret
      exact ⟨Or.inl rfl, C2.out⟩
    go_wp2_with fail
    refine (A.sz_in (i3.keep C2.out) x2 (by omega) (by omega)).mono ?_
    rintro e w3 ⟨hx3, c3⟩
    have C3 : Hid (Below w.heap.size w w3) := bl_trans C2.out c3
    have D3 : Hid (Below (w.alloc (.cells #[.string m.nm, .bool m.up, .int .i64 m.ck, .bool m.kn, .int .i64 m.se, v1, v2, v3, v4] 99)).heap.size (w.alloc (.cells #[.string m.nm, .bool m.up, .int .i64 m.ck, .bool m.kn, .int .i64 m.se, v1, v2, v3, v4] 99)) w3) := bl_trans D2.out c3
    clear c3 kb2
    have kb3 := box_keep D3.out
    rcases hx3 with rfl | ⟨x3, rfl, p3, r3, l3⟩
    · go_wp2
      go_ret
      exact ⟨Or.inl rfl, C3.out⟩
    go_wp2_with fail
    refine (A.sz_in (i4.keep C3.out) x3 (by omega) (by omega)).mono ?_
    rintro e w4 ⟨hx4, c4⟩
    have C4 : Hid (Below w.heap.size w w4) := bl_trans C3.out c4
    have D4 : Hid (Below (w.alloc (.cells #[.string m.nm, .bool m.up, .int .i64 m.ck, .bool m.kn, .int .i64 m.se, v1, v2, v3, v4] 99)).heap.size (w.alloc (.cells #[.string m.nm, .bool m.up, .int .i64 m.ck, .bool m.kn, .int .i64 m.se, v1, v2, v3, v4] 99)) w4) := bl_trans D3.out c4
    clear c4 kb3
    have kb4 := box_keep D4.out
    rcases hx4 with rfl | ⟨x4, rfl, p4, r4, l4⟩
    · go_wp2
      go_ret
      exact ⟨Or.inl rfl, C4.out⟩
    go_wp2
    go_ret
    exact ⟨Or.inr ⟨x4, rfl, p4, r4, l1, l2, l3, l4⟩, C4.out⟩
  · unfold maxLen at hn
    have hnm' : (left : Int) < (m.nm.size : Int) := by omega
    go_enter Tryz.func69, Tryz.ntmps69
    go_wp2
    go_ret
    exact ⟨Or.inl rfl, Hb0.out⟩

set_option maxHeartbeats 1000000 in
theorem szMateS (b off cap : Nat) (rs : List MRow) (left : Int) (w : World) (hR : RowsAt w b off rs) (hb : b < w.heap.size) (hf : ∀ r ∈ rs, r.inn w) (h0 : 0 ≤ left) (h1 : left ≤ 1048576) (hl : rs.length ≤ maxLen) :
    Calls Tryz.prog 33 #[.slice (some ⟨b, off, none⟩) rs.length cap, .int .i64 left] w fun e w' => (e = .returned (.int .i64 (-1)) ∨ ∃ m : Int, e = .returned (.int .i64 m) ∧ 0 ≤ m ∧ m ≤ 1048576 ∧ (rs.length : Int) ≤ left ∧ Lns rs) ∧ Below w.heap.size w w' := by
  unfold maxLen at hl
  have HF : Hid _ := hf
  clear hf
  by_cases hn : (rs.length : Int) ≤ left
  · go_enter Tryz.func33, Tryz.ntmps33
    go_wp2
    go_loopw [1, 5] (fun l i wx => ∃ (k : Nat) (lv : Int), k ≤ rs.length ∧ i = .int .i64 k ∧ l = .int .i64 lv ∧ 0 ≤ lv ∧ lv ≤ 1048576 ∧ Hid (∀ j r, j < k → rs[j]? = some r → Lens r.m) ∧ Below w.heap.size w wx) (fun _ i _ => rs.length - (intOf i).toNat)
    case atStart => exact ⟨0, _, Nat.zero_le _, rfl, rfl, by omega, by omega, (fun j r hj _ => by omega), Below.refl _ _⟩
    case round =>
      obtain ⟨k, lv, hk, rfl, rfl, l0, l1, Ha, hB⟩ := hrel
      by_cases hlt : k < rs.length
      · obtain ⟨r, hr⟩ : ∃ r, rs[k]? = some r := ⟨rs[k], List.getElem?_eq_getElem hlt⟩
        obtain ⟨c0, c1, c2, c3, c4, c5, c6, c7, c8⟩ := (hR.keep hb hB).at hr
        have Hr : Hid _ := hr
        have Hi : Hid (r.inn wr) := (HF.out r (List.mem_of_getElem? hr)).keep hB
        clear hr
        go_wp2_with fail
        refine (szMate_g r.m _ _ _ _ lv _ Hi.out.i1 Hi.out.i2 Hi.out.i3 Hi.out.i4 Hi.out.n l0 l1).mono ?_
        rintro e w1 ⟨hx, hb1⟩
        have Hb : Hid (Below w.heap.size w w1) := bl_trans hB hb1
        clear hB hb1
        rcases hx with rfl | ⟨m, rfl, m0, m1, q1, q2, q3, q4⟩
        · go_wp2
          go_ret
          exact ⟨Or.inl rfl, Hb.out⟩
        · have hw : Hid (Lens r.m) := ⟨q1, q2, q3, q4⟩
          clear q1 q2 q3 q4
          go_wp2
          exact ⟨⟨k + 1, _, by omega, by go_num, rfl, by omega, by omega, (fun j q hj hq => by
            by_cases e : j = k
            · subst e; have hh := Hr.out; rw [hh] at hq; cases hq; exact hw.out
            · exact Ha.out j q (by omega) hq), Hb.out⟩, by simp [intOf]; omega⟩
      · go_wp2
        go_ret
        exact ⟨Or.inr ⟨_, rfl, l0, l1, hn, fun r hr => by
          obtain ⟨j, hj⟩ := List.getElem?_of_mem hr
          have hjl : j < rs.length := (List.getElem?_eq_some_iff.1 hj).1
          exact Ha.out j r (by omega) hj⟩, hB⟩
  · go_enter Tryz.func33, Tryz.ntmps33
    go_wp2
    go_ret
    exact ⟨Or.inl rfl, Below.refl _ _⟩
theorem sz_nil (a : Option Addr) (cap : Nat) (left : Int) (w : World) (h0 : 0 ≤ left) (h1 : left ≤ 1048576) :
    Calls Tryz.prog 33 #[.slice a 0 cap, .int .i64 left] w fun e w' => e = .returned (.int .i64 left) ∧ w' = w := by
  go_enter Tryz.func33, Tryz.ntmps33
  go_wp2
  refine wp_loop_rounds 1 ?_
  rw [rounds_succ]
  go_wp2
  go_ret
  exact ⟨rfl, rfl⟩
/-- A list that came in. -/
def In (w : World) (v : Value) (l : List MRow) : Prop := (l = [] ∧ ∃ a cap, v = .slice a 0 cap) ∨ ∃ b off cap, v = .slice (some ⟨b, off, none⟩) l.length cap ∧ l.length ≤ maxLen ∧ b < w.heap.size ∧ RowsAt w b off l ∧ ∀ r ∈ l, r.inn w
theorem In.keep {w w' : World} {v : Value} {l : List MRow} (h : In w v l) (hb : Below w.heap.size w w') : In w' v l := by
  rcases h with h | ⟨b, off, cap, h1, h2, h3, h4, h5⟩
  · exact Or.inl h
  · exact Or.inr ⟨b, off, cap, h1, h2, Nat.lt_of_lt_of_le h3 hb.size, h4.keep h3 hb, fun r hr => (h5 r hr).keep hb⟩
theorem In.inn {w : World} {v : Value} {l : List MRow} (h : In w v l) : ∀ r ∈ l, r.inn w := by
  rcases h with ⟨rfl, _⟩ | ⟨b, off, cap, h1, h2, h3, h4, h5⟩
  · intro r hr; cases hr
  · exact h5
theorem sz_in {w : World} {v : Value} {l : List MRow} (h : In w v l) (left : Int) (h0 : 0 ≤ left) (h1 : left ≤ 1048576) :
    Calls Tryz.prog 33 #[v, .int .i64 left] w fun e w' => (e = .returned (.int .i64 (-1)) ∨ ∃ m : Int, e = .returned (.int .i64 m) ∧ 0 ≤ m ∧ m ≤ 1048576 ∧ l.length ≤ 1048576 ∧ Lns l) ∧ Below w.heap.size w w' := by
  rcases h with ⟨rfl, a, cap, rfl⟩ | ⟨b, off, cap, rfl, k2, k3, k4, k5⟩
  · refine (sz_nil a cap left w h0 h1).mono ?_
    rintro e w' ⟨rfl, rfl⟩
    exact ⟨Or.inr ⟨left, rfl, h0, h1, by simp, fun r hr => by cases hr⟩, Below.refl _ _⟩
  · refine (szMateS b off cap l left w k4 k3 k5 h0 h1 k2).mono ?_
    rintro e w' ⟨rfl | ⟨m, rfl, m0, m1, hn, hL⟩, hb⟩
    · exact ⟨Or.inl rfl, hb⟩
    · exact ⟨Or.inr ⟨m, rfl, m0, m1, by omega, hL⟩, hb⟩
end Go.Proofs.YtdkjhonaafadjaaGreat.Mt
/- What the reading of a list of runs says of memory. -/
namespace Go.Proofs.YtdkjhonaafadjaaGreat
open Go.ChangeShapes Go.WideShapes Go.ChangeAt Go.RowKit

theorem exists_list {α : Type} (P : Nat → α → Prop) : ∀ (n : Nat), (∀ i, i < n → ∃ r, P i r) → ∃ rs : List α, rs.length = n ∧ ∀ i r, rs[i]? = some r → P i r
  | 0, _ => ⟨[], rfl, fun i r h => by simp at h⟩
  | n + 1, h => by
    obtain ⟨rs, hl, hr⟩ := exists_list P n (fun i hi => h i (by omega))
    obtain ⟨r, hp⟩ := h n (by omega)
    refine ⟨rs ++ [r], by simp [hl], fun i q hq => ?_⟩
    rcases Nat.lt_or_ge i n with hi | hi
    · rw [List.getElem?_append_left (by omega)] at hq; exact hr i q hq
    · rw [List.getElem?_append_right (by omega)] at hq
      by_cases e : i = n
      · subst e; simp [hl] at hq; subst hq; exact hp
      · rw [List.getElem?_eq_none (by simp; omega)] at hq; cases hq

section
variable {H : Type} {enc : TypeId × Value → H} {W : World} {base : Nat} {spare : Nat → Bool} {held : Bool} {fuel : Nat} {cs : List Value} {x : DataW H × List MemPlace}

/-- A list of runs that came in: it is empty, or lies in a block of old memory. -/
theorem read_runs (hx : DataW.trod enc Tryz.prog W base spare held fuel 96 cs = some x) :
    (∃ (a : Option Addr) (cap : Nat), cs = [.slice a 0 cap]) ∨
    ∃ (b off cap : Nat) (rs : List RunD), cs = [.slice (some ⟨b, off, none⟩) rs.length cap] ∧ 0 < rs.length ∧ rs.length ≤ maxLen ∧ b < W.heap.size ∧ RowsAt W b off rs ∧ ∀ r ∈ rs, r.fits := by
  rcases DataW.trod_slice Tryz.underlying96 hx with ⟨hcs, -⟩ | ⟨a, len, cap, elems, rest, n, -, hcs, -, hb, hlc, hcm, hel, hat, -⟩
  · exact Or.inl ⟨none, 0, hcs⟩
  by_cases h0 : len = 0
  · subst h0; exact Or.inl ⟨some a, cap, hcs⟩
  refine Or.inr ?_
  rw [cells_run] at hat
  have hall : ∀ i, i < len → ∃ r : RunD, W.cells? base (a.add (i * 11)) 11 = some r.cells ∧ r.fits := by
    intro i hi
    have h1 := hat i hi
    rw [List.getElem?_eq_getElem (by omega)] at h1
    obtain ⟨ws, hw, ht⟩ := Option.bind_eq_some_iff.1 h1
    obtain ⟨c, v, h, p, s, d, g, st, lf, fl, un, rfl, w0, w1, i0, i1, i2, i3, i4, i5, i6, i7, i8⟩ := read_run ht
    exact ⟨⟨c, h, v, p, s, d, g, st, lf, fl, un⟩, hw, w0, w1, i6.2, i7.1⟩
  obtain ⟨rs, hlen, hrs⟩ := exists_list _ len hall
  have hcell : ∀ i r, rs[i]? = some r → ∀ j v, r.cells[j]? = some v → W.cell? ((a.add (i * 11)).add j) = some v := by
    intro i r hr j v hj
    obtain ⟨hw, -⟩ := hrs i r hr
    have hlt : j < 11 := by
      rcases Nat.lt_or_ge j 11 with h' | h'
      · exact h'
      · rw [List.getElem?_eq_none (by simpa [RunD.cells] using h')] at hj; cases hj
    have h2 := (World.cells?_some hw).2.2 j hlt
    rw [h2, hj]
  obtain ⟨r0, hr0⟩ : ∃ r, rs[0]? = some r := ⟨rs[0]'(by omega), List.getElem?_eq_getElem (by omega)⟩
  have hc0 := hcell 0 r0 hr0 0 (.string r0.c) rfl
  obtain ⟨b, off, spot⟩ := a
  have hspot : spot = none := by
    have := World.cell?_spot hc0
    simpa [Addr.add] using this
  subst hspot
  have hblk : b < W.heap.size := World.cells?_block (hrs 0 r0 hr0).1 (by omega)
  refine ⟨b, off, cap, rs, by rw [hlen]; exact hcs, by omega, by omega, hblk, fun i r hr j v hj => ?_, fun r hr => ?_⟩
  · have := hcell i r hr j v hj
    rw [Addr.add_mid, Addr.add_mid] at this
    exact this
  · obtain ⟨i, hi⟩ := List.getElem?_of_mem hr
    exact (hrs i r hi).2
end
end Go.Proofs.YtdkjhonaafadjaaGreat
/- What the reading of an ask says of the cells. -/
namespace Go.Proofs.YtdkjhonaafadjaaGreat
open Go.ChangeShapes Go.WideShapes Go.ChangeAt Go.RowKit

theorem cells_ask : Tryz.prog.cellsOf 148 = 4 := by kernel_rfl
theorem list4 {α : Type} {l : List α} (h : l.length = 4) : ∃ a b c d, l = [a, b, c, d] := by
  match l, h with
  | [a, b, c, d], _ => exact ⟨a, b, c, d, rfl⟩

section
variable {H : Type} {enc : TypeId × Value → H} {W : World} {base : Nat} {spare : Nat → Bool} {held : Bool} {fuel : Nat} {cs : List Value} {x : DataW H × List MemPlace}
theorem read_ask (hx : DataW.trod enc Tryz.prog W base spare held fuel 148 cs = some x) :
    ∃ (h c : ByteArray) (f t : Int), cs = [.string h, .string c, .int .i64 f, .int .i64 t] ∧ h.size ≤ maxLen ∧ c.size ≤ maxLen := by
  obtain ⟨xs, n, rfl, -, hl, hn, hf⟩ := DataW.trod_struct Tryz.underlying148 hx
  rw [cells_ask] at hl
  obtain ⟨c0, c1, c2, c3, rfl⟩ := list4 hl
  have hn' : xs.length = 4 := hn
  have f0 : DataW.trod enc Tryz.prog W base spare held n 9 (List.take (Tryz.prog.cellsOf 9) [c0, c1, c2, c3]) = xs[0]? := hf 0 _ rfl
  have f1 : DataW.trod enc Tryz.prog W base spare held n 9 (List.take (Tryz.prog.cellsOf 9) [c1, c2, c3]) = xs[1]? := hf 1 _ rfl
  have f2 : DataW.trod enc Tryz.prog W base spare held n 3 (List.take (Tryz.prog.cellsOf 3) [c2, c3]) = xs[2]? := hf 2 _ rfl
  have f3 : DataW.trod enc Tryz.prog W base spare held n 3 (List.take (Tryz.prog.cellsOf 3) [c3]) = xs[3]? := hf 3 _ rfl
  simp only [cells_int, cells_string, List.take_succ_cons, List.take_zero] at f0 f1 f2 f3
  obtain ⟨y0, g0⟩ := some_of hn' (by decide) f0
  obtain ⟨y1, g1⟩ := some_of hn' (by decide) f1
  obtain ⟨y2, g2⟩ := some_of hn' (by decide) f2
  obtain ⟨y3, g3⟩ := some_of hn' (by decide) f3
  obtain ⟨h, e0, -, w0⟩ := DataW.trod_string Tryz.underlying9 g0
  obtain ⟨c, e1, -, w1⟩ := DataW.trod_string Tryz.underlying9 g1
  obtain ⟨f, e2, -, w2⟩ := DataW.trod_int Tryz.underlying3 g2
  obtain ⟨t, e3, -, w3⟩ := DataW.trod_int Tryz.underlying3 g3
  simp only [List.cons.injEq, and_true] at e0 e1 e2 e3
  subst e0 e1 e2 e3
  exact ⟨h, c, f, t, rfl, w0, w1⟩
end
end Go.Proofs.YtdkjhonaafadjaaGreat
/- What the reading of a list of asks says of memory. -/
namespace Go.Proofs.YtdkjhonaafadjaaGreat.A
open Go.ChangeShapes Go.WideShapes Go.ChangeAt Go.RowKit

theorem exists_list {α : Type} (P : Nat → α → Prop) : ∀ (n : Nat), (∀ i, i < n → ∃ r, P i r) → ∃ rs : List α, rs.length = n ∧ ∀ i r, rs[i]? = some r → P i r
  | 0, _ => ⟨[], rfl, fun i r h => by simp at h⟩
  | n + 1, h => by
    obtain ⟨rs, hl, hr⟩ := exists_list P n (fun i hi => h i (by omega))
    obtain ⟨r, hp⟩ := h n (by omega)
    refine ⟨rs ++ [r], by simp [hl], fun i q hq => ?_⟩
    rcases Nat.lt_or_ge i n with hi | hi
    · rw [List.getElem?_append_left (by omega)] at hq; exact hr i q hq
    · rw [List.getElem?_append_right (by omega)] at hq
      by_cases e : i = n
      · subst e; simp [hl] at hq; subst hq; exact hp
      · rw [List.getElem?_eq_none (by simp; omega)] at hq; cases hq

section
variable {H : Type} {enc : TypeId × Value → H} {W : World} {base : Nat} {spare : Nat → Bool} {held : Bool} {fuel : Nat} {cs : List Value} {x : DataW H × List MemPlace}

/-- A list of asks that came in: it is empty, or lies in a block of old memory. -/
theorem read_asks (hx : DataW.trod enc Tryz.prog W base spare held fuel 97 cs = some x) :
    (∃ (a : Option Addr) (cap : Nat), cs = [.slice a 0 cap]) ∨
    ∃ (b off cap : Nat) (rs : List AskD), cs = [.slice (some ⟨b, off, none⟩) rs.length cap] ∧ 0 < rs.length ∧ rs.length ≤ maxLen ∧ b < W.heap.size ∧ RowsAt W b off rs ∧ ∀ r ∈ rs, r.fits := by
  rcases DataW.trod_slice Tryz.underlying97 hx with ⟨hcs, -⟩ | ⟨a, len, cap, elems, rest, n, -, hcs, -, hb, hlc, hcm, hel, hat, -⟩
  · exact Or.inl ⟨none, 0, hcs⟩
  by_cases h0 : len = 0
  · subst h0; exact Or.inl ⟨some a, cap, hcs⟩
  refine Or.inr ?_
  rw [cells_ask] at hat
  have hall : ∀ i, i < len → ∃ r : AskD, W.cells? base (a.add (i * 4)) 4 = some r.cells ∧ r.fits := by
    intro i hi
    have h1 := hat i hi
    rw [List.getElem?_eq_getElem (by omega)] at h1
    obtain ⟨ws, hw, ht⟩ := Option.bind_eq_some_iff.1 h1
    obtain ⟨h, c, f, t, rfl, w0, w1⟩ := read_ask ht
    exact ⟨⟨h, c, f, t⟩, hw, w0, w1⟩
  obtain ⟨rs, hlen, hrs⟩ := exists_list _ len hall
  have hcell : ∀ i r, rs[i]? = some r → ∀ j v, r.cells[j]? = some v → W.cell? ((a.add (i * 4)).add j) = some v := by
    intro i r hr j v hj
    obtain ⟨hw, -⟩ := hrs i r hr
    have hlt : j < 4 := by
      rcases Nat.lt_or_ge j 4 with h' | h'
      · exact h'
      · rw [List.getElem?_eq_none (by simpa [AskD.cells] using h')] at hj; cases hj
    have h2 := (World.cells?_some hw).2.2 j hlt
    rw [h2, hj]
  obtain ⟨r0, hr0⟩ : ∃ r, rs[0]? = some r := ⟨rs[0]'(by omega), List.getElem?_eq_getElem (by omega)⟩
  have hc0 := hcell 0 r0 hr0 0 (.string r0.h) rfl
  obtain ⟨b, off, spot⟩ := a
  have hspot : spot = none := by
    have := World.cell?_spot hc0
    simpa [Addr.add] using this
  subst hspot
  have hblk : b < W.heap.size := World.cells?_block (hrs 0 r0 hr0).1 (by omega)
  refine ⟨b, off, cap, rs, by rw [hlen]; exact hcs, by omega, by omega, hblk, fun i r hr j v hj => ?_, fun r hr => ?_⟩
  · have := hcell i r hr j v hj
    rw [Addr.add_mid, Addr.add_mid] at this
    exact this
  · obtain ⟨i, hi⟩ := List.getElem?_of_mem hr
    exact (hrs i r hi).2
end
end Go.Proofs.YtdkjhonaafadjaaGreat.A
/- What the law's region keeps. -/
namespace Go.Proofs.YtdkjhonaafadjaaGreat
open Go.RowKit
set_option linter.unusedVariables false

theorem lawK {w w5 y : World} {m : MateD} {v1 v2 v3 v4 : Value} {bx e1 e2 e3 e4 : Nat} (hA : ∀ k, w5.cell? ⟨w.heap.size, k, none⟩ = (#[.string m.nm, .bool m.up, .int .i64 m.ck, .bool m.kn, .int .i64 m.se, v1, v2, v3, v4] : Array Value)[k]?) (hX : ∀ k, w5.cell? ⟨bx, k, none⟩ = (#[.string m.nm, .bool m.up, .int .i64 m.ck, .bool m.kn, .int .i64 m.se, .slice (some ⟨e1, 0, none⟩) m.ws.length m.ws.length, .slice (some ⟨e2, 0, none⟩) m.rs.length m.rs.length, .slice (some ⟨e3, 0, none⟩) m.qs.length m.qs.length, .slice (some ⟨e4, 0, none⟩) m.gs.length m.gs.length] : Array Value)[k]?) (zA : w.heap.size < w5.heap.size) (zX : bx < w5.heap.size) (hb : Below w5.heap.size w5 y) :
    Below w5.heap.size w5 y ∧ (y.cell? ⟨w.heap.size, 0, none⟩ = some (.string m.nm) ∧ y.cell? ⟨w.heap.size, 1, none⟩ = some (.bool m.up) ∧ y.cell? ⟨w.heap.size, 2, none⟩ = some (.int .i64 m.ck) ∧ y.cell? ⟨w.heap.size, 3, none⟩ = some (.bool m.kn) ∧ y.cell? ⟨w.heap.size, 4, none⟩ = some (.int .i64 m.se) ∧ y.cell? ⟨w.heap.size, 5, none⟩ = some (v1) ∧ y.cell? ⟨w.heap.size, 6, none⟩ = some (v2) ∧ y.cell? ⟨w.heap.size, 7, none⟩ = some (v3) ∧ y.cell? ⟨w.heap.size, 8, none⟩ = some (v4) ∧ y.cell? ⟨bx, 0, none⟩ = some (.string m.nm) ∧ y.cell? ⟨bx, 1, none⟩ = some (.bool m.up) ∧ y.cell? ⟨bx, 2, none⟩ = some (.int .i64 m.ck) ∧ y.cell? ⟨bx, 3, none⟩ = some (.bool m.kn) ∧ y.cell? ⟨bx, 4, none⟩ = some (.int .i64 m.se) ∧ y.cell? ⟨bx, 5, none⟩ = some (.slice (some ⟨e1, 0, none⟩) m.ws.length m.ws.length) ∧ y.cell? ⟨bx, 6, none⟩ = some (.slice (some ⟨e2, 0, none⟩) m.rs.length m.rs.length) ∧ y.cell? ⟨bx, 7, none⟩ = some (.slice (some ⟨e3, 0, none⟩) m.qs.length m.qs.length) ∧ y.cell? ⟨bx, 8, none⟩ = some (.slice (some ⟨e4, 0, none⟩) m.gs.length m.gs.length)) := by
  have a : ∀ k, y.cell? ⟨w.heap.size, k, none⟩ = (#[.string m.nm, .bool m.up, .int .i64 m.ck, .bool m.kn, .int .i64 m.se, v1, v2, v3, v4] : Array Value)[k]? := fun k => (hb.cell (p := ⟨w.heap.size, k, none⟩) zA).trans (hA k)
  have b : ∀ k, y.cell? ⟨bx, k, none⟩ = (#[.string m.nm, .bool m.up, .int .i64 m.ck, .bool m.kn, .int .i64 m.se, .slice (some ⟨e1, 0, none⟩) m.ws.length m.ws.length, .slice (some ⟨e2, 0, none⟩) m.rs.length m.rs.length, .slice (some ⟨e3, 0, none⟩) m.qs.length m.qs.length, .slice (some ⟨e4, 0, none⟩) m.gs.length m.gs.length] : Array Value)[k]? := fun k => (hb.cell (p := ⟨bx, k, none⟩) zX).trans (hX k)
  exact ⟨hb, a 0, a 1, a 2, a 3, a 4, a 5, a 6, a 7, a 8, b 0, b 1, b 2, b 3, b 4, b 5, b 6, b 7, b 8⟩

end Go.Proofs.YtdkjhonaafadjaaGreat
/- What the reading of a mate says of memory. -/
namespace Go.Proofs.YtdkjhonaafadjaaGreat
open Go.ChangeShapes Go.WideShapes Go.ChangeAt Go.RowKit

theorem cells_mate : Tryz.prog.cellsOf 99 = 9 := by kernel_rfl
theorem cells_bool : Tryz.prog.cellsOf 4 = 1 := by kernel_rfl
theorem cells_ws : Tryz.prog.cellsOf 95 = 1 := by kernel_rfl
theorem cells_rs : Tryz.prog.cellsOf 96 = 1 := by kernel_rfl
theorem cells_qs : Tryz.prog.cellsOf 97 = 1 := by kernel_rfl
theorem list9 {α : Type} {l : List α} (h : l.length = 9) : ∃ a b c d e f g i j, l = [a, b, c, d, e, f, g, i, j] := by
  match l, h with
  | [a, b, c, d, e, f, g, i, j], _ => exact ⟨a, b, c, d, e, f, g, i, j, rfl⟩

section
variable {H : Type} {enc : TypeId × Value → H} {Z : World} {base : Nat} {spare : Nat → Bool} {held : Bool} {fuel : Nat} {cs : List Value} {x : DataW H × List MemPlace}
theorem in_wants {v : Value} (hx : DataW.trod enc Tryz.prog Z base spare held fuel 95 [v] = some x) : ∃ l, W.In Z v l := by
  rcases W.read_wants hx with ⟨a, cap, h⟩ | ⟨b, off, cap, rs, h, -, hl, hb, hR, hf⟩
  · simp only [List.cons.injEq, and_true] at h; exact ⟨[], Or.inl ⟨rfl, a, cap, h⟩⟩
  · simp only [List.cons.injEq, and_true] at h; exact ⟨rs, Or.inr ⟨b, off, cap, h, hl, hb, hR, hf⟩⟩
theorem in_runs {v : Value} (hx : DataW.trod enc Tryz.prog Z base spare held fuel 96 [v] = some x) : ∃ l, In Z v l := by
  rcases read_runs hx with ⟨a, cap, h⟩ | ⟨b, off, cap, rs, h, -, hl, hb, hR, hf⟩
  · simp only [List.cons.injEq, and_true] at h; exact ⟨[], Or.inl ⟨rfl, a, cap, h⟩⟩
  · simp only [List.cons.injEq, and_true] at h; exact ⟨rs, Or.inr ⟨b, off, cap, h, hl, hb, hR, hf⟩⟩
theorem in_asks {v : Value} (hx : DataW.trod enc Tryz.prog Z base spare held fuel 97 [v] = some x) : ∃ l, A.In Z v l := by
  rcases A.read_asks hx with ⟨a, cap, h⟩ | ⟨b, off, cap, rs, h, -, hl, hb, hR, hf⟩
  · simp only [List.cons.injEq, and_true] at h; exact ⟨[], Or.inl ⟨rfl, a, cap, h⟩⟩
  · simp only [List.cons.injEq, and_true] at h; exact ⟨rs, Or.inr ⟨b, off, cap, h, hl, hb, hR, hf⟩⟩
theorem read_mate (hx : DataW.trod enc Tryz.prog Z base spare held fuel 99 cs = some x) :
    ∃ (m : MateD) (v1 v2 v3 v4 : Value), cs = [.string m.nm, .bool m.up, .int .i64 m.ck, .bool m.kn, .int .i64 m.se, v1, v2, v3, v4] ∧ m.nm.size ≤ maxLen ∧ W.In Z v1 m.ws ∧ In Z v2 m.rs ∧ A.In Z v3 m.qs ∧ A.In Z v4 m.gs := by
  obtain ⟨xs, n, rfl, -, hl, hn, hf⟩ := DataW.trod_struct Tryz.underlying99 hx
  rw [cells_mate] at hl
  obtain ⟨c0, c1, c2, c3, c4, c5, c6, c7, c8, rfl⟩ := list9 hl
  have hn' : xs.length = 9 := hn
  have f0 : DataW.trod enc Tryz.prog Z base spare held n 9 (List.take (Tryz.prog.cellsOf 9) [c0, c1, c2, c3, c4, c5, c6, c7, c8]) = xs[0]? := hf 0 _ rfl
  have f1 : DataW.trod enc Tryz.prog Z base spare held n 4 (List.take (Tryz.prog.cellsOf 4) [c1, c2, c3, c4, c5, c6, c7, c8]) = xs[1]? := hf 1 _ rfl
  have f2 : DataW.trod enc Tryz.prog Z base spare held n 3 (List.take (Tryz.prog.cellsOf 3) [c2, c3, c4, c5, c6, c7, c8]) = xs[2]? := hf 2 _ rfl
  have f3 : DataW.trod enc Tryz.prog Z base spare held n 4 (List.take (Tryz.prog.cellsOf 4) [c3, c4, c5, c6, c7, c8]) = xs[3]? := hf 3 _ rfl
  have f4 : DataW.trod enc Tryz.prog Z base spare held n 3 (List.take (Tryz.prog.cellsOf 3) [c4, c5, c6, c7, c8]) = xs[4]? := hf 4 _ rfl
  have f5 : DataW.trod enc Tryz.prog Z base spare held n 95 (List.take (Tryz.prog.cellsOf 95) [c5, c6, c7, c8]) = xs[5]? := hf 5 _ rfl
  have f6 : DataW.trod enc Tryz.prog Z base spare held n 96 (List.take (Tryz.prog.cellsOf 96) [c6, c7, c8]) = xs[6]? := hf 6 _ rfl
  have f7 : DataW.trod enc Tryz.prog Z base spare held n 97 (List.take (Tryz.prog.cellsOf 97) [c7, c8]) = xs[7]? := hf 7 _ rfl
  have f8 : DataW.trod enc Tryz.prog Z base spare held n 97 (List.take (Tryz.prog.cellsOf 97) [c8]) = xs[8]? := hf 8 _ rfl
  simp only [cells_int, cells_string, cells_bool, cells_ws, cells_rs, cells_qs, List.take_succ_cons, List.take_zero] at f0 f1 f2 f3 f4 f5 f6 f7 f8
  obtain ⟨y0, g0⟩ := some_of hn' (by decide) f0
  obtain ⟨y1, g1⟩ := some_of hn' (by decide) f1
  obtain ⟨y2, g2⟩ := some_of hn' (by decide) f2
  obtain ⟨y3, g3⟩ := some_of hn' (by decide) f3
  obtain ⟨y4, g4⟩ := some_of hn' (by decide) f4
  obtain ⟨y5, g5⟩ := some_of hn' (by decide) f5
  obtain ⟨y6, g6⟩ := some_of hn' (by decide) f6
  obtain ⟨y7, g7⟩ := some_of hn' (by decide) f7
  obtain ⟨y8, g8⟩ := some_of hn' (by decide) f8
  obtain ⟨nm, e0, -, w0⟩ := DataW.trod_string Tryz.underlying9 g0
  obtain ⟨up, e1, -⟩ := DataW.trod_bool Tryz.underlying4 g1
  obtain ⟨ck, e2, -, w2⟩ := DataW.trod_int Tryz.underlying3 g2
  obtain ⟨kn, e3, -⟩ := DataW.trod_bool Tryz.underlying4 g3
  obtain ⟨se, e4, -, w4⟩ := DataW.trod_int Tryz.underlying3 g4
  obtain ⟨ws, h5⟩ := in_wants g5
  obtain ⟨rs, h6⟩ := in_runs g6
  obtain ⟨qs, h7⟩ := in_asks g7
  obtain ⟨gs, h8⟩ := in_asks g8
  simp only [List.cons.injEq, and_true] at e0 e1 e2 e3 e4
  subst e0 e1 e2 e3 e4
  exact ⟨⟨nm, up, ck, kn, se, ws, rs, qs, gs⟩, c5, c6, c7, c8, rfl, w0, h5, h6, h7, h8⟩
end
end Go.Proofs.YtdkjhonaafadjaaGreat
