import Derived.Test.YtefkdohkjdopeaaGreatDoorJ10
import Derived.Test.YtefkdohkjdopeaaGreatDoorJ02
import Derived.Test.YtefkdohkjdopeaaGreatDoorJ03
import Derived.Deep.RegionHeld3
import Derived.Laws.Pointers
import Derived.StillTactics
import Derived.Test.YtefkdohkjdopeaaGreatDoorJ05
import Derived.Test.YtefkdohkjdopeaaGreatDoorJ07
import Derived.Test.YtefkdohkjdopeaaGreatDoorJ01
import Derived.Laws.EntriesVeiled
import Derived.Laws.StructEq
import Derived.Test.YtefkdohkjdopeaaGreatDoorJ06
import Derived.Deep.QuietTactic
import Derived.BigQuiet
import Derived.Laws.MakeOwn
import Derived.Laws.AppendOwn
namespace Go.Proofs.YtefkdohkjdopeaaGreatDoor.W
open Go.RowKit
set_option linter.unusedVariables false
def markWant (k : Int) : WantD := { c := markB (k), v := k + 1, h := markB (k + 1 + 1), p := k + 1 + 1 + 1, s := k + 1 + 1 + 1 + 1, d := k + 1 + 1 + 1 + 1 + 1, g := k + 1 + 1 + 1 + 1 + 1 + 1 }
def marks (k : Int) (n : Nat) : List WantD := (List.range n).map (fun (i : Nat) => markWant (k + 7 * (i : Int)))
theorem row_cells {x : World} {g n k : Nat} (h : x.there g 0 (n * 7)) (hk : k < n) (j : Nat) (hj : j < 7) : (∃ v, x.cell? ⟨g, k * 7 + j, none⟩ = some v) ∧ x.frozen? ⟨g, k * 7 + j, none⟩ = false := by
 have h1 := h (k * 7 + j) (by omega)
 rw [Nat.zero_add] at h1
 exact ⟨Option.isSome_iff_exists.1 h1.1, h1.2⟩
theorem len_marks (k : Int) (n : Nat) : (marks k n).length = n := by simp [marks]
theorem rows_apart {x : World} {g : Nat} {rs : List WantD} (h : RowsAt x g 0 rs) (o : Nat) (hl : rs.length * 7 ≤ o) (vs : List Value) : RowsAt (x.setCells g o vs) g 0 rs :=
 fun j q hj => World.rangeAt_setCells_apart (h j q hj) g o vs (Or.inr (Or.inl (by
  have : j < rs.length := by
   rcases Nat.lt_or_ge j rs.length with h' | h'
   ·
    exact h'
   ·
    rw [List.getElem?_eq_none h'] at hj; cases hj
  show 0 + j * 7 + 7 ≤ o
  omega)))
theorem rows_snoc {x : World} {b m : Nat} {k0 kk : Int} (hk : kk = k0 + 7 * (m : Int)) (h : RowsAt x b 0 (marks k0 m)) (hr : x.rangeAt b (m * 7) (markWant kk).cells) : RowsAt x b 0 (marks k0 (m + 1)) := by
 intro j q hj
 rw [marks, List.range_succ, List.map_append] at hj
 rcases Nat.lt_or_ge j m with hl | hl
 ·
  rw [List.getElem?_append_left (by simpa using hl)] at hj; exact h j q hj
 ·
  rw [List.getElem?_append_right (by simpa using hl)] at hj
  by_cases e : j = m
  ·
   subst e
   simp at hj
   subst hj
   rw [← hk, Nat.zero_add]
   exact hr
  ·
   rw [List.getElem?_eq_none (by simp; omega)] at hj; cases hj
set_option maxRecDepth 4000 in
set_option maxHeartbeats 1000000 in
theorem markS (b n cap : Nat) (k0 : Int) (w : World) (hth : w.there b 0 (n * 7)) (hb : b < w.heap.size) (hn : n ≤ 1048576) (h0 : 0 ≤ k0) (h1 : k0 ≤ 10000000000000) :
  Calls Tryz.prog 39 #[.slice (some ⟨b, 0, none⟩) n cap, .int .i64 k0] w fun e w' => e = .returned (.int .i64 (k0 + 7 * (n : Int))) ∧ RowsAt w' b 0 (marks k0 n) ∧ w'.there b 0 (n * 7) ∧ Ex b w w' := by
 go_enter Tryz.func39, Tryz.ntmps39
 go_wp2
 go_loopw [1, 5] (fun q i wx => ∃ (m : Nat) (kk : Int), m ≤ n ∧ i = .int .i64 m ∧ q = .int .i64 kk ∧ kk = k0 + 7 * (m : Int) ∧ RowsAt wx b 0 (marks k0 m) ∧ wx.there b 0 (n * 7) ∧ Ex b w wx) (fun _ i _ => n - (intOf i).toNat)
 case atStart => exact ⟨0, k0, Nat.zero_le _, rfl, rfl, by simp, fun k r h => by simp [marks] at h, hth, Ex.refl _ _⟩
 case round =>
  obtain ⟨m, kk, hm, rfl, rfl, hkk, hrows, ht, hE⟩ := hrel
  have Hk : Hid _ := hkk
  have k1 : 0 ≤ kk := by omega
  have k2 : kk ≤ 100000000000000 := by omega
  clear hkk
  have bz : b < wr.heap.size := Nat.lt_of_lt_of_le hb hE.size
  by_cases hlt : m < n
  ·
   go_wp2_with fail
   refine (markText_any kk (by omega) _).mono ?_
   rintro e w1 ⟨rfl, b1⟩
   have t1 := there_keep2 ht bz b1
   obtain ⟨⟨v0, c0⟩, f0⟩ := row_cells t1 hlt 0 (by omega)
   obtain ⟨⟨v1, c1⟩, f1⟩ := row_cells t1 hlt 1 (by omega)
   simp only [Nat.add_zero] at c0 f0
   go_wp2_with fail
   have W2 : World.setCells w1 b (m * 7) [.string (markB kk), .int .i64 (kk + 1)] = (w1.setCell { block := b, off := m * 7 } (.string (markB kk))).setCell { block := b, off := m * 7 + 1 } (.int .i64 (kk + 1)) := rfl
   have r1 : (World.setCells w1 b (m * 7) [.string (markB kk), .int .i64 (kk + 1)]).rangeAt b (m * 7) [.string (markB kk), .int .i64 (kk + 1)] := World.rangeAt_setCells_same w1 b (m * 7) _ (fun j hj => there_part t1 hlt j (by simp at hj; omega))
   have t2 := World.there_setCells t1 b (m * 7) [.string (markB kk), .int .i64 (kk + 1)]
   have e1 : Ex b w (World.setCells w1 b (m * 7) [.string (markB kk), .int .i64 (kk + 1)]) := (hE.trans (Ex.of_below b1)).cells _ _
   have q1 : RowsAt (World.setCells w1 b (m * 7) [.string (markB kk), .int .i64 (kk + 1)]) b 0 (marks k0 m) := rows_apart (hrows.keep bz b1) (m * 7) (by rw [len_marks]; omega) _
   have z1 : b < (World.setCells w1 b (m * 7) [.string (markB kk), .int .i64 (kk + 1)]).heap.size := Nat.lt_of_lt_of_le hb e1.size
   rw [W2] at r1 t2 e1 q1 z1
   clear W2 c0 f0 c1 f1 hrows ht hE t1 b1 bz
   refine (markText_any _ (by omega) _).mono ?_
   rintro e w2 ⟨rfl, b2⟩
   have r2 := range_keep r1 z1 b2
   have t3 := there_keep2 t2 z1 b2
   have q2 := q1.keep z1 b2
   have e2 := e1.trans (Ex.of_below b2)
   clear r1 t2 q1 e1 b2 z1
   obtain ⟨⟨v2, c2⟩, f2⟩ := row_cells t3 hlt 2 (by omega)
   obtain ⟨⟨v3, c3⟩, f3⟩ := row_cells t3 hlt 3 (by omega)
   obtain ⟨⟨v4, c4⟩, f4⟩ := row_cells t3 hlt 4 (by omega)
   obtain ⟨⟨v5, c5⟩, f5⟩ := row_cells t3 hlt 5 (by omega)
   obtain ⟨⟨v6, c6⟩, f6⟩ := row_cells t3 hlt 6 (by omega)
   have T3 : Hid _ := t3
   have R2 : Hid _ := r2
   have Q2 : Hid _ := q2
   have E2 : Hid _ := e2
   clear t3 r2 q2 e2
   go_wp2
   have t3 := T3.out
   have r2 := R2.out
   have q2 := Q2.out
   have e2 := E2.out
   have t4 := World.there_setCells t3 b (m * 7 + 2) [.string (markB (kk + 1 + 1)), .int .i64 (kk + 1 + 1 + 1), .int .i64 (kk + 1 + 1 + 1 + 1), .int .i64 (kk + 1 + 1 + 1 + 1 + 1), .int .i64 (kk + 1 + 1 + 1 + 1 + 1 + 1)]
   have r3 : (World.setCells w2 b (m * 7 + 2) [.string (markB (kk + 1 + 1)), .int .i64 (kk + 1 + 1 + 1), .int .i64 (kk + 1 + 1 + 1 + 1), .int .i64 (kk + 1 + 1 + 1 + 1 + 1), .int .i64 (kk + 1 + 1 + 1 + 1 + 1 + 1)]).rangeAt b (m * 7 + 2) [.string (markB (kk + 1 + 1)), .int .i64 (kk + 1 + 1 + 1), .int .i64 (kk + 1 + 1 + 1 + 1), .int .i64 (kk + 1 + 1 + 1 + 1 + 1), .int .i64 (kk + 1 + 1 + 1 + 1 + 1 + 1)] := World.rangeAt_setCells_same w2 b (m * 7 + 2) _ (fun j hj => by have := there_part t3 hlt (j + 2) (by simp at hj; omega); rwa [show m * 7 + (j + 2) = m * 7 + 2 + j from by omega] at this)
   have r4 := World.rangeAt_setCells_apart r2 b (m * 7 + 2) [.string (markB (kk + 1 + 1)), .int .i64 (kk + 1 + 1 + 1), .int .i64 (kk + 1 + 1 + 1 + 1), .int .i64 (kk + 1 + 1 + 1 + 1 + 1), .int .i64 (kk + 1 + 1 + 1 + 1 + 1 + 1)] (Or.inr (Or.inl (by simp)))
   have q3 : RowsAt (World.setCells w2 b (m * 7 + 2) [.string (markB (kk + 1 + 1)), .int .i64 (kk + 1 + 1 + 1), .int .i64 (kk + 1 + 1 + 1 + 1), .int .i64 (kk + 1 + 1 + 1 + 1 + 1), .int .i64 (kk + 1 + 1 + 1 + 1 + 1 + 1)]) b 0 (marks k0 m) := rows_apart q2 (m * 7 + 2) (by rw [len_marks]; omega) _
   have r5 : (World.setCells w2 b (m * 7 + 2) [.string (markB (kk + 1 + 1)), .int .i64 (kk + 1 + 1 + 1), .int .i64 (kk + 1 + 1 + 1 + 1), .int .i64 (kk + 1 + 1 + 1 + 1 + 1), .int .i64 (kk + 1 + 1 + 1 + 1 + 1 + 1)]).rangeAt b (m * 7) (markWant kk).cells := range_append r4 r3
   have q4 := rows_snoc Hk.out q3 r5
   have e3 : Ex b w (World.setCells w2 b (m * 7 + 2) [.string (markB (kk + 1 + 1)), .int .i64 (kk + 1 + 1 + 1), .int .i64 (kk + 1 + 1 + 1 + 1), .int .i64 (kk + 1 + 1 + 1 + 1 + 1), .int .i64 (kk + 1 + 1 + 1 + 1 + 1 + 1)]) := e2.cells _ _
   clear r5 r4 r3 q3 r2 q2 e2 t3
   have W3 : World.setCells w2 b (m * 7 + 2) [.string (markB (kk + 1 + 1)), .int .i64 (kk + 1 + 1 + 1), .int .i64 (kk + 1 + 1 + 1 + 1), .int .i64 (kk + 1 + 1 + 1 + 1 + 1), .int .i64 (kk + 1 + 1 + 1 + 1 + 1 + 1)] = ((((w2.setCell { block := b, off := m * 7 + 2 } (.string (markB (kk + 1 + 1)))).setCell { block := b, off := m * 7 + 3 } (.int .i64 (kk + 1 + 1 + 1))).setCell { block := b, off := m * 7 + 4 } (.int .i64 (kk + 1 + 1 + 1 + 1))).setCell { block := b, off := m * 7 + 5 } (.int .i64 (kk + 1 + 1 + 1 + 1 + 1))).setCell { block := b, off := m * 7 + 6 } (.int .i64 (kk + 1 + 1 + 1 + 1 + 1 + 1)) := rfl
   rw [W3] at q4 t4 e3
   clear W3
   exact ⟨⟨m + 1, _, by omega, by go_num, rfl, by have := Hk.out; omega, q4, t4, e3⟩, by simp [intOf]; omega⟩
  ·
   go_wp2
   go_ret
   have hmn : m = n := by omega
   subst hmn
   exact ⟨by rw [← Hk.out]; rfl, hrows, ht, hE⟩
end Go.Proofs.YtefkdohkjdopeaaGreatDoor.W
namespace Go.Proofs.YtefkdohkjdopeaaGreatDoor.W
open Go.RowKit
set_option linter.unusedVariables false
theorem marks_at (k0 kk : Int) (n m : Nat) (hm : m < n) (hk : kk = k0 + 7 * (m : Int)) : (marks k0 n)[m]? = some (markWant kk) := by
 subst hk; simp [marks, List.getElem?_range hm]
theorem heldK {x w' : World} {b m : Nat} {kk : Int} {rs : List WantD} (hk : rs[m]? = some (markWant kk)) (h1 : RowsAt x b 0 rs) (l1 : b < x.heap.size) (hb : Below x.heap.size x w') :
  Below x.heap.size x w' ∧ (w'.cell? ⟨b, m * 7, none⟩ = some (.string (markB kk)) ∧ w'.cell? ⟨b, m * 7 + 1, none⟩ = some (.int .i64 (kk + 1)) ∧ w'.cell? ⟨b, m * 7 + 2, none⟩ = some (.string (markB (kk + 1 + 1))) ∧ w'.cell? ⟨b, m * 7 + 3, none⟩ = some (.int .i64 (kk + 1 + 1 + 1)) ∧ w'.cell? ⟨b, m * 7 + 4, none⟩ = some (.int .i64 (kk + 1 + 1 + 1 + 1)) ∧ w'.cell? ⟨b, m * 7 + 5, none⟩ = some (.int .i64 (kk + 1 + 1 + 1 + 1 + 1)) ∧ w'.cell? ⟨b, m * 7 + 6, none⟩ = some (.int .i64 (kk + 1 + 1 + 1 + 1 + 1 + 1))) := by
 have := (h1.keep l1 hb).at hk
 rw [Nat.zero_add] at this
 exact ⟨hb, this⟩
set_option maxRecDepth 4000 in
set_option maxHeartbeats 2000000 in
theorem heldS (b n cap : Nat) (k0 : Int) (w : World) (hR : RowsAt w b 0 (marks k0 n)) (hb : b < w.heap.size) (hn : n ≤ 1048576) (h0 : 0 ≤ k0) (h1 : k0 ≤ 10000000000000) :
  Calls Tryz.prog 43 #[.slice (some ⟨b, 0, none⟩) n cap, .int .i64 k0] w fun e w' => e = .returned (.int .i64 (k0 + 7 * (n : Int))) ∧ Below w.heap.size w w' := by
 go_enter Tryz.func43, Tryz.ntmps43
 go_wp2
 go_loopw [1, 5] (fun q i wx => ∃ (m : Nat) (kk : Int), m ≤ n ∧ i = .int .i64 m ∧ q = .int .i64 kk ∧ kk = k0 + 7 * (m : Int) ∧ Below w.heap.size w wx) (fun _ i _ => n - (intOf i).toNat)
 case atStart => exact ⟨0, k0, Nat.zero_le _, rfl, rfl, by simp, Below.refl _ _⟩
 case round =>
  obtain ⟨m, kk, hm, rfl, rfl, hkk, hB⟩ := hrel
  have Hk : Hid _ := hkk
  have k1 : 0 ≤ kk := by omega
  have k2 : kk ≤ 100000000000000 := by omega
  clear hkk
  have bz : b < wr.heap.size := Nat.lt_of_lt_of_le hb hB.size
  by_cases hlt : m < n
  ·
   have Hr : Hid _ := marks_at k0 kk n m hlt Hk.out
   have g1 := hR.keep hb hB
   have i0 : (0 : Int) ≤ (m : Int) := by omega
   have i1 : (m : Int) < (n : Int) := by omega
   go_wp2_with fail
   go_region_held3 (fun w' => Below wr.heap.size wr w' ∧ (w'.cell? ⟨b, m * 7, none⟩ = some (.string (markB kk)) ∧ w'.cell? ⟨b, m * 7 + 1, none⟩ = some (.int .i64 (kk + 1)) ∧ w'.cell? ⟨b, m * 7 + 2, none⟩ = some (.string (markB (kk + 1 + 1))) ∧ w'.cell? ⟨b, m * 7 + 3, none⟩ = some (.int .i64 (kk + 1 + 1 + 1)) ∧ w'.cell? ⟨b, m * 7 + 4, none⟩ = some (.int .i64 (kk + 1 + 1 + 1 + 1)) ∧ w'.cell? ⟨b, m * 7 + 5, none⟩ = some (.int .i64 (kk + 1 + 1 + 1 + 1 + 1)) ∧ w'.cell? ⟨b, m * 7 + 6, none⟩ = some (.int .i64 (kk + 1 + 1 + 1 + 1 + 1 + 1))))
    (first | exact heldK Hr.out g1 bz (bl_drew (Below.refl _ _)) | exact heldK Hr.out g1 bz (bl_trans (bl_drew (Below.refl _ _)) hx))
    (first | (go_at_call 40; refine (markText_any _ (by omega) _).mono ?_; rintro e w' ⟨rfl, hx⟩))
   have y1 : Below wr.heap.size wr w' := bl_trans (bl_drew (Below.refl _ _)) hx
   have g2 := g1.keep bz y1
   have bz2 : b < w'.heap.size := Nat.lt_of_lt_of_le bz y1.size
   have hB2 := bl_trans hB y1
   obtain ⟨c0, c1, c2, c3, c4, c5, c6⟩ := (heldK Hr.out g1 bz y1).2
   clear g1 bz hB y1 hx
   obtain ⟨w2, rfl⟩ : ∃ w2 : World, w2 = w' := ⟨_, rfl⟩
   go_wp2_with fail
   clear c0 c1 c2 c3 c4 c5 c6
   go_region_held3 (fun w' => Below w2.heap.size w2 w' ∧ (w'.cell? ⟨b, m * 7, none⟩ = some (.string (markB kk)) ∧ w'.cell? ⟨b, m * 7 + 1, none⟩ = some (.int .i64 (kk + 1)) ∧ w'.cell? ⟨b, m * 7 + 2, none⟩ = some (.string (markB (kk + 1 + 1))) ∧ w'.cell? ⟨b, m * 7 + 3, none⟩ = some (.int .i64 (kk + 1 + 1 + 1)) ∧ w'.cell? ⟨b, m * 7 + 4, none⟩ = some (.int .i64 (kk + 1 + 1 + 1 + 1)) ∧ w'.cell? ⟨b, m * 7 + 5, none⟩ = some (.int .i64 (kk + 1 + 1 + 1 + 1 + 1)) ∧ w'.cell? ⟨b, m * 7 + 6, none⟩ = some (.int .i64 (kk + 1 + 1 + 1 + 1 + 1 + 1))))
    (first | exact heldK Hr.out g2 bz2 (bl_drew (Below.refl _ _)) | exact heldK Hr.out g2 bz2 (bl_trans (bl_drew (Below.refl _ _)) hx))
    (first | (go_at_call 40; refine (markText_any _ (by omega) _).mono ?_; rintro e w' ⟨rfl, hx⟩))
   have y2 : Below w2.heap.size w2 w' := bl_trans (bl_drew (Below.refl _ _)) hx
   have hB3 := bl_trans hB2 y2
   obtain ⟨c0, c1, c2, c3, c4, c5, c6⟩ := (heldK Hr.out g2 bz2 y2).2
   clear g2 bz2 hB2 y2 hx
   go_wp2
   exact ⟨⟨m + 1, _, by omega, by go_num, rfl, by have := Hk.out; omega, hB3⟩, by simp [intOf]; omega⟩
  ·
   go_wp2
   go_ret
   have hmn : m = n := by omega
   subst hmn
   exact ⟨by rw [← Hk.out]; rfl, hB⟩
end Go.Proofs.YtefkdohkjdopeaaGreatDoor.W
namespace Go.Proofs.YtefkdohkjdopeaaGreatDoor.W
open Go.RowKit
set_option linter.unusedVariables false
def Sl (w : World) (v : Value) (l : List WantD) (B : Nat) : Prop := (v = .slice none 0 0 ∧ l = []) ∨ ∃ g cap, v = .slice (some ⟨g, 0, none⟩) l.length cap ∧ B ≤ g ∧ g < w.heap.size ∧ RowsAt w g 0 l ∧ w.there g 0 (l.length * 7)
theorem Sl.of_owns {w : World} {v : Value} {l : List WantD} {B : Nat} (h : w.ownsRow B 94 7 v l.length (flatR l)) : Sl w v l B := rows_of_owns h
theorem Sl.grown {w w' : World} {v : Value} {l : List WantD} {B : Nat} {row : Option Nat} (h : Sl w v l B) (hg : w.grownBy w' row) (hne : v.ownBlock = none ∨ v.ownBlock ≠ row) : Sl w' v l B := by
 rcases h with h | ⟨g, cap, rfl, h1, h2, h3, h4⟩
 ·
  exact Or.inl h
 ·
  have hn : some g ≠ row := by simpa [Value.ownBlock] using hne
  have hc : ∀ o, w'.cell? ⟨g, o, none⟩ = w.cell? ⟨g, o, none⟩ := fun o => World.cell?_of_block (w := w) (a := ⟨g, o, none⟩) (hg.block g h2 hn)
  have hfz : ∀ o, w'.frozen? ⟨g, o, none⟩ = w.frozen? ⟨g, o, none⟩ := fun o => World.frozen?_of_block (w := w) (a := ⟨g, o, none⟩) (hg.block g h2 hn)
  exact Or.inr ⟨g, cap, rfl, h1, Nat.lt_of_lt_of_le h2 hg.size, fun k r hk j v hj => (hc _).trans (h3 k r hk j v hj), fun j hj => ⟨by rw [hc]; exact (h4 j hj).1, by rw [hfz]; exact (h4 j hj).2⟩⟩
theorem Sl.keep {w w' : World} {v : Value} {l : List WantD} {B : Nat} (h : Sl w v l B) (hb : Below w.heap.size w w') : Sl w' v l B :=
 h.grown (row := none) ⟨hb.os, hb.tape, hb.output, hb.size, fun k hk _ => hb.block k hk⟩ (by cases hv : v.ownBlock <;> simp)
theorem Sl.lt {w : World} {v : Value} {l : List WantD} {B : Nat} (h : Sl w v l B) : ∀ g, v.ownBlock = some g → B ≤ g ∧ g < w.heap.size := by
 rcases h with ⟨rfl, -⟩ | ⟨g, cap, rfl, h1, h2, -⟩
 ·
  intro g hg; simp [Value.ownBlock] at hg
 ·
  intro g' hg; simp [Value.ownBlock] at hg; subst hg; exact ⟨h1, h2⟩
theorem ex_grown {w w' : World} {kr : Nat} (h : Ex kr w w') : w.grownBy w' (some kr) := ⟨h.os, h.tape, h.output, h.size, fun k hk hne => h.block k hk (fun e => hne (by rw [e]))⟩
theorem eq_zero (a1 a2 : Option Addr) (c1 c2 : Nat) (w : World) :
  Calls Tryz.prog 36 #[.slice a1 0 c1, .slice a2 0 c2] w fun e w' => e = .returned (.bool true) ∧ w' = w := by
 go_enter Tryz.func36, Tryz.ntmps36
 go_wp2
 refine wp_loop_rounds 1 ?_
 rw [rounds_succ]
 go_wp2
 go_ret
 exact ⟨rfl, rfl⟩
theorem eq_sl {w : World} {v1 v2 : Value} {l : List WantD} {B1 B2 : Nat} (h1 : Sl w v1 l B1) (h2 : Sl w v2 l B2) (hl : l.length ≤ 1048576) :
  Calls Tryz.prog 36 #[v1, v2] w fun e w' => e = .returned (.bool true) ∧ Below w.heap.size w w' := by
 have z : ∀ (a1 a2 : Option Addr) (c1 c2 : Nat), Calls Tryz.prog 36 #[.slice a1 0 c1, .slice a2 0 c2] w fun e w' => e = .returned (.bool true) ∧ Below w.heap.size w w' := fun a1 a2 c1 c2 => (eq_zero a1 a2 c1 c2 w).mono (by rintro e w' ⟨rfl, rfl⟩; exact ⟨rfl, Below.refl _ _⟩)
 rcases h1 with ⟨rfl, rfl⟩ | ⟨g1, cap1, rfl, -, k2, k3, -⟩
 ·
  rcases h2 with ⟨rfl, -⟩ | ⟨g2, cap2, rfl, -, m2, m3, -⟩
  ·
   exact z _ _ _ _
  ·
   exact z _ _ _ _
 ·
  rcases h2 with ⟨rfl, rfl⟩ | ⟨g2, cap2, rfl, -, m2, m3, -⟩
  ·
   exact z _ _ _ _
  ·
   exact eqWantS g1 0 cap1 g2 0 cap2 l w k3 m3 k2 m2 hl
theorem mark_zero (a : Option Addr) (c : Nat) (k : Int) (w : World) : Calls Tryz.prog 39 #[.slice a 0 c, .int .i64 k] w fun e w' => e = .returned (.int .i64 k) ∧ w' = w := by
 go_enter Tryz.func39, Tryz.ntmps39
 go_wp2
 refine wp_loop_rounds 1 ?_
 rw [rounds_succ]
 go_wp2
 go_ret
 exact ⟨rfl, rfl⟩
theorem held_zero (a : Option Addr) (c : Nat) (k : Int) (w : World) : Calls Tryz.prog 43 #[.slice a 0 c, .int .i64 k] w fun e w' => e = .returned (.int .i64 k) ∧ w' = w := by
 go_enter Tryz.func43, Tryz.ntmps43
 go_wp2
 refine wp_loop_rounds 1 ?_
 rw [rounds_succ]
 go_wp2
 go_ret
 exact ⟨rfl, rfl⟩
theorem mark_sl {w : World} {v : Value} {l : List WantD} {B : Nat} (h : Sl w v l B) (k0 : Int) (hl : l.length ≤ 1048576) (h0 : 0 ≤ k0) (h1 : k0 ≤ 10000000000000) :
  Calls Tryz.prog 39 #[v, .int .i64 k0] w fun e w' => e = .returned (.int .i64 (k0 + 7 * (l.length : Int))) ∧ Sl w' v (marks k0 l.length) B ∧ w.grownBy w' v.ownBlock := by
 rcases h with ⟨rfl, rfl⟩ | ⟨g, cap, rfl, a1, a2, a3, a4⟩
 ·
  refine (mark_zero none 0 k0 w).mono ?_
  rintro e w' ⟨rfl, rfl⟩
  exact ⟨by simp, Or.inl ⟨rfl, rfl⟩, ⟨rfl, rfl, rfl, Nat.le_refl _, fun _ _ _ => rfl⟩⟩
 ·
  refine (markS g l.length cap k0 w a4 a2 hl h0 (by omega)).mono ?_
  rintro e w' ⟨rfl, b1, b2, b3⟩
  exact ⟨rfl, Or.inr ⟨g, cap, by rw [len_marks], a1, Nat.lt_of_lt_of_le a2 b3.size, b1, by rw [len_marks]; exact b2⟩, ex_grown b3⟩
theorem held_sl {w : World} {v : Value} {m : Nat} {B : Nat} (k0 : Int) (h : Sl w v (marks k0 m) B) (hl : m ≤ 1048576) (h0 : 0 ≤ k0) (h1 : k0 ≤ 10000000000000) :
  Calls Tryz.prog 43 #[v, .int .i64 k0] w fun e w' => e = .returned (.int .i64 (k0 + 7 * (m : Int))) ∧ Below w.heap.size w w' := by
 rcases h with ⟨rfl, h⟩ | ⟨g, cap, rfl, a1, a2, a3, a4⟩
 ·
  have hm : m = 0 := by have := congrArg List.length h; rw [len_marks] at this; simpa using this
  subst hm
  refine (held_zero none 0 k0 w).mono ?_
  rintro e w' ⟨rfl, rfl⟩
  exact ⟨by simp, Below.refl _ _⟩
 ·
  rw [len_marks]
  exact heldS g m cap k0 w a3 a2 hl h0 (by omega)
end Go.Proofs.YtefkdohkjdopeaaGreatDoor.W
namespace Go.Proofs.YtefkdohkjdopeaaGreatDoor.W
open Go.RowKit
set_option linter.unusedVariables false
theorem flat_cells {w : World} {g : Nat} {l : List WantD} (h : RowsAt w g 0 l) : ∀ j u, (flatR l)[j]? = some u → w.cell? ((⟨g, 0, none⟩ : Addr).add j) = some u := by
 intro j u hj
 have hlt : j < l.length * 7 := by rw [← flatR_len]; exact (List.getElem?_eq_some_iff.1 hj).1
 have hk : j / 7 < l.length := by omega
 have hr : j % 7 < 7 := Nat.mod_lt _ (by decide)
 have e : j / 7 * 7 + j % 7 = j := by omega
 have h1 := flatR_at l (j / 7) l[j / 7] (List.getElem?_eq_getElem hk) (j % 7) hr
 rw [e, hj] at h1
 have h2 := h (j / 7) l[j / 7] (List.getElem?_eq_getElem hk) (j % 7) u h1.symm
 rw [Addr.add_mid]
 rw [show 0 + j / 7 * 7 + j % 7 = 0 + j from by omega] at h2
 exact h2
end Go.Proofs.YtefkdohkjdopeaaGreatDoor.W
namespace Go.Proofs.YtefkdohkjdopeaaGreatDoor
open Go.RowKit
set_option linter.unusedVariables false
theorem boxlt {w w1 : World} {o : Obj} (h : Below (w.alloc o).heap.size (w.alloc o) w1) : w.heap.size < w1.heap.size := by have := h.size; simp at this; omega
def ascB (q r : RunD) : Bool := Op.bytesLess q.c.toList r.c.toList
theorem keep1 {x w' : World} {b off k : Nat} {rs : List RunD} {r : RunD} (hk : rs[k]? = some r) (h1 : RowsAt x b off rs) (l1 : b < x.heap.size) (hb : Below x.heap.size x w') :
  Below x.heap.size x w' ∧ (w'.cell? ⟨b, off + k * 11, none⟩ = some (.string r.c) ∧ w'.cell? ⟨b, off + k * 11 + 1, none⟩ = some (.int .i64 r.v) ∧ w'.cell? ⟨b, off + k * 11 + 2, none⟩ = some (.string r.h) ∧ w'.cell? ⟨b, off + k * 11 + 3, none⟩ = some (.int .i64 r.p) ∧ w'.cell? ⟨b, off + k * 11 + 4, none⟩ = some (.int .i64 r.s) ∧ w'.cell? ⟨b, off + k * 11 + 5, none⟩ = some (.int .i64 r.d) ∧ w'.cell? ⟨b, off + k * 11 + 6, none⟩ = some (.int .i64 r.g) ∧ w'.cell? ⟨b, off + k * 11 + 7, none⟩ = some (.int .i64 r.a) ∧ w'.cell? ⟨b, off + k * 11 + 8, none⟩ = some (.int .i64 r.b) ∧ w'.cell? ⟨b, off + k * 11 + 9, none⟩ = some (.int .i64 r.i) ∧ w'.cell? ⟨b, off + k * 11 + 10, none⟩ = some (.int .i64 r.u)) := ⟨hb, (h1.keep l1 hb).at hk⟩
theorem keep2 {x w' : World} {b off k : Nat} {rs : List RunD} {r q : RunD} (hk : rs[k + 1]? = some r) (hq : rs[k]? = some q) (h1 : RowsAt x b off rs) (l1 : b < x.heap.size) (hb : Below x.heap.size x w') :
  Below x.heap.size x w' ∧ (w'.cell? ⟨b, off + (k + 1) * 11, none⟩ = some (.string r.c) ∧ w'.cell? ⟨b, off + (k + 1) * 11 + 1, none⟩ = some (.int .i64 r.v) ∧ w'.cell? ⟨b, off + (k + 1) * 11 + 2, none⟩ = some (.string r.h) ∧ w'.cell? ⟨b, off + (k + 1) * 11 + 3, none⟩ = some (.int .i64 r.p) ∧ w'.cell? ⟨b, off + (k + 1) * 11 + 4, none⟩ = some (.int .i64 r.s) ∧ w'.cell? ⟨b, off + (k + 1) * 11 + 5, none⟩ = some (.int .i64 r.d) ∧ w'.cell? ⟨b, off + (k + 1) * 11 + 6, none⟩ = some (.int .i64 r.g) ∧ w'.cell? ⟨b, off + (k + 1) * 11 + 7, none⟩ = some (.int .i64 r.a) ∧ w'.cell? ⟨b, off + (k + 1) * 11 + 8, none⟩ = some (.int .i64 r.b) ∧ w'.cell? ⟨b, off + (k + 1) * 11 + 9, none⟩ = some (.int .i64 r.i) ∧ w'.cell? ⟨b, off + (k + 1) * 11 + 10, none⟩ = some (.int .i64 r.u)) ∧ w'.cell? ⟨b, off + k * 11, none⟩ = some (.string q.c) := ⟨hb, (h1.keep l1 hb).at hk, ((h1.keep l1 hb).at hq).1⟩
theorem keep0 {x w' : World} {b off : Nat} {rs : List RunD} {r : RunD} (hk : rs[0]? = some r) (h1 : RowsAt x b off rs) (l1 : b < x.heap.size) (hb : Below x.heap.size x w') :
  Below x.heap.size x w' ∧ (w'.cell? ⟨b, off, none⟩ = some (.string r.c) ∧ w'.cell? ⟨b, off + 1, none⟩ = some (.int .i64 r.v) ∧ w'.cell? ⟨b, off + 2, none⟩ = some (.string r.h) ∧ w'.cell? ⟨b, off + 3, none⟩ = some (.int .i64 r.p) ∧ w'.cell? ⟨b, off + 4, none⟩ = some (.int .i64 r.s) ∧ w'.cell? ⟨b, off + 5, none⟩ = some (.int .i64 r.d) ∧ w'.cell? ⟨b, off + 6, none⟩ = some (.int .i64 r.g) ∧ w'.cell? ⟨b, off + 7, none⟩ = some (.int .i64 r.a) ∧ w'.cell? ⟨b, off + 8, none⟩ = some (.int .i64 r.b) ∧ w'.cell? ⟨b, off + 9, none⟩ = some (.int .i64 r.i) ∧ w'.cell? ⟨b, off + 10, none⟩ = some (.int .i64 r.u)) := by
 have := keep1 (k := 0) hk h1 l1 hb
 simpa using this
structure MateD where
 nm : ByteArray
 up : Bool
 ck : Int
 kn : Bool
 se : Int
 ws : List W.WantD
 rs : List RunD
 qs : List A.AskD
 gs : List A.AskD
def partsB (m : MateD) : Bool := nameB m.nm && (inB m.ck 0 1000000 && inB m.se 0 1000000)
structure Off (P : Nat → Prop) (w w' : World) : Prop where
 os : w'.os = w.os
 tape : w'.tape = w.tape
 output : w'.output = w.output
 size : w.heap.size ≤ w'.heap.size
 block : ∀ k, k < w.heap.size → ¬ P k → w'.heap[k]? = w.heap[k]?
theorem Off.refl (P : Nat → Prop) (w : World) : Off P w w := ⟨rfl, rfl, rfl, Nat.le_refl _, fun _ _ _ => rfl⟩
theorem Off.trans {P : Nat → Prop} {a b c : World} (h : Off P a b) (k : Off P b c) : Off P a c :=
 ⟨k.os.trans h.os, k.tape.trans h.tape, k.output.trans h.output, Nat.le_trans h.size k.size, fun i hi hp => (k.block i (Nat.lt_of_lt_of_le hi h.size) hp).trans (h.block i hi hp)⟩
theorem Off.of_below {P : Nat → Prop} {a b : World} (h : Below a.heap.size a b) : Off P a b := ⟨h.os, h.tape, h.output, h.size, fun i hi _ => h.block i hi⟩
theorem Off.of_grown {P : Nat → Prop} {a b : World} {row : Option Nat} (h : a.grownBy b row) (hp : ∀ j, row = some j → P j) : Off P a b := ⟨h.os, h.tape, h.output, h.size, fun i hi hn => h.block i hi (fun e => hn (hp i e.symm))⟩
theorem Off.cell {P : Nat → Prop} {a b : World} (h : Off P a b) {p : Addr} (hp : p.block < a.heap.size) (hn : ¬ P p.block) : b.cell? p = a.cell? p := World.cell?_of_block (w := a) (h.block p.block hp hn)
theorem Off.below {P : Nat → Prop} {a b : World} {B : Nat} (h : Off P a b) (hP : ∀ j, P j → B ≤ j) (hB : B ≤ a.heap.size) : Below B a b := ⟨h.os, h.tape, h.output, h.size, fun i hi => h.block i (by omega) (fun hp => by have := hP i hp; omega)⟩
theorem W.Sl.off {P : Nat → Prop} {w w' : World} {v : Value} {l : List W.WantD} {B : Nat} (h : W.Sl w v l B) (ho : Off P w w') (hn : ∀ g, v.ownBlock = some g → ¬ P g) : W.Sl w' v l B := by
 rcases h with h | ⟨g, cap, rfl, h1, h2, h3, h4⟩
 ·
  exact Or.inl h
 ·
  have hg : ¬ P g := hn g rfl
  have hc : ∀ o, w'.cell? ⟨g, o, none⟩ = w.cell? ⟨g, o, none⟩ := fun o => World.cell?_of_block (w := w) (a := ⟨g, o, none⟩) (ho.block g h2 hg)
  have hfz : ∀ o, w'.frozen? ⟨g, o, none⟩ = w.frozen? ⟨g, o, none⟩ := fun o => World.frozen?_of_block (w := w) (a := ⟨g, o, none⟩) (ho.block g h2 hg)
  exact Or.inr ⟨g, cap, rfl, h1, Nat.lt_of_lt_of_le h2 ho.size, fun k r hk j v hj => (hc _).trans (h3 k r hk j v hj), fun j hj => ⟨by rw [hc]; exact (h4 j hj).1, by rw [hfz]; exact (h4 j hj).2⟩⟩
theorem W.Sl.shape {w : World} {v : Value} {l : List W.WantD} {B : Nat} (h : W.Sl w v l B) : ∃ a c, v = .slice a l.length c := by
 rcases h with ⟨rfl, rfl⟩ | ⟨g, cap, rfl, -⟩
 ·
  exact ⟨none, 0, rfl⟩
 ·
  exact ⟨_, _, rfl⟩
theorem Sl.shape {w : World} {v : Value} {l : List RunD} {B : Nat} (h : Sl w v l B) : ∃ a c, v = .slice a l.length c := by
 rcases h with ⟨rfl, rfl⟩ | ⟨g, cap, rfl, -⟩
 ·
  exact ⟨none, 0, rfl⟩
 ·
  exact ⟨_, _, rfl⟩
end Go.Proofs.YtefkdohkjdopeaaGreatDoor
