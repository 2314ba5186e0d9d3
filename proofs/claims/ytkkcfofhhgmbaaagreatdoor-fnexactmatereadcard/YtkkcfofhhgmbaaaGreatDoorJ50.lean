import Derived.Test.YtkkcfofhhgmbaaaGreatDoorJ49
import Derived.Test.YtkkcfofhhgmbaaaGreatDoorJ01
import Derived.ProofKit
import Derived.OpenShut
/- FnExactMateRead: the law. -/
namespace Go.Proofs.YtkkcfofhhgmbaaaGreatDoor
open Go.RowKit
set_option linter.unusedVariables false

set_option maxRecDepth 4000 in
set_option maxHeartbeats 2000000 in
theorem eqParcel_sl (p : ParD) (s1 t1 : Value) (B1 B2 : Nat) (w : World) (h1 : W.Sl w s1 p.ws B1) (h2 : W.Sl w t1 p.ws B2) (hl : p.ws.length ≤ 1048576) :
    Calls Tryz.prog 6 #[.agg #[.int .i64 p.k, .string p.b, .int .i64 p.se, s1, .string p.h, .string p.c, .int .i64 p.t], .agg #[.int .i64 p.k, .string p.b, .int .i64 p.se, t1, .string p.h, .string p.c, .int .i64 p.t]] w fun e w' => e = .returned (.bool true) ∧ Below w.heap.size w w' := by
  have Hb0 : Hid (Below w.heap.size w ((w.alloc (.cells #[.int .i64 p.k, .string p.b, .int .i64 p.se, s1, .string p.h, .string p.c, .int .i64 p.t] 24)).alloc (.cells #[.int .i64 p.k, .string p.b, .int .i64 p.se, t1, .string p.h, .string p.c, .int .i64 p.t] 24))) := bl_alloc (bl_alloc (Below.refl _ _) _) _
  have P0 : Hid _ := h1.keep Hb0.out
  have Q0 : Hid _ := h2.keep Hb0.out
  go_enter Tryz.func6, Tryz.ntmps6
  go_wp2_with fail
  refine (W.eq_sl P0.out Q0.out hl).mono ?_
  rintro e w1 ⟨rfl, c1⟩
  have D1 : Hid (Below ((w.alloc (.cells #[.int .i64 p.k, .string p.b, .int .i64 p.se, s1, .string p.h, .string p.c, .int .i64 p.t] 24)).alloc (.cells #[.int .i64 p.k, .string p.b, .int .i64 p.se, t1, .string p.h, .string p.c, .int .i64 p.t] 24)).heap.size ((w.alloc (.cells #[.int .i64 p.k, .string p.b, .int .i64 p.se, s1, .string p.h, .string p.c, .int .i64 p.t] 24)).alloc (.cells #[.int .i64 p.k, .string p.b, .int .i64 p.se, t1, .string p.h, .string p.c, .int .i64 p.t] 24)) w1) := c1
  clear c1
  have ka : ∀ k, w1.cell? ⟨w.heap.size, k, none⟩ = (#[.int .i64 p.k, .string p.b, .int .i64 p.se, s1, .string p.h, .string p.c, .int .i64 p.t] : Array Value)[k]? := by
    intro k
    rw [D1.out.cell (p := ⟨w.heap.size, k, none⟩) (by simp; omega)]
    simp [go_sem]
  have kb : ∀ k, w1.cell? ⟨w.heap.size + 1, k, none⟩ = (#[.int .i64 p.k, .string p.b, .int .i64 p.se, t1, .string p.h, .string p.c, .int .i64 p.t] : Array Value)[k]? := by
    intro k
    rw [D1.out.cell (p := ⟨w.heap.size + 1, k, none⟩) (by simp)]
    simp [go_sem]
  go_wp2
  go_ret
  exact ⟨rfl, bl_trans Hb0.out D1.out⟩

set_option maxRecDepth 4000 in
set_option maxHeartbeats 2000000 in
theorem markParcel_g (p : ParD) (s1 : Value) (B : Nat) (w : World) (h1 : W.Sl w s1 p.ws B) (hl : p.ws.length ≤ 1048576) :
    Calls Tryz.prog 7 #[.agg #[.int .i64 p.k, .string p.b, .int .i64 p.se, s1, .string p.h, .string p.c, .int .i64 p.t], .int .i64 1] w fun e w' => e = .returned (.int .i64 (1 + 7 * (p.ws.length : Int))) ∧ W.Sl w' s1 (W.marks 1 p.ws.length) B ∧ w.grownBy w' s1.ownBlock := by
  have Hb0 : Hid (Below w.heap.size w (w.alloc (.cells #[.int .i64 p.k, .string p.b, .int .i64 p.se, s1, .string p.h, .string p.c, .int .i64 p.t] 24))) := bl_alloc (Below.refl _ _) _
  have P0 : Hid (W.Sl (w.alloc (.cells #[.int .i64 p.k, .string p.b, .int .i64 p.se, s1, .string p.h, .string p.c, .int .i64 p.t] 24)) s1 p.ws B) := h1.keep Hb0.out
  go_enter Tryz.func7, Tryz.ntmps7
  go_wp2_with fail
  refine (W.mark_sl P0.out 1 hl (by omega) (by omega)).mono ?_
  rintro e w1 ⟨rfl, r1, g1⟩
  have F1 : Hid (w.grownBy w1 s1.ownBlock) := ⟨g1.os, g1.tape, g1.output, Nat.le_trans Hb0.out.size g1.size, fun k hk hne => (g1.block k (Nat.lt_of_lt_of_le hk Hb0.out.size) hne).trans (Hb0.out.block k hk)⟩
  have R1 : Hid (W.Sl w1 s1 (W.marks 1 p.ws.length) B) := r1
  clear r1 g1
  go_wp2
  go_ret
  exact ⟨rfl, R1.out, F1.out⟩
set_option maxRecDepth 4000 in
set_option maxHeartbeats 2000000 in
theorem heldParcel_g (p : ParD) (s1 : Value) (B : Nat) (w : World) (h1 : W.Sl w s1 (W.marks 1 p.ws.length) B) (hl : p.ws.length ≤ 1048576) :
    Calls Tryz.prog 8 #[.agg #[.int .i64 p.k, .string p.b, .int .i64 p.se, s1, .string p.h, .string p.c, .int .i64 p.t], .int .i64 1] w fun e w' => e = .returned (.int .i64 (1 + 7 * (p.ws.length : Int))) ∧ Below w.heap.size w w' := by
  have Hb0 : Hid (Below w.heap.size w (w.alloc (.cells #[.int .i64 p.k, .string p.b, .int .i64 p.se, s1, .string p.h, .string p.c, .int .i64 p.t] 24))) := bl_alloc (Below.refl _ _) _
  have P0 : Hid (W.Sl (w.alloc (.cells #[.int .i64 p.k, .string p.b, .int .i64 p.se, s1, .string p.h, .string p.c, .int .i64 p.t] 24)) s1 (W.marks 1 p.ws.length) B) := h1.keep Hb0.out
  go_enter Tryz.func8, Tryz.ntmps8
  go_wp2_with fail
  refine (W.held_sl 1 P0.out hl (by omega) (by omega)).mono ?_
  rintro e w1 ⟨rfl, b1⟩
  have B1 : Hid (Below w.heap.size w w1) := bl_trans Hb0.out b1
  clear b1
  go_wp2_with fail
  all_goals (go_ret; exact ⟨rfl, B1.out⟩)
theorem grown_cell {w w' : World} {row : Option Nat} (hg : w.grownBy w' row) {k : Nat} (hk : k < w.heap.size) (hn : some k ≠ row) (j : Nat) : w'.cell? ⟨k, j, none⟩ = w.cell? ⟨k, j, none⟩ := World.cell?_of_block (w := w) (a := ⟨k, j, none⟩) (hg.block k hk hn)
theorem sl_shape {w : World} {v : Value} {l : List W.WantD} {B : Nat} (h : W.Sl w v l B) : ∃ a n c, v = .slice a n c := by
  rcases h with ⟨rfl, -⟩ | ⟨g, cap, rfl, -⟩
  · exact ⟨_, _, _, rfl⟩
  · exact ⟨_, _, _, rfl⟩
set_option maxRecDepth 4000 in
set_option maxHeartbeats 8000000 in
theorem lawRead (s : ByteArray) (w : World) (hs0 : s.size ≤ maxLen) (hE : Env w) :
    Calls Tryz.prog 3 #[.string s] w fun e w' => e = .returned (.bool true) ∧ Below w.heap.size w w' := by
  by_cases hbig : (1048576 : Int) < (s.size : Int)
  · unfold maxLen at hs0
    clear hE
    go_enter Tryz.func3, Tryz.ntmps3
    go_wp2
    go_ret
    exact ⟨rfl, Below.refl _ _⟩
  have hs : s.size ≤ 1048576 := by omega
  have HS : Hid (s.size ≤ 1048576) := hs
  have HE : Hid (Env w) := hE
  have hA1 := (agree s).2
  have hA2 := (agree s).1
  obtain ⟨p, hp⟩ : ∃ p, ansP s (implP s) = p := ⟨_, rfl⟩
  obtain ⟨q, hq⟩ : ∃ q, okP s (implP s) = q := ⟨_, rfl⟩
  have hlen : p.ws.length ≤ 1048576 := by rw [← hp]; exact ans_len s hs
  rw [hp] at hA1
  rw [hq] at hA2
  have HP : Hid (ansP s (implP s) = p) := hp
  have HQ : Hid (okP s (implP s) = q) := hq
  have HP1 : Hid (ansP s (specP s) = p) := hA1
  have HQ1 : Hid (okP s (specP s) = q) := hA2
  have RI : Hid (∀ y, Env y → Calls Tryz.prog 5 #[.string s] y fun e y' => ∃ v, e = .returned (.tuple #[.agg #[.int .i64 p.k, .string p.b, .int .i64 p.se, v, .string p.h, .string p.c, .int .i64 p.t], .bool q]) ∧ W.Sl y' v p.ws y.heap.size ∧ Below y.heap.size y y') := fun y hy => (implRead s y hs hy).mono (by
    rintro e y' ⟨v, rfl, h1, h2⟩
    rw [hp] at h1 ⊢
    rw [hq]
    exact ⟨v, rfl, h1, h2⟩)
  have RS : Hid (Calls Tryz.prog 4 #[.string s] w fun e y' => ∃ v, e = .returned (.tuple #[.agg #[.int .i64 p.k, .string p.b, .int .i64 p.se, v, .string p.h, .string p.c, .int .i64 p.t], .bool q]) ∧ W.Sl y' v p.ws w.heap.size ∧ Below w.heap.size w y') := (specRead s w hs).mono (by
    rintro e y' ⟨v, rfl, h1, h2⟩
    rw [hA1] at h1 ⊢
    rw [hA2]
    exact ⟨v, rfl, h1, h2⟩)
  clear hA1 hA2 hp hq hE hs0
  go_enter Tryz.func3, Tryz.ntmps3
  go_wp2_with fail
  refine RS.out.mono ?_
  rintro e w1 ⟨v0, rfl, sl0, b1⟩
  obtain ⟨a0, n0, c0, rfl⟩ := sl_shape sl0
  have S0 : Hid (W.Sl w1 (.slice a0 n0 c0) p.ws w.heap.size) := sl0
  have B1 : Hid (Below w.heap.size w w1) := b1
  obtain ⟨w2, hw2⟩ : ∃ w2, w2 = w1.alloc (.cells #[.int .i64 p.k, .string p.b, .int .i64 p.se, .slice a0 n0 c0, .string p.h, .string p.c, .int .i64 p.t] 24) := ⟨_, rfl⟩
  have HW2 : Hid (w2 = w1.alloc (.cells #[.int .i64 p.k, .string p.b, .int .i64 p.se, .slice a0 n0 c0, .string p.h, .string p.c, .int .i64 p.t] 24)) := hw2
  have B12 : Hid (Below w1.heap.size w1 w2) := by rw [hw2]; exact bl_alloc (Below.refl _ _) _
  have B2 : Hid (Below w.heap.size w w2) := bl_trans B1.out B12.out
  have K0 : Hid (∀ y, Below w2.heap.size w2 y → ∀ j, y.cell? ⟨w1.heap.size, j, none⟩ = (#[.int .i64 p.k, .string p.b, .int .i64 p.se, .slice a0 n0 c0, .string p.h, .string p.c, .int .i64 p.t] : Array Value)[j]?) := by
    intro y hb j
    rw [hw2] at hb
    rw [box_keep hb j]
    simp [go_sem]
  have Z12 : Hid (w1.heap.size < w2.heap.size) := by rw [hw2]; show _ < _; simp
  clear sl0 b1 hw2
  go_wp2_with fail
  rw [← HW2.out]
  refine (RI.out w2 (HE.out.keep B2.out)).mono ?_
  rintro e w3 ⟨v1, rfl, sl1, b3⟩
  obtain ⟨a1, n1, c1, rfl⟩ := sl_shape sl1
  have S1 : Hid (W.Sl w3 (.slice a1 n1 c1) p.ws w2.heap.size) := sl1
  have B23 : Hid (Below w2.heap.size w2 w3) := b3
  obtain ⟨w4, hw4⟩ : ∃ w4, w4 = w3.alloc (.cells #[.int .i64 p.k, .string p.b, .int .i64 p.se, .slice a1 n1 c1, .string p.h, .string p.c, .int .i64 p.t] 24) := ⟨_, rfl⟩
  have HW4 : Hid (w4 = w3.alloc (.cells #[.int .i64 p.k, .string p.b, .int .i64 p.se, .slice a1 n1 c1, .string p.h, .string p.c, .int .i64 p.t] 24)) := hw4
  have B34 : Hid (Below w3.heap.size w3 w4) := by rw [hw4]; exact bl_alloc (Below.refl _ _) _
  have K1 : Hid (∀ y, Below w4.heap.size w4 y → ∀ j, y.cell? ⟨w3.heap.size, j, none⟩ = (#[.int .i64 p.k, .string p.b, .int .i64 p.se, .slice a1 n1 c1, .string p.h, .string p.c, .int .i64 p.t] : Array Value)[j]?) := by
    intro y hb j
    rw [hw4] at hb
    rw [box_keep hb j]
    simp [go_sem]
  have Z34 : Hid (w3.heap.size < w4.heap.size) := by rw [hw4]; show _ < _; simp
  have ka0 : (w3.alloc (.cells #[.int .i64 p.k, .string p.b, .int .i64 p.se, .slice a1 n1 c1, .string p.h, .string p.c, .int .i64 p.t] 24)).cell? ⟨w1.heap.size, 0, none⟩ = _ := K0.out _ (bl_alloc b3 _) 0
  have ka1 : (w3.alloc (.cells #[.int .i64 p.k, .string p.b, .int .i64 p.se, .slice a1 n1 c1, .string p.h, .string p.c, .int .i64 p.t] 24)).cell? ⟨w1.heap.size, 1, none⟩ = _ := K0.out _ (bl_alloc b3 _) 1
  have ka2 : (w3.alloc (.cells #[.int .i64 p.k, .string p.b, .int .i64 p.se, .slice a1 n1 c1, .string p.h, .string p.c, .int .i64 p.t] 24)).cell? ⟨w1.heap.size, 2, none⟩ = _ := K0.out _ (bl_alloc b3 _) 2
  have ka3 : (w3.alloc (.cells #[.int .i64 p.k, .string p.b, .int .i64 p.se, .slice a1 n1 c1, .string p.h, .string p.c, .int .i64 p.t] 24)).cell? ⟨w1.heap.size, 3, none⟩ = _ := K0.out _ (bl_alloc b3 _) 3
  have ka4 : (w3.alloc (.cells #[.int .i64 p.k, .string p.b, .int .i64 p.se, .slice a1 n1 c1, .string p.h, .string p.c, .int .i64 p.t] 24)).cell? ⟨w1.heap.size, 4, none⟩ = _ := K0.out _ (bl_alloc b3 _) 4
  have ka5 : (w3.alloc (.cells #[.int .i64 p.k, .string p.b, .int .i64 p.se, .slice a1 n1 c1, .string p.h, .string p.c, .int .i64 p.t] 24)).cell? ⟨w1.heap.size, 5, none⟩ = _ := K0.out _ (bl_alloc b3 _) 5
  have ka6 : (w3.alloc (.cells #[.int .i64 p.k, .string p.b, .int .i64 p.se, .slice a1 n1 c1, .string p.h, .string p.c, .int .i64 p.t] 24)).cell? ⟨w1.heap.size, 6, none⟩ = _ := K0.out _ (bl_alloc b3 _) 6
  have BB : Hid (∀ g, (.slice a1 n1 c1 : Value).ownBlock = some g → w2.heap.size ≤ g ∧ g < w3.heap.size) := S1.out.lt
  have BA : Hid (∀ g, (.slice a0 n0 c0 : Value).ownBlock = some g → w.heap.size ≤ g ∧ g < w1.heap.size) := S0.out.lt
  clear sl1 b3 hw4
  go_wp2_with fail
  rw [← HW4.out]
  refine (eqParcel_sl p _ _ w2.heap.size w.heap.size w4 (S1.out.keep B34.out) (((S0.out.keep B12.out).keep B23.out).keep B34.out) hlen).mono ?_
  rintro e w5 ⟨rfl, b5⟩
  have B45 : Hid (Below w4.heap.size w4 w5) := b5
  have kb0 := K1.out w5 b5 0
  have kb1 := K1.out w5 b5 1
  have kb2 := K1.out w5 b5 2
  have kb3 := K1.out w5 b5 3
  have kb4 := K1.out w5 b5 4
  have kb5 := K1.out w5 b5 5
  have kb6 := K1.out w5 b5 6
  clear b5 ka0 ka1 ka2 ka3 ka4 ka5 ka6
  go_wp2_with fail
  refine (markParcel_g p _ w2.heap.size w5 ((S1.out.keep B34.out).keep B45.out) hlen).mono ?_
  rintro e w6 ⟨rfl, sm, gm⟩
  have SM : Hid (W.Sl w6 (.slice a1 n1 c1) (W.marks 1 p.ws.length) w2.heap.size) := sm
  have GM : Hid (w5.grownBy w6 (.slice a1 n1 c1 : Value).ownBlock) := gm
  have Z5 : Hid (w3.heap.size < w5.heap.size) := Nat.lt_of_lt_of_le Z34.out B45.out.size
  have N3 : Hid (some w3.heap.size ≠ (.slice a1 n1 c1 : Value).ownBlock) := fun e => by have := (BB.out _ e.symm).2; omega
  have N1 : Hid (some w1.heap.size ≠ (.slice a1 n1 c1 : Value).ownBlock) := fun e => by have := (BB.out _ e.symm).1; have := Z12.out; omega
  have B25 : Hid (Below w2.heap.size w2 w5) := bl_trans B23.out (bl_trans B34.out B45.out)
  have B6 : Hid (Below w.heap.size w w6) := Below.grown (bl_trans B2.out B25.out) gm (bl_trans B2.out B25.out).size (fun g hg => Nat.le_trans B2.out.size (BB.out g hg).1)
  have kd0 : w6.cell? ⟨w3.heap.size, 0, none⟩ = _ := (grown_cell gm Z5.out N3.out 0).trans (K1.out w5 B45.out 0)
  have kd1 : w6.cell? ⟨w3.heap.size, 1, none⟩ = _ := (grown_cell gm Z5.out N3.out 1).trans (K1.out w5 B45.out 1)
  have kd2 : w6.cell? ⟨w3.heap.size, 2, none⟩ = _ := (grown_cell gm Z5.out N3.out 2).trans (K1.out w5 B45.out 2)
  have kd3 : w6.cell? ⟨w3.heap.size, 3, none⟩ = _ := (grown_cell gm Z5.out N3.out 3).trans (K1.out w5 B45.out 3)
  have kd4 : w6.cell? ⟨w3.heap.size, 4, none⟩ = _ := (grown_cell gm Z5.out N3.out 4).trans (K1.out w5 B45.out 4)
  have kd5 : w6.cell? ⟨w3.heap.size, 5, none⟩ = _ := (grown_cell gm Z5.out N3.out 5).trans (K1.out w5 B45.out 5)
  have kd6 : w6.cell? ⟨w3.heap.size, 6, none⟩ = _ := (grown_cell gm Z5.out N3.out 6).trans (K1.out w5 B45.out 6)
  clear sm gm kb0 kb1 kb2 kb3 kb4 kb5 kb6
  go_wp2_with fail
  refine (heldParcel_g p _ w2.heap.size w6 SM.out hlen).mono ?_
  rintro e w7 ⟨rfl, b7⟩
  have B67 : Hid (Below w6.heap.size w6 w7) := b7
  have B7 : Hid (Below w.heap.size w w7) := bl_trans B6.out b7
  clear b7 kd0 kd1 kd2 kd3 kd4 kd5 kd6
  go_wp2_with fail
  refine (RI.out w7 (HE.out.keep B7.out)).mono ?_
  rintro e w8 ⟨v2, rfl, sl2, b8⟩
  obtain ⟨a2, n2, c2, rfl⟩ := sl_shape sl2
  have S2 : Hid (W.Sl w8 (.slice a2 n2 c2) p.ws w7.heap.size) := sl2
  have B78 : Hid (Below w7.heap.size w7 w8) := b8
  obtain ⟨w9, hw9⟩ : ∃ w9, w9 = w8.alloc (.cells #[.int .i64 p.k, .string p.b, .int .i64 p.se, .slice a2 n2 c2, .string p.h, .string p.c, .int .i64 p.t] 24) := ⟨_, rfl⟩
  have HW9 : Hid (w9 = w8.alloc (.cells #[.int .i64 p.k, .string p.b, .int .i64 p.se, .slice a2 n2 c2, .string p.h, .string p.c, .int .i64 p.t] 24)) := hw9
  have B89 : Hid (Below w8.heap.size w8 w9) := by rw [hw9]; exact bl_alloc (Below.refl _ _) _
  have B69 : Hid (Below w6.heap.size w6 w9) := bl_trans B67.out (bl_trans B78.out B89.out)
  have Z15 : Hid (w1.heap.size < w5.heap.size) := Nat.lt_of_lt_of_le Z12.out B25.out.size
  have ke0 : (w8.alloc (.cells #[.int .i64 p.k, .string p.b, .int .i64 p.se, .slice a2 n2 c2, .string p.h, .string p.c, .int .i64 p.t] 24)).cell? ⟨w1.heap.size, 0, none⟩ = (#[.int .i64 p.k, .string p.b, .int .i64 p.se, .slice a0 n0 c0, .string p.h, .string p.c, .int .i64 p.t] : Array Value)[0]? := by rw [← hw9, B69.out.cell (p := ⟨w1.heap.size, 0, none⟩) (Nat.lt_of_lt_of_le Z15.out GM.out.size), grown_cell GM.out Z15.out N1.out 0]; exact K0.out w5 B25.out 0
  have ke1 : (w8.alloc (.cells #[.int .i64 p.k, .string p.b, .int .i64 p.se, .slice a2 n2 c2, .string p.h, .string p.c, .int .i64 p.t] 24)).cell? ⟨w1.heap.size, 1, none⟩ = (#[.int .i64 p.k, .string p.b, .int .i64 p.se, .slice a0 n0 c0, .string p.h, .string p.c, .int .i64 p.t] : Array Value)[1]? := by rw [← hw9, B69.out.cell (p := ⟨w1.heap.size, 1, none⟩) (Nat.lt_of_lt_of_le Z15.out GM.out.size), grown_cell GM.out Z15.out N1.out 1]; exact K0.out w5 B25.out 1
  have ke2 : (w8.alloc (.cells #[.int .i64 p.k, .string p.b, .int .i64 p.se, .slice a2 n2 c2, .string p.h, .string p.c, .int .i64 p.t] 24)).cell? ⟨w1.heap.size, 2, none⟩ = (#[.int .i64 p.k, .string p.b, .int .i64 p.se, .slice a0 n0 c0, .string p.h, .string p.c, .int .i64 p.t] : Array Value)[2]? := by rw [← hw9, B69.out.cell (p := ⟨w1.heap.size, 2, none⟩) (Nat.lt_of_lt_of_le Z15.out GM.out.size), grown_cell GM.out Z15.out N1.out 2]; exact K0.out w5 B25.out 2
  have ke3 : (w8.alloc (.cells #[.int .i64 p.k, .string p.b, .int .i64 p.se, .slice a2 n2 c2, .string p.h, .string p.c, .int .i64 p.t] 24)).cell? ⟨w1.heap.size, 3, none⟩ = (#[.int .i64 p.k, .string p.b, .int .i64 p.se, .slice a0 n0 c0, .string p.h, .string p.c, .int .i64 p.t] : Array Value)[3]? := by rw [← hw9, B69.out.cell (p := ⟨w1.heap.size, 3, none⟩) (Nat.lt_of_lt_of_le Z15.out GM.out.size), grown_cell GM.out Z15.out N1.out 3]; exact K0.out w5 B25.out 3
  have ke4 : (w8.alloc (.cells #[.int .i64 p.k, .string p.b, .int .i64 p.se, .slice a2 n2 c2, .string p.h, .string p.c, .int .i64 p.t] 24)).cell? ⟨w1.heap.size, 4, none⟩ = (#[.int .i64 p.k, .string p.b, .int .i64 p.se, .slice a0 n0 c0, .string p.h, .string p.c, .int .i64 p.t] : Array Value)[4]? := by rw [← hw9, B69.out.cell (p := ⟨w1.heap.size, 4, none⟩) (Nat.lt_of_lt_of_le Z15.out GM.out.size), grown_cell GM.out Z15.out N1.out 4]; exact K0.out w5 B25.out 4
  have ke5 : (w8.alloc (.cells #[.int .i64 p.k, .string p.b, .int .i64 p.se, .slice a2 n2 c2, .string p.h, .string p.c, .int .i64 p.t] 24)).cell? ⟨w1.heap.size, 5, none⟩ = (#[.int .i64 p.k, .string p.b, .int .i64 p.se, .slice a0 n0 c0, .string p.h, .string p.c, .int .i64 p.t] : Array Value)[5]? := by rw [← hw9, B69.out.cell (p := ⟨w1.heap.size, 5, none⟩) (Nat.lt_of_lt_of_le Z15.out GM.out.size), grown_cell GM.out Z15.out N1.out 5]; exact K0.out w5 B25.out 5
  have ke6 : (w8.alloc (.cells #[.int .i64 p.k, .string p.b, .int .i64 p.se, .slice a2 n2 c2, .string p.h, .string p.c, .int .i64 p.t] 24)).cell? ⟨w1.heap.size, 6, none⟩ = (#[.int .i64 p.k, .string p.b, .int .i64 p.se, .slice a0 n0 c0, .string p.h, .string p.c, .int .i64 p.t] : Array Value)[6]? := by rw [← hw9, B69.out.cell (p := ⟨w1.heap.size, 6, none⟩) (Nat.lt_of_lt_of_le Z15.out GM.out.size), grown_cell GM.out Z15.out N1.out 6]; exact K0.out w5 B25.out 6
  have S06 : Hid (W.Sl w6 (.slice a0 n0 c0) p.ws w.heap.size) := by
    refine W.Sl.grown ((S0.out.keep B12.out).keep B25.out) GM.out ?_
    cases hv : (.slice a0 n0 c0 : Value).ownBlock with
    | none => exact Or.inl rfl
    | some g =>
      right
      intro e
      have h1 := (BA.out g hv).2
      have h2 := (BB.out g e.symm).1
      have h3 := Z12.out
      omega
  clear sl2 b8 hw9
  go_wp2_with fail
  rw [← HW9.out]
  refine (eqParcel_sl p _ _ w7.heap.size w.heap.size w9 (S2.out.keep B89.out) (S06.out.keep B69.out) hlen).mono ?_
  rintro e w10 ⟨rfl, b10⟩
  have B910 : Hid (Below w9.heap.size w9 w10) := b10
  have B610 : Hid (Below w6.heap.size w6 w10) := bl_trans B69.out b10
  have kf0 : w10.cell? ⟨w3.heap.size, 0, none⟩ = _ := (B610.out.cell (p := ⟨w3.heap.size, 0, none⟩) (Nat.lt_of_lt_of_le Z5.out GM.out.size)).trans ((grown_cell GM.out Z5.out N3.out 0).trans (K1.out w5 B45.out 0))
  have kf1 : w10.cell? ⟨w3.heap.size, 1, none⟩ = _ := (B610.out.cell (p := ⟨w3.heap.size, 1, none⟩) (Nat.lt_of_lt_of_le Z5.out GM.out.size)).trans ((grown_cell GM.out Z5.out N3.out 1).trans (K1.out w5 B45.out 1))
  have kf2 : w10.cell? ⟨w3.heap.size, 2, none⟩ = _ := (B610.out.cell (p := ⟨w3.heap.size, 2, none⟩) (Nat.lt_of_lt_of_le Z5.out GM.out.size)).trans ((grown_cell GM.out Z5.out N3.out 2).trans (K1.out w5 B45.out 2))
  have kf3 : w10.cell? ⟨w3.heap.size, 3, none⟩ = _ := (B610.out.cell (p := ⟨w3.heap.size, 3, none⟩) (Nat.lt_of_lt_of_le Z5.out GM.out.size)).trans ((grown_cell GM.out Z5.out N3.out 3).trans (K1.out w5 B45.out 3))
  have kf4 : w10.cell? ⟨w3.heap.size, 4, none⟩ = _ := (B610.out.cell (p := ⟨w3.heap.size, 4, none⟩) (Nat.lt_of_lt_of_le Z5.out GM.out.size)).trans ((grown_cell GM.out Z5.out N3.out 4).trans (K1.out w5 B45.out 4))
  have kf5 : w10.cell? ⟨w3.heap.size, 5, none⟩ = _ := (B610.out.cell (p := ⟨w3.heap.size, 5, none⟩) (Nat.lt_of_lt_of_le Z5.out GM.out.size)).trans ((grown_cell GM.out Z5.out N3.out 5).trans (K1.out w5 B45.out 5))
  have kf6 : w10.cell? ⟨w3.heap.size, 6, none⟩ = _ := (B610.out.cell (p := ⟨w3.heap.size, 6, none⟩) (Nat.lt_of_lt_of_le Z5.out GM.out.size)).trans ((grown_cell GM.out Z5.out N3.out 6).trans (K1.out w5 B45.out 6))
  clear b10 ke0 ke1 ke2 ke3 ke4 ke5 ke6
  go_wp2_with fail
  refine (heldParcel_g p _ w2.heap.size w10 (SM.out.keep B610.out) hlen).mono ?_
  rintro e w11 ⟨rfl, b11⟩
  have B11 : Hid (Below w.heap.size w w11) := bl_trans (bl_trans B6.out B610.out) b11
  clear b11 kf0 kf1 kf2 kf3 kf4 kf5 kf6
  go_wp2_with fail
  go_ret
  exact ⟨rfl, B11.out⟩
end Go.Proofs.YtkkcfofhhgmbaaaGreatDoor
/- What the reading of a want and of a run says of the cells. -/
namespace Go.Proofs.YtkkcfofhhgmbaaaGreatDoor
open Go.ChangeShapes Go.WideShapes Go.ChangeAt Go.RowKit

theorem cells_int : Tryz.prog.cellsOf 3 = 1 := by kernel_rfl
theorem cells_string : Tryz.prog.cellsOf 9 = 1 := by kernel_rfl

/-- A number that an int holds. -/
def I64 (n : Int) : Prop := -9223372036854775808 ≤ n ∧ n ≤ 9223372036854775807
theorem I64_of {n : Int} (h : (Lit.int .i64 n).wf = true) : I64 n := by
  simpa [Lit.wf, IntKind.min, IntKind.max, IntKind.signed, IntKind.bits, I64] using h

theorem some_of {α : Type} {l : List α} {n i : Nat} {x : Option α} (hl : l.length = n) (hi : i < n) (h : x = l[i]?) : ∃ y, x = some y := by
  subst hl; exact ⟨l[i], by rw [h]; exact List.getElem?_eq_getElem hi⟩

theorem list7 {α : Type} {l : List α} (h : l.length = 7) : ∃ a b c d e f g, l = [a, b, c, d, e, f, g] := by
  match l, h with
  | [a, b, c, d, e, f, g], _ => exact ⟨a, b, c, d, e, f, g, rfl⟩
theorem list11 {α : Type} {l : List α} (h : l.length = 11) : ∃ a b c d e f g h i j k, l = [a, b, c, d, e, f, g, h, i, j, k] := by
  match l, h with
  | [a, b, c, d, e, f, g, h, i, j, k], _ => exact ⟨a, b, c, d, e, f, g, h, i, j, k, rfl⟩

section
variable {H : Type} {enc : TypeId × Value → H} {W : World} {base : Nat} {spare : Nat → Bool} {held : Bool} {fuel : Nat} {cs : List Value} {x : DataW H × List MemPlace}

end
end Go.Proofs.YtkkcfofhhgmbaaaGreatDoor
