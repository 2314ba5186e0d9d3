import Derived.Test.YtgakmkhbnjofhaaGreatDoorJ16
import Derived.Test.YtgakmkhbnjofhaaGreatDoorJ13
import Derived.Laws.StructEq
/- A parcel's text: what the specification writes. -/
namespace Go.Proofs.YtgakmkhbnjofhaaGreatDoor
open Go.RowKit
set_option linter.unusedVariables false

structure ParD where
  k : Int
  b : ByteArray
  se : Int
  ws : List W.WantD
  h : ByteArray
  c : ByteArray
  t : Int
open Classical in
noncomputable def wantsB (ws : List W.WantD) : Bool := decide (ws.length ≤ 10 ∧ W.AllW ws ws.length)
open Classical in
theorem says_eq {q : Bool} {ws : List W.WantD} (h : W.Says q ws) : q = wantsB ws := by
  unfold wantsB
  by_cases e : ws.length ≤ 10 ∧ W.AllW ws ws.length
  · exact (h.2 e).trans (decide_eq_true e).symm
  · rw [decide_eq_false e]
    cases q with
    | false => rfl
    | true => exact (e (h.1 rfl)).elim
theorem hold_empty {s : ByteArray} (h : s.toList.isEmpty = true) : holdB s = false := by
  rw [ByteArray.toList_eq] at h
  have h1 : s.size = 0 := by
    show s.data.size = 0
    rw [← Array.length_toList, List.isEmpty_iff.1 h]; rfl
  have h2 : nameB s = false := by unfold nameB inB; rw [h1]; rfl
  unfold holdB
  rw [h2]; rfl
/-- The lines of wants behind a text. -/
def tailT (ws : List W.WantD) (x : ByteArray) : ByteArray := ws.foldl (fun t r => t ++ wantT r) x
theorem tail_succ {ws : List W.WantD} {j : Nat} {r : W.WantD} (hr : ws[j]? = some r) (x : ByteArray) : tailT (ws.take (j + 1)) x = tailT (ws.take j) x ++ wantT r := by
  unfold tailT
  rw [List.take_add_one, hr, List.foldl_append]
  rfl
theorem nameB_size {s : ByteArray} (h : nameB s = true) : s.size ≤ 20 := by
  unfold nameB inB at h
  simp only [Bool.and_eq_true, decide_eq_true_eq] at h
  omega
theorem writes_of {r : W.WantD} (h : r.ok = true) : Writes r := by
  unfold W.WantD.ok wantB ticksB at h
  simp only [Bool.and_eq_true, Bool.or_eq_true] at h
  obtain ⟨h1, h2, h3, h4, h5, h6, h7⟩ := h
  have hin : ∀ {n a b : Int}, inB n a b = true → a ≤ n ∧ n ≤ b := fun {n a b} h => by
    unfold inB at h
    simpa using h
  have z := nameB_size h1
  obtain ⟨v1, v2⟩ := hin h2
  obtain ⟨p1, p2⟩ := hin h4
  obtain ⟨s1, s2⟩ := hin h5
  obtain ⟨d1, d2⟩ := hin h6
  obtain ⟨g1, g2⟩ := hin h7
  refine ⟨by omega, ?_, ⟨by omega, by omega⟩, ⟨by omega, by omega⟩, ⟨by omega, by omega⟩, ⟨by omega, by omega⟩, ⟨by omega, by omega⟩⟩
  rcases h3 with h3 | h3
  · rw [ByteArray.toList_eq] at h3
    have h1 : r.h.size = 0 := by
      show r.h.data.size = 0
      rw [← Array.length_toList, List.isEmpty_iff.1 h3]; rfl
    omega
  · unfold holdB at h3
    simp only [Bool.and_eq_true] at h3
    have := nameB_size h3.1
    omega
theorem catL_n (M N : Nat) (l : List ByteArray) (h : ∀ p ∈ l, p.size ≤ M) (hl : l.length = N) : (catL l).size ≤ N * M := by
  rw [← hl]
  exact catL_le M l h
theorem wantT_size {r : W.WantD} (h : Writes r) : (wantT r).size ≤ 15000000000 := by
  have hh : (holdT r.h).size ≤ 1000000000 := by
    unfold holdT
    split
    · exact Nat.le_of_ble_eq_true rfl
    · have := h.h; omega
  have h1 := decT_le r.v h.v.1 h.v.2
  have h2 := decT_le r.p h.p.1 h.p.2
  have h3 := decT_le r.s h.s.1 h.s.2
  have h4 := decT_le r.d h.d.1 h.d.2
  have h5 := decT_le r.g h.g.1 h.g.2
  have hc : r.c.size ≤ 1000000000 := by have := h.c; omega
  have e : wantT r = catL [{ data := #[119, 97, 110, 116, 32] }, r.c, { data := #[32] }, decT r.v, { data := #[32] }, holdT r.h, { data := #[32] }, decT r.p, { data := #[32] }, decT r.s, { data := #[32] }, decT r.d, { data := #[32] }, decT r.g, { data := #[10] }] := rfl
  have h8 : ∀ p ∈ [{ data := #[119, 97, 110, 116, 32] }, r.c, { data := #[32] }, decT r.v, { data := #[32] }, holdT r.h, { data := #[32] }, decT r.p, { data := #[32] }, decT r.s, { data := #[32] }, decT r.d, { data := #[32] }, decT r.g, { data := #[10] }], p.size ≤ 1000000000 := by
    intro p hp
    simp only [List.mem_cons, List.not_mem_nil, or_false] at hp
    rcases hp with rfl | rfl | rfl | rfl | rfl | rfl | rfl | rfl | rfl | rfl | rfl | rfl | rfl | rfl | rfl
    all_goals first | assumption | decide
  have h9 := catL_n 1000000000 15 [{ data := #[119, 97, 110, 116, 32] }, r.c, { data := #[32] }, decT r.v, { data := #[32] }, holdT r.h, { data := #[32] }, decT r.p, { data := #[32] }, decT r.s, { data := #[32] }, decT r.d, { data := #[32] }, decT r.g, { data := #[10] }] h8 rfl
  rw [e]
  omega
theorem tail_le : ∀ (ws : List W.WantD) (x : ByteArray), (∀ r ∈ ws, Writes r) → (tailT ws x).size ≤ x.size + ws.length * 15000000000
  | [], x, _ => by simp [tailT]
  | r :: ws, x, h => by
    have h1 := tail_le ws (x ++ wantT r) (fun q hq => h q (List.mem_cons_of_mem _ hq))
    have h2 := wantT_size (h r (List.mem_cons_self ..))
    rw [ByteArray.size_append] at h1
    have e : tailT (r :: ws) x = tailT ws (x ++ wantT r) := rfl
    rw [e, List.length_cons, Nat.succ_mul]
    omega
def wordT (k : Int) : ByteArray := if k = 2 then { data := #[97, 115, 107, 101, 100, 32] } else if k = 3 then { data := #[103, 105, 118, 101, 110, 32] } else { data := #[98, 97, 99, 107, 32] }
/-- A parcel's text. -/
noncomputable def formT (P : ParD) : ByteArray :=
  if nameB P.b = false then { data := #[] }
  else if (P.k ≠ 1 ∧ 0 < P.ws.length) ∨ (P.k ≠ 1 ∧ P.k ≠ 6 ∧ P.se ≠ 0) then { data := #[] }
  else if P.k = 1 then
    if wantsB P.ws = true ∧ inB P.se 1 1000000 = true ∧ P.h.toList.isEmpty = true ∧ P.c.toList.isEmpty = true ∧ P.t = 0 then tailT P.ws (catL [{ data := #[116, 111, 108, 100, 32] }, P.b, { data := #[32] }, decT P.se, { data := #[10] }]) else { data := #[] }
  else if P.k = 2 ∨ P.k = 3 ∨ P.k = 4 then
    if holdB P.h = true ∧ inB P.t 0 1000000 = true ∧ nameB P.c = true then catL [wordT P.k, P.b, { data := #[32] }, P.h, { data := #[32] }, P.c, { data := #[32] }, decT P.t, { data := #[10] }] else { data := #[] }
  else if P.k = 5 then
    if holdB P.h = true ∧ inB P.t 0 1000000 = true ∧ P.c.toList.isEmpty = true then catL [{ data := #[103, 111, 116, 98, 97, 99, 107, 32] }, P.b, { data := #[32] }, P.h, { data := #[32] }, decT P.t, { data := #[10] }] else { data := #[] }
  else if P.k = 6 then
    if inB P.se 0 1000000 = true ∧ P.h.toList.isEmpty = true ∧ P.c.toList.isEmpty = true ∧ P.t = 0 then catL [{ data := #[104, 101, 114, 101, 32] }, P.b, { data := #[32] }, decT P.se, { data := #[10] }] else { data := #[] }
  else { data := #[] }
structure ParIn (w : World) (P : ParD) (g : Nat) : Prop where
  b : P.b.size ≤ 1048576
  h : P.h.size ≤ 1048576
  c : P.c.size ≤ 1048576
  l : P.ws.length ≤ 1048576
  f : ∀ r ∈ P.ws, r.fits
  r : W.RowsAt w g 0 P.ws
  g : g < w.heap.size

def arrW : Array Value := #[.string { data := #[97, 115, 107, 101, 100, 32] }, .string { data := #[103, 105, 118, 101, 110, 32] }, .string { data := #[98, 97, 99, 107, 32] }]
theorem bldW (w : World) : Sem.run Tryz.prog (Instr.buildSlice 43 3 #[(0, .string { data := #[97, 115, 107, 101, 100, 32] }), (1, .string { data := #[103, 105, 118, 101, 110, 32] }), (2, .string { data := #[98, 97, 99, 107, 32] })]) w = .ok (.slice (some ⟨w.heap.size, 0, none⟩) 3 3) (w.alloc (.cells arrW 9)) := by kernel_rfl
def Lst3 (w : World) (v : Value) : Prop := ∃ g, v = .slice (some ⟨g, 0, none⟩) 3 3 ∧ g < w.heap.size ∧ ∀ j, w.cell? ⟨g, j, none⟩ = arrW[j]?
theorem Lst3.keep {w w' : World} {v : Value} (h : Lst3 w v) (hb : Below w.heap.size w w') : Lst3 w' v := by
  obtain ⟨g, h1, h2, h3⟩ := h
  exact ⟨g, h1, Nat.lt_of_lt_of_le h2 hb.size, fun j => (hb.cell (p := ⟨g, j, none⟩) h2).trans (h3 j)⟩
theorem Lst3.new (y : World) : Lst3 (y.alloc (.cells arrW 9)) (.slice (some ⟨y.heap.size, 0, none⟩) 3 3) := ⟨y.heap.size, rfl, by simp, fun j => by rw [World.cell?_alloc_new]⟩
def At3 (j : Nat) (w : World) (v : Value) : Prop := ∃ g, v = .pointer (some ⟨g, j, none⟩) ∧ g < w.heap.size ∧ w.cell? ⟨g, j, none⟩ = arrW[j]?
theorem At3.keep {j : Nat} {w w' : World} {v : Value} (h : At3 j w v) (hb : Below w.heap.size w w') : At3 j w' v := by
  obtain ⟨g, h1, h2, h3⟩ := h
  exact ⟨g, h1, Nat.lt_of_lt_of_le h2 hb.size, (hb.cell (p := ⟨g, j, none⟩) h2).trans h3⟩
def slF10 : Nat → Nat
  | 0 => 71
  | 1 => 72
  | 2 => 73
  | 3 => 74
  | 4 => 75
  | 5 => 76
  | 6 => 77
  | 7 => 78
  | 8 => 79
  | 9 => 4
  | _ => 0
theorem slF10_inj {i : Nat} (hi : i < 10) : ∀ j, j < 10 → slF10 j = slF10 i → j = i := by
  have h : ∀ a : Fin 10, ∀ b : Fin 10, slF10 b.val = slF10 a.val → b.val = a.val := by decide
  intro j hj e
  exact h ⟨i, hi⟩ ⟨j, hj⟩ e
theorem slF10_out (k : Nat) (h : (List.range 10).all (fun i => slF10 i != k) = true) : ∀ i, i < 10 → slF10 i ≠ k := fun i hi e => by
  have h1 := List.all_eq_true.1 h i (List.mem_range.2 hi)
  rw [e] at h1
  simp at h1
def GF1 (bm : Nat) (b h c : ByteArray) (k se t : Int) (w : World) : Nat → Value → Prop
  | 0, v => v = .pointer (some ⟨bm, 1, none⟩)
  | 1, v => v = .string b
  | 2, v => v = .string (catL [{ data := #[116, 111, 108, 100, 32] }, b])
  | 3, v => v = .string (catL [{ data := #[116, 111, 108, 100, 32] }, b, { data := #[32] }])
  | 4, v => v = .pointer (some ⟨bm, 2, none⟩)
  | 5, v => v = .int .i64 se
  | 6, v => v = .string (decT se)
  | 7, v => v = .string (catL [{ data := #[116, 111, 108, 100, 32] }, b, { data := #[32] }, (decT se)])
  | 8, v => v = .string (catL [{ data := #[116, 111, 108, 100, 32] }, b, { data := #[32] }, (decT se), { data := #[10] }])
  | 9, v => v = .string (catL [{ data := #[116, 111, 108, 100, 32] }, b, { data := #[32] }, (decT se), { data := #[10] }])
  | _, _ => True
theorem GF1.keep {bm : Nat} {b h c : ByteArray} {k se t : Int} {w w' : World} (hb : Below w.heap.size w w') : ∀ i v, GF1 bm b h c k se t w i v → GF1 bm b h c k se t w' i v
  | 0, _, h => h
  | 1, _, h => h
  | 2, _, h => h
  | 3, _, h => h
  | 4, _, h => h
  | 5, _, h => h
  | 6, _, h => h
  | 7, _, h => h
  | 8, _, h => h
  | 9, _, h => h
  | _ + 10, _, h => h
def slF20 : Nat → Nat
  | 0 => 106
  | 1 => 107
  | 2 => 108
  | 3 => 109
  | 4 => 110
  | 5 => 111
  | 6 => 112
  | 7 => 113
  | 8 => 114
  | 9 => 115
  | 10 => 116
  | 11 => 117
  | 12 => 118
  | 13 => 119
  | 14 => 120
  | 15 => 121
  | 16 => 122
  | 17 => 123
  | 18 => 124
  | 19 => 125
  | 20 => 126
  | 21 => 127
  | 22 => 128
  | 23 => 2
  | _ => 0
theorem slF20_inj {i : Nat} (hi : i < 24) : ∀ j, j < 24 → slF20 j = slF20 i → j = i := by
  have h : ∀ a : Fin 24, ∀ b : Fin 24, slF20 b.val = slF20 a.val → b.val = a.val := by decide
  intro j hj e
  exact h ⟨i, hi⟩ ⟨j, hj⟩ e
theorem slF20_out (k : Nat) (h : (List.range 24).all (fun i => slF20 i != k) = true) : ∀ i, i < 24 → slF20 i ≠ k := fun i hi e => by
  have h1 := List.all_eq_true.1 h i (List.mem_range.2 hi)
  rw [e] at h1
  simp at h1
def GF2 (bm : Nat) (b h c : ByteArray) (k se t : Int) (w : World) : Nat → Value → Prop
  | 0, v => Lst3 w v
  | 1, v => v = .pointer (some ⟨bm, 0, none⟩)
  | 2, v => v = .int .i64 2
  | 3, v => v = .int .i64 0
  | 4, v => At3 0 w v
  | 5, v => v = .string { data := #[97, 115, 107, 101, 100, 32] }
  | 6, v => v = .pointer (some ⟨bm, 1, none⟩)
  | 7, v => v = .string b
  | 8, v => v = .string (catL [{ data := #[97, 115, 107, 101, 100, 32] }, b])
  | 9, v => v = .string (catL [{ data := #[97, 115, 107, 101, 100, 32] }, b, { data := #[32] }])
  | 10, v => v = .pointer (some ⟨bm, 4, none⟩)
  | 11, v => v = .string h
  | 12, v => v = .string (catL [{ data := #[97, 115, 107, 101, 100, 32] }, b, { data := #[32] }, h])
  | 13, v => v = .string (catL [{ data := #[97, 115, 107, 101, 100, 32] }, b, { data := #[32] }, h, { data := #[32] }])
  | 14, v => v = .pointer (some ⟨bm, 5, none⟩)
  | 15, v => v = .string c
  | 16, v => v = .string (catL [{ data := #[97, 115, 107, 101, 100, 32] }, b, { data := #[32] }, h, { data := #[32] }, c])
  | 17, v => v = .string (catL [{ data := #[97, 115, 107, 101, 100, 32] }, b, { data := #[32] }, h, { data := #[32] }, c, { data := #[32] }])
  | 18, v => v = .pointer (some ⟨bm, 6, none⟩)
  | 19, v => v = .int .i64 t
  | 20, v => v = .string (decT t)
  | 21, v => v = .string (catL [{ data := #[97, 115, 107, 101, 100, 32] }, b, { data := #[32] }, h, { data := #[32] }, c, { data := #[32] }, (decT t)])
  | 22, v => v = .string (catL [{ data := #[97, 115, 107, 101, 100, 32] }, b, { data := #[32] }, h, { data := #[32] }, c, { data := #[32] }, (decT t), { data := #[10] }])
  | 23, v => v = .string (catL [{ data := #[97, 115, 107, 101, 100, 32] }, b, { data := #[32] }, h, { data := #[32] }, c, { data := #[32] }, (decT t), { data := #[10] }])
  | _, _ => True
theorem GF2.keep {bm : Nat} {b h c : ByteArray} {k se t : Int} {w w' : World} (hb : Below w.heap.size w w') : ∀ i v, GF2 bm b h c k se t w i v → GF2 bm b h c k se t w' i v
  | 0, _, h => Lst3.keep h hb
  | 1, _, h => h
  | 2, _, h => h
  | 3, _, h => h
  | 4, _, h => At3.keep h hb
  | 5, _, h => h
  | 6, _, h => h
  | 7, _, h => h
  | 8, _, h => h
  | 9, _, h => h
  | 10, _, h => h
  | 11, _, h => h
  | 12, _, h => h
  | 13, _, h => h
  | 14, _, h => h
  | 15, _, h => h
  | 16, _, h => h
  | 17, _, h => h
  | 18, _, h => h
  | 19, _, h => h
  | 20, _, h => h
  | 21, _, h => h
  | 22, _, h => h
  | 23, _, h => h
  | _ + 24, _, h => h
def GF3 (bm : Nat) (b h c : ByteArray) (k se t : Int) (w : World) : Nat → Value → Prop
  | 0, v => Lst3 w v
  | 1, v => v = .pointer (some ⟨bm, 0, none⟩)
  | 2, v => v = .int .i64 3
  | 3, v => v = .int .i64 1
  | 4, v => At3 1 w v
  | 5, v => v = .string { data := #[103, 105, 118, 101, 110, 32] }
  | 6, v => v = .pointer (some ⟨bm, 1, none⟩)
  | 7, v => v = .string b
  | 8, v => v = .string (catL [{ data := #[103, 105, 118, 101, 110, 32] }, b])
  | 9, v => v = .string (catL [{ data := #[103, 105, 118, 101, 110, 32] }, b, { data := #[32] }])
  | 10, v => v = .pointer (some ⟨bm, 4, none⟩)
  | 11, v => v = .string h
  | 12, v => v = .string (catL [{ data := #[103, 105, 118, 101, 110, 32] }, b, { data := #[32] }, h])
  | 13, v => v = .string (catL [{ data := #[103, 105, 118, 101, 110, 32] }, b, { data := #[32] }, h, { data := #[32] }])
  | 14, v => v = .pointer (some ⟨bm, 5, none⟩)
  | 15, v => v = .string c
  | 16, v => v = .string (catL [{ data := #[103, 105, 118, 101, 110, 32] }, b, { data := #[32] }, h, { data := #[32] }, c])
  | 17, v => v = .string (catL [{ data := #[103, 105, 118, 101, 110, 32] }, b, { data := #[32] }, h, { data := #[32] }, c, { data := #[32] }])
  | 18, v => v = .pointer (some ⟨bm, 6, none⟩)
  | 19, v => v = .int .i64 t
  | 20, v => v = .string (decT t)
  | 21, v => v = .string (catL [{ data := #[103, 105, 118, 101, 110, 32] }, b, { data := #[32] }, h, { data := #[32] }, c, { data := #[32] }, (decT t)])
  | 22, v => v = .string (catL [{ data := #[103, 105, 118, 101, 110, 32] }, b, { data := #[32] }, h, { data := #[32] }, c, { data := #[32] }, (decT t), { data := #[10] }])
  | 23, v => v = .string (catL [{ data := #[103, 105, 118, 101, 110, 32] }, b, { data := #[32] }, h, { data := #[32] }, c, { data := #[32] }, (decT t), { data := #[10] }])
  | _, _ => True
theorem GF3.keep {bm : Nat} {b h c : ByteArray} {k se t : Int} {w w' : World} (hb : Below w.heap.size w w') : ∀ i v, GF3 bm b h c k se t w i v → GF3 bm b h c k se t w' i v
  | 0, _, h => Lst3.keep h hb
  | 1, _, h => h
  | 2, _, h => h
  | 3, _, h => h
  | 4, _, h => At3.keep h hb
  | 5, _, h => h
  | 6, _, h => h
  | 7, _, h => h
  | 8, _, h => h
  | 9, _, h => h
  | 10, _, h => h
  | 11, _, h => h
  | 12, _, h => h
  | 13, _, h => h
  | 14, _, h => h
  | 15, _, h => h
  | 16, _, h => h
  | 17, _, h => h
  | 18, _, h => h
  | 19, _, h => h
  | 20, _, h => h
  | 21, _, h => h
  | 22, _, h => h
  | 23, _, h => h
  | _ + 24, _, h => h
def GF4 (bm : Nat) (b h c : ByteArray) (k se t : Int) (w : World) : Nat → Value → Prop
  | 0, v => Lst3 w v
  | 1, v => v = .pointer (some ⟨bm, 0, none⟩)
  | 2, v => v = .int .i64 4
  | 3, v => v = .int .i64 2
  | 4, v => At3 2 w v
  | 5, v => v = .string { data := #[98, 97, 99, 107, 32] }
  | 6, v => v = .pointer (some ⟨bm, 1, none⟩)
  | 7, v => v = .string b
  | 8, v => v = .string (catL [{ data := #[98, 97, 99, 107, 32] }, b])
  | 9, v => v = .string (catL [{ data := #[98, 97, 99, 107, 32] }, b, { data := #[32] }])
  | 10, v => v = .pointer (some ⟨bm, 4, none⟩)
  | 11, v => v = .string h
  | 12, v => v = .string (catL [{ data := #[98, 97, 99, 107, 32] }, b, { data := #[32] }, h])
  | 13, v => v = .string (catL [{ data := #[98, 97, 99, 107, 32] }, b, { data := #[32] }, h, { data := #[32] }])
  | 14, v => v = .pointer (some ⟨bm, 5, none⟩)
  | 15, v => v = .string c
  | 16, v => v = .string (catL [{ data := #[98, 97, 99, 107, 32] }, b, { data := #[32] }, h, { data := #[32] }, c])
  | 17, v => v = .string (catL [{ data := #[98, 97, 99, 107, 32] }, b, { data := #[32] }, h, { data := #[32] }, c, { data := #[32] }])
  | 18, v => v = .pointer (some ⟨bm, 6, none⟩)
  | 19, v => v = .int .i64 t
  | 20, v => v = .string (decT t)
  | 21, v => v = .string (catL [{ data := #[98, 97, 99, 107, 32] }, b, { data := #[32] }, h, { data := #[32] }, c, { data := #[32] }, (decT t)])
  | 22, v => v = .string (catL [{ data := #[98, 97, 99, 107, 32] }, b, { data := #[32] }, h, { data := #[32] }, c, { data := #[32] }, (decT t), { data := #[10] }])
  | 23, v => v = .string (catL [{ data := #[98, 97, 99, 107, 32] }, b, { data := #[32] }, h, { data := #[32] }, c, { data := #[32] }, (decT t), { data := #[10] }])
  | _, _ => True
theorem GF4.keep {bm : Nat} {b h c : ByteArray} {k se t : Int} {w w' : World} (hb : Below w.heap.size w w') : ∀ i v, GF4 bm b h c k se t w i v → GF4 bm b h c k se t w' i v
  | 0, _, h => Lst3.keep h hb
  | 1, _, h => h
  | 2, _, h => h
  | 3, _, h => h
  | 4, _, h => At3.keep h hb
  | 5, _, h => h
  | 6, _, h => h
  | 7, _, h => h
  | 8, _, h => h
  | 9, _, h => h
  | 10, _, h => h
  | 11, _, h => h
  | 12, _, h => h
  | 13, _, h => h
  | 14, _, h => h
  | 15, _, h => h
  | 16, _, h => h
  | 17, _, h => h
  | 18, _, h => h
  | 19, _, h => h
  | 20, _, h => h
  | 21, _, h => h
  | 22, _, h => h
  | 23, _, h => h
  | _ + 24, _, h => h
def slF23 : Nat → Nat
  | 0 => 137
  | 1 => 138
  | 2 => 139
  | 3 => 140
  | 4 => 141
  | 5 => 142
  | 6 => 143
  | 7 => 144
  | 8 => 145
  | 9 => 146
  | 10 => 147
  | 11 => 148
  | 12 => 149
  | 13 => 2
  | _ => 0
theorem slF23_inj {i : Nat} (hi : i < 14) : ∀ j, j < 14 → slF23 j = slF23 i → j = i := by
  have h : ∀ a : Fin 14, ∀ b : Fin 14, slF23 b.val = slF23 a.val → b.val = a.val := by decide
  intro j hj e
  exact h ⟨i, hi⟩ ⟨j, hj⟩ e
theorem slF23_out (k : Nat) (h : (List.range 14).all (fun i => slF23 i != k) = true) : ∀ i, i < 14 → slF23 i ≠ k := fun i hi e => by
  have h1 := List.all_eq_true.1 h i (List.mem_range.2 hi)
  rw [e] at h1
  simp at h1
def GF5 (bm : Nat) (b h c : ByteArray) (k se t : Int) (w : World) : Nat → Value → Prop
  | 0, v => v = .pointer (some ⟨bm, 1, none⟩)
  | 1, v => v = .string b
  | 2, v => v = .string (catL [{ data := #[103, 111, 116, 98, 97, 99, 107, 32] }, b])
  | 3, v => v = .string (catL [{ data := #[103, 111, 116, 98, 97, 99, 107, 32] }, b, { data := #[32] }])
  | 4, v => v = .pointer (some ⟨bm, 4, none⟩)
  | 5, v => v = .string h
  | 6, v => v = .string (catL [{ data := #[103, 111, 116, 98, 97, 99, 107, 32] }, b, { data := #[32] }, h])
  | 7, v => v = .string (catL [{ data := #[103, 111, 116, 98, 97, 99, 107, 32] }, b, { data := #[32] }, h, { data := #[32] }])
  | 8, v => v = .pointer (some ⟨bm, 6, none⟩)
  | 9, v => v = .int .i64 t
  | 10, v => v = .string (decT t)
  | 11, v => v = .string (catL [{ data := #[103, 111, 116, 98, 97, 99, 107, 32] }, b, { data := #[32] }, h, { data := #[32] }, (decT t)])
  | 12, v => v = .string (catL [{ data := #[103, 111, 116, 98, 97, 99, 107, 32] }, b, { data := #[32] }, h, { data := #[32] }, (decT t), { data := #[10] }])
  | 13, v => v = .string (catL [{ data := #[103, 111, 116, 98, 97, 99, 107, 32] }, b, { data := #[32] }, h, { data := #[32] }, (decT t), { data := #[10] }])
  | _, _ => True
theorem GF5.keep {bm : Nat} {b h c : ByteArray} {k se t : Int} {w w' : World} (hb : Below w.heap.size w w') : ∀ i v, GF5 bm b h c k se t w i v → GF5 bm b h c k se t w' i v
  | 0, _, h => h
  | 1, _, h => h
  | 2, _, h => h
  | 3, _, h => h
  | 4, _, h => h
  | 5, _, h => h
  | 6, _, h => h
  | 7, _, h => h
  | 8, _, h => h
  | 9, _, h => h
  | 10, _, h => h
  | 11, _, h => h
  | 12, _, h => h
  | 13, _, h => h
  | _ + 14, _, h => h
def slF26 : Nat → Nat
  | 0 => 170
  | 1 => 171
  | 2 => 172
  | 3 => 173
  | 4 => 174
  | 5 => 175
  | 6 => 176
  | 7 => 177
  | 8 => 178
  | 9 => 2
  | _ => 0
theorem slF26_inj {i : Nat} (hi : i < 10) : ∀ j, j < 10 → slF26 j = slF26 i → j = i := by
  have h : ∀ a : Fin 10, ∀ b : Fin 10, slF26 b.val = slF26 a.val → b.val = a.val := by decide
  intro j hj e
  exact h ⟨i, hi⟩ ⟨j, hj⟩ e
theorem slF26_out (k : Nat) (h : (List.range 10).all (fun i => slF26 i != k) = true) : ∀ i, i < 10 → slF26 i ≠ k := fun i hi e => by
  have h1 := List.all_eq_true.1 h i (List.mem_range.2 hi)
  rw [e] at h1
  simp at h1
def GF6 (bm : Nat) (b h c : ByteArray) (k se t : Int) (w : World) : Nat → Value → Prop
  | 0, v => v = .pointer (some ⟨bm, 1, none⟩)
  | 1, v => v = .string b
  | 2, v => v = .string (catL [{ data := #[104, 101, 114, 101, 32] }, b])
  | 3, v => v = .string (catL [{ data := #[104, 101, 114, 101, 32] }, b, { data := #[32] }])
  | 4, v => v = .pointer (some ⟨bm, 2, none⟩)
  | 5, v => v = .int .i64 se
  | 6, v => v = .string (decT se)
  | 7, v => v = .string (catL [{ data := #[104, 101, 114, 101, 32] }, b, { data := #[32] }, (decT se)])
  | 8, v => v = .string (catL [{ data := #[104, 101, 114, 101, 32] }, b, { data := #[32] }, (decT se), { data := #[10] }])
  | 9, v => v = .string (catL [{ data := #[104, 101, 114, 101, 32] }, b, { data := #[32] }, (decT se), { data := #[10] }])
  | _, _ => True
theorem GF6.keep {bm : Nat} {b h c : ByteArray} {k se t : Int} {w w' : World} (hb : Below w.heap.size w w') : ∀ i v, GF6 bm b h c k se t w i v → GF6 bm b h c k se t w' i v
  | 0, _, h => h
  | 1, _, h => h
  | 2, _, h => h
  | 3, _, h => h
  | 4, _, h => h
  | 5, _, h => h
  | 6, _, h => h
  | 7, _, h => h
  | 8, _, h => h
  | 9, _, h => h
  | _ + 10, _, h => h

end Go.Proofs.YtgakmkhbnjofhaaGreatDoor
