import Derived.Test.YtgakmkhbnjofhaaGreatDoorJ13
import Derived.Test.YtgakmkhbnjofhaaGreatDoorJ10
import Derived.Laws.StructEq
import Derived.Test.YtgakmkhbnjofhaaGreatDoorJ06
import Derived.Deep.RegionHeld3
import Derived.Laws.Pointers
import Derived.StillTactics
import Derived.Laws.EntriesVeiled
namespace Go.Proofs.YtgakmkhbnjofhaaGreatDoor
open Go.RowKit
set_option linter.unusedVariables false
structure ParD where
 k : Int
 b : ByteArray
 se : Int
 ws : List W.WantD
 h : ByteArray
 c : ByteArray
 t : Int
open Classical in
noncomputable def wantsB (ws : List W.WantD) : Bool := decide (ws.length ≤ 10 ∧ W.AllW ws ws.length)
open Classical in
theorem says_eq {q : Bool} {ws : List W.WantD} (h : W.Says q ws) : q = wantsB ws := by
 unfold wantsB
 by_cases e : ws.length ≤ 10 ∧ W.AllW ws ws.length
 ·
  exact (h.2 e).trans (decide_eq_true e).symm
 ·
  rw [decide_eq_false e]
  cases q with
  | false => rfl
  | true => exact (e (h.1 rfl)).elim
theorem hold_empty {s : ByteArray} (h : s.toList.isEmpty = true) : holdB s = false := by
 rw [ByteArray.toList_eq] at h
 have h1 : s.size = 0 := by
  show s.data.size = 0
  rw [← Array.length_toList, List.isEmpty_iff.1 h]; rfl
 have h2 : nameB s = false := by unfold nameB inB; rw [h1]; rfl
 unfold holdB
 rw [h2]; rfl
def tailT (ws : List W.WantD) (x : ByteArray) : ByteArray := ws.foldl (fun t r => t ++ wantT r) x
theorem tail_succ {ws : List W.WantD} {j : Nat} {r : W.WantD} (hr : ws[j]? = some r) (x : ByteArray) : tailT (ws.take (j + 1)) x = tailT (ws.take j) x ++ wantT r := by
 unfold tailT
 rw [List.take_add_one, hr, List.foldl_append]
 rfl
theorem nameB_size {s : ByteArray} (h : nameB s = true) : s.size ≤ 20 := by
 unfold nameB inB at h
 simp only [Bool.and_eq_true, decide_eq_true_eq] at h
 omega
theorem writes_of {r : W.WantD} (h : r.ok = true) : Writes r := by
 unfold W.WantD.ok wantB ticksB at h
 simp only [Bool.and_eq_true, Bool.or_eq_true] at h
 obtain ⟨h1, h2, h3, h4, h5, h6, h7⟩ := h
 have hin : ∀ {n a b : Int}, inB n a b = true → a ≤ n ∧ n ≤ b := fun {n a b} h => by
  unfold inB at h
  simpa using h
 have z := nameB_size h1
 obtain ⟨v1, v2⟩ := hin h2
 obtain ⟨p1, p2⟩ := hin h4
 obtain ⟨s1, s2⟩ := hin h5
 obtain ⟨d1, d2⟩ := hin h6
 obtain ⟨g1, g2⟩ := hin h7
 refine ⟨by omega, ?_, ⟨by omega, by omega⟩, ⟨by omega, by omega⟩, ⟨by omega, by omega⟩, ⟨by omega, by omega⟩, ⟨by omega, by omega⟩⟩
 rcases h3 with h3 | h3
 ·
  rw [ByteArray.toList_eq] at h3
  have h1 : r.h.size = 0 := by
   show r.h.data.size = 0
   rw [← Array.length_toList, List.isEmpty_iff.1 h3]; rfl
  omega
 ·
  unfold holdB at h3
  simp only [Bool.and_eq_true] at h3
  have := nameB_size h3.1
  omega
theorem catL_n (M N : Nat) (l : List ByteArray) (h : ∀ p ∈ l, p.size ≤ M) (hl : l.length = N) : (catL l).size ≤ N * M := by
 rw [← hl]
 exact catL_le M l h
theorem wantT_size {r : W.WantD} (h : Writes r) : (wantT r).size ≤ 15000000000 := by
 have hh : (holdT r.h).size ≤ 1000000000 := by
  unfold holdT
  split
  ·
   exact lb rfl
  ·
   have := h.h; omega
 have h1 := decT_le r.v h.v.1 h.v.2
 have h2 := decT_le r.p h.p.1 h.p.2
 have h3 := decT_le r.s h.s.1 h.s.2
 have h4 := decT_le r.d h.d.1 h.d.2
 have h5 := decT_le r.g h.g.1 h.g.2
 have hc : r.c.size ≤ 1000000000 := by have := h.c; omega
 have e : wantT r = catL [{ data := #[119, 97, 110, 116, 32] }, r.c, { data := #[32] }, decT r.v, { data := #[32] }, holdT r.h, { data := #[32] }, decT r.p, { data := #[32] }, decT r.s, { data := #[32] }, decT r.d, { data := #[32] }, decT r.g, { data := #[10] }] := rfl
 have h8 : ∀ p ∈ [{ data := #[119, 97, 110, 116, 32] }, r.c, { data := #[32] }, decT r.v, { data := #[32] }, holdT r.h, { data := #[32] }, decT r.p, { data := #[32] }, decT r.s, { data := #[32] }, decT r.d, { data := #[32] }, decT r.g, { data := #[10] }], p.size ≤ 1000000000 := by
  intro p hp
  simp only [List.mem_cons, List.not_mem_nil, or_false] at hp
  rcases hp with rfl | rfl | rfl | rfl | rfl | rfl | rfl | rfl | rfl | rfl | rfl | rfl | rfl | rfl | rfl
  all_goals first | assumption | decide
 have h9 := catL_n 1000000000 15 [{ data := #[119, 97, 110, 116, 32] }, r.c, { data := #[32] }, decT r.v, { data := #[32] }, holdT r.h, { data := #[32] }, decT r.p, { data := #[32] }, decT r.s, { data := #[32] }, decT r.d, { data := #[32] }, decT r.g, { data := #[10] }] h8 rfl
 rw [e]
 omega
theorem tail_le : ∀ (ws : List W.WantD) (x : ByteArray), (∀ r ∈ ws, Writes r) → (tailT ws x).size ≤ x.size + ws.length * 15000000000
 | [], x, _ => by simp [tailT]
 | r :: ws, x, h => by
  have h1 := tail_le ws (x ++ wantT r) (fun q hq => h q (List.mem_cons_of_mem _ hq))
  have h2 := wantT_size (h r (List.mem_cons_self ..))
  rw [ByteArray.size_append] at h1
  have e : tailT (r :: ws) x = tailT ws (x ++ wantT r) := rfl
  rw [e, List.length_cons, Nat.succ_mul]
  omega
def wordT (k : Int) : ByteArray := if k = 2 then { data := #[97, 115, 107, 101, 100, 32] } else if k = 3 then { data := #[103, 105, 118, 101, 110, 32] } else { data := #[98, 97, 99, 107, 32] }
noncomputable def formT (P : ParD) : ByteArray :=
 if nameB P.b = false then { data := #[] }
 else if (P.k ≠ 1 ∧ 0 < P.ws.length) ∨ (P.k ≠ 1 ∧ P.k ≠ 6 ∧ P.se ≠ 0) then { data := #[] }
 else if P.k = 1 then
  if wantsB P.ws = true ∧ inB P.se 1 1000000 = true ∧ P.h.toList.isEmpty = true ∧ P.c.toList.isEmpty = true ∧ P.t = 0 then tailT P.ws (catL [{ data := #[116, 111, 108, 100, 32] }, P.b, { data := #[32] }, decT P.se, { data := #[10] }]) else { data := #[] }
 else if P.k = 2 ∨ P.k = 3 ∨ P.k = 4 then
  if holdB P.h = true ∧ inB P.t 0 1000000 = true ∧ nameB P.c = true then catL [wordT P.k, P.b, { data := #[32] }, P.h, { data := #[32] }, P.c, { data := #[32] }, decT P.t, { data := #[10] }] else { data := #[] }
 else if P.k = 5 then
  if holdB P.h = true ∧ inB P.t 0 1000000 = true ∧ P.c.toList.isEmpty = true then catL [{ data := #[103, 111, 116, 98, 97, 99, 107, 32] }, P.b, { data := #[32] }, P.h, { data := #[32] }, decT P.t, { data := #[10] }] else { data := #[] }
 else if P.k = 6 then
  if inB P.se 0 1000000 = true ∧ P.h.toList.isEmpty = true ∧ P.c.toList.isEmpty = true ∧ P.t = 0 then catL [{ data := #[104, 101, 114, 101, 32] }, P.b, { data := #[32] }, decT P.se, { data := #[10] }] else { data := #[] }
 else { data := #[] }
structure ParIn (w : World) (P : ParD) (g : Nat) : Prop where
 b : P.b.size ≤ 1048576
 h : P.h.size ≤ 1048576
 c : P.c.size ≤ 1048576
 l : P.ws.length ≤ 1048576
 f : ∀ r ∈ P.ws, r.fits
 r : W.RowsAt w g 0 P.ws
 g : g < w.heap.size
structure ParSz (P : ParD) : Prop where
 b : P.b.size ≤ 1048576
 h : P.h.size ≤ 1048576
 c : P.c.size ≤ 1048576
 l : P.ws.length ≤ 1048576
theorem ParIn.sz {w : World} {P : ParD} {g : Nat} (h : ParIn w P g) : ParSz P := ⟨h.b, h.h, h.c, h.l⟩
def arrW : Array Value := #[.string ⟨#[97, 115, 107, 101, 100, 32]⟩, .string ⟨#[103, 105, 118, 101, 110, 32]⟩, .string ⟨#[98, 97, 99, 107, 32]⟩]
theorem bldW (w : World) : Sem.run Tryz.prog (Instr.buildSlice 43 3 #[(0, .string ⟨#[97, 115, 107, 101, 100, 32]⟩), (1, .string ⟨#[103, 105, 118, 101, 110, 32]⟩), (2, .string ⟨#[98, 97, 99, 107, 32]⟩)]) w = .ok (.slice (some ⟨w.heap.size, 0, none⟩) 3 3) (w.alloc (.cells arrW 9)) := by kernel_rfl
def Lst3 (w : World) (v : Value) : Prop := ∃ g, v = .slice (some ⟨g, 0, none⟩) 3 3 ∧ g < w.heap.size ∧ ∀ j, w.cell? ⟨g, j, none⟩ = arrW[j]?
theorem Lst3.keep {w w' : World} {v : Value} (h : Lst3 w v) (hb : Below w.heap.size w w') : Lst3 w' v := by
 obtain ⟨g, h1, h2, h3⟩ := h
 exact ⟨g, h1, Nat.lt_of_lt_of_le h2 hb.size, fun j => (hb.cell (p := ⟨g, j, none⟩) h2).trans (h3 j)⟩
theorem Lst3.new (y : World) : Lst3 (y.alloc (.cells arrW 9)) (.slice (some ⟨y.heap.size, 0, none⟩) 3 3) := ⟨y.heap.size, rfl, by simp, fun j => by rw [World.cell?_alloc_new]⟩
def At3 (j : Nat) (w : World) (v : Value) : Prop := ∃ g, v = .pointer (some ⟨g, j, none⟩) ∧ g < w.heap.size ∧ w.cell? ⟨g, j, none⟩ = arrW[j]?
theorem At3.keep {j : Nat} {w w' : World} {v : Value} (h : At3 j w v) (hb : Below w.heap.size w w') : At3 j w' v := by
 obtain ⟨g, h1, h2, h3⟩ := h
 exact ⟨g, h1, Nat.lt_of_lt_of_le h2 hb.size, (hb.cell (p := ⟨g, j, none⟩) h2).trans h3⟩
def slF10 : Nat → Nat
 | 0 => 71
 | 1 => 72
 | 2 => 73
 | 3 => 74
 | 4 => 75
 | 5 => 76
 | 6 => 77
 | 7 => 78
 | 8 => 79
 | 9 => 4
 | _ => 0
theorem slF10_inj {i : Nat} (hi : i < 10) : ∀ j, j < 10 → slF10 j = slF10 i → j = i := by
 have h : ∀ a : _root_.Fin 10, ∀ b : _root_.Fin 10, slF10 b.val = slF10 a.val → b.val = a.val := by decide
 intro j hj e
 exact h ⟨i, hi⟩ ⟨j, hj⟩ e
theorem slF10_out (k : Nat) (h : (List.range 10).all (fun i => slF10 i != k) = true) : ∀ i, i < 10 → slF10 i ≠ k := fun i hi e => by
 have h1 := List.all_eq_true.1 h i (List.mem_range.2 hi)
 rw [e] at h1
 simp at h1
def GF1 (bm : Nat) (b h c : ByteArray) (k se t : Int) (w : World) : Nat → Value → Prop
 | 0, v => v = .pointer (some ⟨bm, 1, none⟩)
 | 1, v => v = .string b
 | 2, v => v = .string (catL [{ data := #[116, 111, 108, 100, 32] }, b])
 | 3, v => v = .string (catL [{ data := #[116, 111, 108, 100, 32] }, b, { data := #[32] }])
 | 4, v => v = .pointer (some ⟨bm, 2, none⟩)
 | 5, v => v = .int .i64 se
 | 6, v => v = .string (decT se)
 | 7, v => v = .string (catL [{ data := #[116, 111, 108, 100, 32] }, b, { data := #[32] }, (decT se)])
 | 8, v => v = .string (catL [{ data := #[116, 111, 108, 100, 32] }, b, { data := #[32] }, (decT se), { data := #[10] }])
 | 9, v => v = .string (catL [{ data := #[116, 111, 108, 100, 32] }, b, { data := #[32] }, (decT se), { data := #[10] }])
 | _, _ => True
theorem GF1.keep {bm : Nat} {b h c : ByteArray} {k se t : Int} {w w' : World} (hb : Below w.heap.size w w') : ∀ i v, GF1 bm b h c k se t w i v → GF1 bm b h c k se t w' i v
 | 0, _, h => h
 | 1, _, h => h
 | 2, _, h => h
 | 3, _, h => h
 | 4, _, h => h
 | 5, _, h => h
 | 6, _, h => h
 | 7, _, h => h
 | 8, _, h => h
 | 9, _, h => h
 | _ + 10, _, h => h
def slF20 : Nat → Nat
 | 0 => 106
 | 1 => 107
 | 2 => 108
 | 3 => 109
 | 4 => 110
 | 5 => 111
 | 6 => 112
 | 7 => 113
 | 8 => 114
 | 9 => 115
 | 10 => 116
 | 11 => 117
 | 12 => 118
 | 13 => 119
 | 14 => 120
 | 15 => 121
 | 16 => 122
 | 17 => 123
 | 18 => 124
 | 19 => 125
 | 20 => 126
 | 21 => 127
 | 22 => 128
 | 23 => 2
 | _ => 0
theorem slF20_inj {i : Nat} (hi : i < 24) : ∀ j, j < 24 → slF20 j = slF20 i → j = i := by
 have h : ∀ a : _root_.Fin 24, ∀ b : _root_.Fin 24, slF20 b.val = slF20 a.val → b.val = a.val := by decide
 intro j hj e
 exact h ⟨i, hi⟩ ⟨j, hj⟩ e
theorem slF20_out (k : Nat) (h : (List.range 24).all (fun i => slF20 i != k) = true) : ∀ i, i < 24 → slF20 i ≠ k := fun i hi e => by
 have h1 := List.all_eq_true.1 h i (List.mem_range.2 hi)
 rw [e] at h1
 simp at h1
def GF2 (bm : Nat) (b h c : ByteArray) (k se t : Int) (w : World) : Nat → Value → Prop
 | 0, v => Lst3 w v
 | 1, v => v = .pointer (some ⟨bm, 0, none⟩)
 | 2, v => v = .int .i64 2
 | 3, v => v = .int .i64 0
 | 4, v => At3 0 w v
 | 5, v => v = .string ⟨#[97, 115, 107, 101, 100, 32]⟩
 | 6, v => v = .pointer (some ⟨bm, 1, none⟩)
 | 7, v => v = .string b
 | 8, v => v = .string (catL [{ data := #[97, 115, 107, 101, 100, 32] }, b])
 | 9, v => v = .string (catL [{ data := #[97, 115, 107, 101, 100, 32] }, b, { data := #[32] }])
 | 10, v => v = .pointer (some ⟨bm, 4, none⟩)
 | 11, v => v = .string h
 | 12, v => v = .string (catL [{ data := #[97, 115, 107, 101, 100, 32] }, b, { data := #[32] }, h])
 | 13, v => v = .string (catL [{ data := #[97, 115, 107, 101, 100, 32] }, b, { data := #[32] }, h, { data := #[32] }])
 | 14, v => v = .pointer (some ⟨bm, 5, none⟩)
 | 15, v => v = .string c
 | 16, v => v = .string (catL [{ data := #[97, 115, 107, 101, 100, 32] }, b, { data := #[32] }, h, { data := #[32] }, c])
 | 17, v => v = .string (catL [{ data := #[97, 115, 107, 101, 100, 32] }, b, { data := #[32] }, h, { data := #[32] }, c, { data := #[32] }])
 | 18, v => v = .pointer (some ⟨bm, 6, none⟩)
 | 19, v => v = .int .i64 t
 | 20, v => v = .string (decT t)
 | 21, v => v = .string (catL [{ data := #[97, 115, 107, 101, 100, 32] }, b, { data := #[32] }, h, { data := #[32] }, c, { data := #[32] }, (decT t)])
 | 22, v => v = .string (catL [{ data := #[97, 115, 107, 101, 100, 32] }, b, { data := #[32] }, h, { data := #[32] }, c, { data := #[32] }, (decT t), { data := #[10] }])
 | 23, v => v = .string (catL [{ data := #[97, 115, 107, 101, 100, 32] }, b, { data := #[32] }, h, { data := #[32] }, c, { data := #[32] }, (decT t), { data := #[10] }])
 | _, _ => True
theorem GF2.keep {bm : Nat} {b h c : ByteArray} {k se t : Int} {w w' : World} (hb : Below w.heap.size w w') : ∀ i v, GF2 bm b h c k se t w i v → GF2 bm b h c k se t w' i v
 | 0, _, h => Lst3.keep h hb
 | 1, _, h => h
 | 2, _, h => h
 | 3, _, h => h
 | 4, _, h => At3.keep h hb
 | 5, _, h => h
 | 6, _, h => h
 | 7, _, h => h
 | 8, _, h => h
 | 9, _, h => h
 | 10, _, h => h
 | 11, _, h => h
 | 12, _, h => h
 | 13, _, h => h
 | 14, _, h => h
 | 15, _, h => h
 | 16, _, h => h
 | 17, _, h => h
 | 18, _, h => h
 | 19, _, h => h
 | 20, _, h => h
 | 21, _, h => h
 | 22, _, h => h
 | 23, _, h => h
 | _ + 24, _, h => h
def GF3 (bm : Nat) (b h c : ByteArray) (k se t : Int) (w : World) : Nat → Value → Prop
 | 0, v => Lst3 w v
 | 1, v => v = .pointer (some ⟨bm, 0, none⟩)
 | 2, v => v = .int .i64 3
 | 3, v => v = .int .i64 1
 | 4, v => At3 1 w v
 | 5, v => v = .string ⟨#[103, 105, 118, 101, 110, 32]⟩
 | 6, v => v = .pointer (some ⟨bm, 1, none⟩)
 | 7, v => v = .string b
 | 8, v => v = .string (catL [{ data := #[103, 105, 118, 101, 110, 32] }, b])
 | 9, v => v = .string (catL [{ data := #[103, 105, 118, 101, 110, 32] }, b, { data := #[32] }])
 | 10, v => v = .pointer (some ⟨bm, 4, none⟩)
 | 11, v => v = .string h
 | 12, v => v = .string (catL [{ data := #[103, 105, 118, 101, 110, 32] }, b, { data := #[32] }, h])
 | 13, v => v = .string (catL [{ data := #[103, 105, 118, 101, 110, 32] }, b, { data := #[32] }, h, { data := #[32] }])
 | 14, v => v = .pointer (some ⟨bm, 5, none⟩)
 | 15, v => v = .string c
 | 16, v => v = .string (catL [{ data := #[103, 105, 118, 101, 110, 32] }, b, { data := #[32] }, h, { data := #[32] }, c])
 | 17, v => v = .string (catL [{ data := #[103, 105, 118, 101, 110, 32] }, b, { data := #[32] }, h, { data := #[32] }, c, { data := #[32] }])
 | 18, v => v = .pointer (some ⟨bm, 6, none⟩)
 | 19, v => v = .int .i64 t
 | 20, v => v = .string (decT t)
 | 21, v => v = .string (catL [{ data := #[103, 105, 118, 101, 110, 32] }, b, { data := #[32] }, h, { data := #[32] }, c, { data := #[32] }, (decT t)])
 | 22, v => v = .string (catL [{ data := #[103, 105, 118, 101, 110, 32] }, b, { data := #[32] }, h, { data := #[32] }, c, { data := #[32] }, (decT t), { data := #[10] }])
 | 23, v => v = .string (catL [{ data := #[103, 105, 118, 101, 110, 32] }, b, { data := #[32] }, h, { data := #[32] }, c, { data := #[32] }, (decT t), { data := #[10] }])
 | _, _ => True
theorem GF3.keep {bm : Nat} {b h c : ByteArray} {k se t : Int} {w w' : World} (hb : Below w.heap.size w w') : ∀ i v, GF3 bm b h c k se t w i v → GF3 bm b h c k se t w' i v
 | 0, _, h => Lst3.keep h hb
 | 1, _, h => h
 | 2, _, h => h
 | 3, _, h => h
 | 4, _, h => At3.keep h hb
 | 5, _, h => h
 | 6, _, h => h
 | 7, _, h => h
 | 8, _, h => h
 | 9, _, h => h
 | 10, _, h => h
 | 11, _, h => h
 | 12, _, h => h
 | 13, _, h => h
 | 14, _, h => h
 | 15, _, h => h
 | 16, _, h => h
 | 17, _, h => h
 | 18, _, h => h
 | 19, _, h => h
 | 20, _, h => h
 | 21, _, h => h
 | 22, _, h => h
 | 23, _, h => h
 | _ + 24, _, h => h
def GF4 (bm : Nat) (b h c : ByteArray) (k se t : Int) (w : World) : Nat → Value → Prop
 | 0, v => Lst3 w v
 | 1, v => v = .pointer (some ⟨bm, 0, none⟩)
 | 2, v => v = .int .i64 4
 | 3, v => v = .int .i64 2
 | 4, v => At3 2 w v
 | 5, v => v = .string ⟨#[98, 97, 99, 107, 32]⟩
 | 6, v => v = .pointer (some ⟨bm, 1, none⟩)
 | 7, v => v = .string b
 | 8, v => v = .string (catL [{ data := #[98, 97, 99, 107, 32] }, b])
 | 9, v => v = .string (catL [{ data := #[98, 97, 99, 107, 32] }, b, { data := #[32] }])
 | 10, v => v = .pointer (some ⟨bm, 4, none⟩)
 | 11, v => v = .string h
 | 12, v => v = .string (catL [{ data := #[98, 97, 99, 107, 32] }, b, { data := #[32] }, h])
 | 13, v => v = .string (catL [{ data := #[98, 97, 99, 107, 32] }, b, { data := #[32] }, h, { data := #[32] }])
 | 14, v => v = .pointer (some ⟨bm, 5, none⟩)
 | 15, v => v = .string c
 | 16, v => v = .string (catL [{ data := #[98, 97, 99, 107, 32] }, b, { data := #[32] }, h, { data := #[32] }, c])
 | 17, v => v = .string (catL [{ data := #[98, 97, 99, 107, 32] }, b, { data := #[32] }, h, { data := #[32] }, c, { data := #[32] }])
 | 18, v => v = .pointer (some ⟨bm, 6, none⟩)
 | 19, v => v = .int .i64 t
 | 20, v => v = .string (decT t)
 | 21, v => v = .string (catL [{ data := #[98, 97, 99, 107, 32] }, b, { data := #[32] }, h, { data := #[32] }, c, { data := #[32] }, (decT t)])
 | 22, v => v = .string (catL [{ data := #[98, 97, 99, 107, 32] }, b, { data := #[32] }, h, { data := #[32] }, c, { data := #[32] }, (decT t), { data := #[10] }])
 | 23, v => v = .string (catL [{ data := #[98, 97, 99, 107, 32] }, b, { data := #[32] }, h, { data := #[32] }, c, { data := #[32] }, (decT t), { data := #[10] }])
 | _, _ => True
theorem GF4.keep {bm : Nat} {b h c : ByteArray} {k se t : Int} {w w' : World} (hb : Below w.heap.size w w') : ∀ i v, GF4 bm b h c k se t w i v → GF4 bm b h c k se t w' i v
 | 0, _, h => Lst3.keep h hb
 | 1, _, h => h
 | 2, _, h => h
 | 3, _, h => h
 | 4, _, h => At3.keep h hb
 | 5, _, h => h
 | 6, _, h => h
 | 7, _, h => h
 | 8, _, h => h
 | 9, _, h => h
 | 10, _, h => h
 | 11, _, h => h
 | 12, _, h => h
 | 13, _, h => h
 | 14, _, h => h
 | 15, _, h => h
 | 16, _, h => h
 | 17, _, h => h
 | 18, _, h => h
 | 19, _, h => h
 | 20, _, h => h
 | 21, _, h => h
 | 22, _, h => h
 | 23, _, h => h
 | _ + 24, _, h => h
def slF23 : Nat → Nat
 | 0 => 137
 | 1 => 138
 | 2 => 139
 | 3 => 140
 | 4 => 141
 | 5 => 142
 | 6 => 143
 | 7 => 144
 | 8 => 145
 | 9 => 146
 | 10 => 147
 | 11 => 148
 | 12 => 149
 | 13 => 2
 | _ => 0
theorem slF23_inj {i : Nat} (hi : i < 14) : ∀ j, j < 14 → slF23 j = slF23 i → j = i := by
 have h : ∀ a : _root_.Fin 14, ∀ b : _root_.Fin 14, slF23 b.val = slF23 a.val → b.val = a.val := by decide
 intro j hj e
 exact h ⟨i, hi⟩ ⟨j, hj⟩ e
theorem slF23_out (k : Nat) (h : (List.range 14).all (fun i => slF23 i != k) = true) : ∀ i, i < 14 → slF23 i ≠ k := fun i hi e => by
 have h1 := List.all_eq_true.1 h i (List.mem_range.2 hi)
 rw [e] at h1
 simp at h1
def GF5 (bm : Nat) (b h c : ByteArray) (k se t : Int) (w : World) : Nat → Value → Prop
 | 0, v => v = .pointer (some ⟨bm, 1, none⟩)
 | 1, v => v = .string b
 | 2, v => v = .string (catL [{ data := #[103, 111, 116, 98, 97, 99, 107, 32] }, b])
 | 3, v => v = .string (catL [{ data := #[103, 111, 116, 98, 97, 99, 107, 32] }, b, { data := #[32] }])
 | 4, v => v = .pointer (some ⟨bm, 4, none⟩)
 | 5, v => v = .string h
 | 6, v => v = .string (catL [{ data := #[103, 111, 116, 98, 97, 99, 107, 32] }, b, { data := #[32] }, h])
 | 7, v => v = .string (catL [{ data := #[103, 111, 116, 98, 97, 99, 107, 32] }, b, { data := #[32] }, h, { data := #[32] }])
 | 8, v => v = .pointer (some ⟨bm, 6, none⟩)
 | 9, v => v = .int .i64 t
 | 10, v => v = .string (decT t)
 | 11, v => v = .string (catL [{ data := #[103, 111, 116, 98, 97, 99, 107, 32] }, b, { data := #[32] }, h, { data := #[32] }, (decT t)])
 | 12, v => v = .string (catL [{ data := #[103, 111, 116, 98, 97, 99, 107, 32] }, b, { data := #[32] }, h, { data := #[32] }, (decT t), { data := #[10] }])
 | 13, v => v = .string (catL [{ data := #[103, 111, 116, 98, 97, 99, 107, 32] }, b, { data := #[32] }, h, { data := #[32] }, (decT t), { data := #[10] }])
 | _, _ => True
theorem GF5.keep {bm : Nat} {b h c : ByteArray} {k se t : Int} {w w' : World} (hb : Below w.heap.size w w') : ∀ i v, GF5 bm b h c k se t w i v → GF5 bm b h c k se t w' i v
 | 0, _, h => h
 | 1, _, h => h
 | 2, _, h => h
 | 3, _, h => h
 | 4, _, h => h
 | 5, _, h => h
 | 6, _, h => h
 | 7, _, h => h
 | 8, _, h => h
 | 9, _, h => h
 | 10, _, h => h
 | 11, _, h => h
 | 12, _, h => h
 | 13, _, h => h
 | _ + 14, _, h => h
def slF26 : Nat → Nat
 | 0 => 170
 | 1 => 171
 | 2 => 172
 | 3 => 173
 | 4 => 174
 | 5 => 175
 | 6 => 176
 | 7 => 177
 | 8 => 178
 | 9 => 2
 | _ => 0
theorem slF26_inj {i : Nat} (hi : i < 10) : ∀ j, j < 10 → slF26 j = slF26 i → j = i := by
 have h : ∀ a : _root_.Fin 10, ∀ b : _root_.Fin 10, slF26 b.val = slF26 a.val → b.val = a.val := by decide
 intro j hj e
 exact h ⟨i, hi⟩ ⟨j, hj⟩ e
theorem slF26_out (k : Nat) (h : (List.range 10).all (fun i => slF26 i != k) = true) : ∀ i, i < 10 → slF26 i ≠ k := fun i hi e => by
 have h1 := List.all_eq_true.1 h i (List.mem_range.2 hi)
 rw [e] at h1
 simp at h1
def GF6 (bm : Nat) (b h c : ByteArray) (k se t : Int) (w : World) : Nat → Value → Prop
 | 0, v => v = .pointer (some ⟨bm, 1, none⟩)
 | 1, v => v = .string b
 | 2, v => v = .string (catL [{ data := #[104, 101, 114, 101, 32] }, b])
 | 3, v => v = .string (catL [{ data := #[104, 101, 114, 101, 32] }, b, { data := #[32] }])
 | 4, v => v = .pointer (some ⟨bm, 2, none⟩)
 | 5, v => v = .int .i64 se
 | 6, v => v = .string (decT se)
 | 7, v => v = .string (catL [{ data := #[104, 101, 114, 101, 32] }, b, { data := #[32] }, (decT se)])
 | 8, v => v = .string (catL [{ data := #[104, 101, 114, 101, 32] }, b, { data := #[32] }, (decT se), { data := #[10] }])
 | 9, v => v = .string (catL [{ data := #[104, 101, 114, 101, 32] }, b, { data := #[32] }, (decT se), { data := #[10] }])
 | _, _ => True
theorem GF6.keep {bm : Nat} {b h c : ByteArray} {k se t : Int} {w w' : World} (hb : Below w.heap.size w w') : ∀ i v, GF6 bm b h c k se t w i v → GF6 bm b h c k se t w' i v
 | 0, _, h => h
 | 1, _, h => h
 | 2, _, h => h
 | 3, _, h => h
 | 4, _, h => h
 | 5, _, h => h
 | 6, _, h => h
 | 7, _, h => h
 | 8, _, h => h
 | 9, _, h => h
 | _ + 10, _, h => h
end Go.Proofs.YtgakmkhbnjofhaaGreatDoor
namespace Go.Proofs.YtgakmkhbnjofhaaGreatDoor.W
open Go.RowKit
set_option linter.unusedVariables false
set_option maxRecDepth 4000 in
set_option maxHeartbeats 1000000 in
theorem allOk (P : WantD → Bool) (b off cap : Nat) (rs : List WantD) (w : World) (hR : RowsAt w b off rs) (l1 : b < w.heap.size) (hl : rs.length ≤ 1048576)
  (hF : ∀ r ∈ rs, ∀ x, Below w.heap.size w x → Calls Tryz.prog 62 #[.agg #[.string r.c, .int .i64 r.v, .string r.h, .int .i64 r.p, .int .i64 r.s, .int .i64 r.d, .int .i64 r.g]] x fun e x' => e = .returned (.bool (P r)) ∧ Below x.heap.size x x') :
  Calls Tryz.prog 61 #[.slice (some ⟨b, off, none⟩) rs.length cap, .func (.func 62) #[] #[]] w fun e w' => (∃ q : Bool, e = .returned (.bool q) ∧ (q = true ↔ ∀ r ∈ rs, P r = true)) ∧ Below w.heap.size w w' := by
 have HF : Hid _ := hF
 clear hF
 go_enter Tryz.func61, Tryz.ntmps61
 go_wp2
 go_loopw [9] (fun i wx => ∃ (k : Nat), k ≤ rs.length ∧ i = .int .i64 k ∧ Hid (∀ j r, j < k → rs[j]? = some r → P r = true) ∧ Below w.heap.size w wx) (fun i _ => rs.length - (intOf i).toNat)
 case atStart => exact ⟨0, Nat.zero_le _, rfl, fun j r h => by omega, Below.refl _ _⟩
 case round =>
  obtain ⟨k, hk, rfl, Ha, hB⟩ := hrel
  by_cases hlt : k < rs.length
  ·
   obtain ⟨r, hr⟩ : ∃ r, rs[k]? = some r := ⟨rs[k], List.getElem?_eq_getElem hlt⟩
   have Hr : Hid _ := hr
   clear hr
   obtain ⟨c0, c1, c2, c3, c4, c5, c6⟩ := (hR.keep l1 hB).at Hr.out
   go_wp2_with fail
   refine (HF.out r (List.mem_of_getElem? Hr.out) _ (bl_alloc hB _)).mono ?_
   rintro e w1 ⟨rfl, hb⟩
   have hB1 := bl_trans (bl_alloc hB _) hb
   have Hb1 : Hid _ := hB1
   clear hB hb hB1
   cases hP : P r
   ·
    go_wp2
    go_ret
    exact ⟨⟨false, rfl, ⟨fun h => (by cases h), fun h => by have := h r (List.mem_of_getElem? Hr.out); rw [hP] at this; cases this⟩⟩, Hb1.out⟩
   ·
    go_wp2
    exact ⟨⟨k + 1, by omega, by go_num, (fun j q hj hq => by
     by_cases e : j = k
     ·
      subst e; have hh := Hr.out; rw [hh] at hq; cases hq; exact hP
     ·
      exact Ha.out j q (by omega) hq), Hb1.out⟩, by simp [intOf]; omega⟩
  ·
   go_wp2
   go_ret
   exact ⟨⟨true, rfl, ⟨fun _ r hr => by
    obtain ⟨j, hj⟩ := List.getElem?_of_mem hr
    have hjl : j < rs.length := (List.getElem?_eq_some_iff.1 hj).1
    exact Ha.out j r (by omega) hj, fun _ => rfl⟩⟩, hB⟩
theorem name_any (r : WantD) (w : World) :
  Calls Tryz.prog 64 #[.agg #[.string r.c, .int .i64 r.v, .string r.h, .int .i64 r.p, .int .i64 r.s, .int .i64 r.d, .int .i64 r.g]] w fun e w' => e = .returned (.string r.c) ∧ Below w.heap.size w w' := by
 go_enter Tryz.func64, Tryz.ntmps64
 go_wp2
 go_ret
 exact ⟨rfl, by repeat (first | exact Below.refl _ _ | refine bl_alloc ?_ _)⟩
def AscN (rs : List WantD) (n : Nat) : Prop := ∀ j q r, j + 1 < n → rs[j]? = some q → rs[j + 1]? = some r → Op.bytesLess q.c.toList r.c.toList = true
theorem AscN.step {rs : List WantD} {k : Nat} {q r : WantD} (h : AscN rs (k + 1)) (hq : rs[k]? = some q) (hr : rs[k + 1]? = some r) (hs : Op.bytesLess q.c.toList r.c.toList = true) : AscN rs (k + 1 + 1) := by
 intro j q' r' hj hq' hr'
 by_cases e : j = k
 ·
  subst e; rw [hq] at hq'; rw [hr] at hr'; cases hq'; cases hr'; exact hs
 ·
  exact h j q' r' (by omega) hq' hr'
theorem keepAsc {x w' : World} {b off m : Nat} {rs : List WantD} {r q : WantD} (hk : rs[m + 1]? = some r) (hq : rs[m]? = some q) (h1 : RowsAt x b off rs) (l1 : b < x.heap.size) (hb : Below x.heap.size x w') :
  Below x.heap.size x w' ∧ (w'.cell? ⟨b, off + (m + 1) * 7, none⟩ = some (.string r.c) ∧ w'.cell? ⟨b, off + (m + 1) * 7 + 1, none⟩ = some (.int .i64 r.v) ∧ w'.cell? ⟨b, off + (m + 1) * 7 + 2, none⟩ = some (.string r.h) ∧ w'.cell? ⟨b, off + (m + 1) * 7 + 3, none⟩ = some (.int .i64 r.p) ∧ w'.cell? ⟨b, off + (m + 1) * 7 + 4, none⟩ = some (.int .i64 r.s) ∧ w'.cell? ⟨b, off + (m + 1) * 7 + 5, none⟩ = some (.int .i64 r.d) ∧ w'.cell? ⟨b, off + (m + 1) * 7 + 6, none⟩ = some (.int .i64 r.g)) ∧ (w'.cell? ⟨b, off + m * 7, none⟩ = some (.string q.c) ∧ w'.cell? ⟨b, off + m * 7 + 1, none⟩ = some (.int .i64 q.v) ∧ w'.cell? ⟨b, off + m * 7 + 2, none⟩ = some (.string q.h) ∧ w'.cell? ⟨b, off + m * 7 + 3, none⟩ = some (.int .i64 q.p) ∧ w'.cell? ⟨b, off + m * 7 + 4, none⟩ = some (.int .i64 q.s) ∧ w'.cell? ⟨b, off + m * 7 + 5, none⟩ = some (.int .i64 q.d) ∧ w'.cell? ⟨b, off + m * 7 + 6, none⟩ = some (.int .i64 q.g)) := ⟨hb, (h1.keep l1 hb).at hk, (h1.keep l1 hb).at hq⟩
set_option maxRecDepth 4000 in
set_option maxHeartbeats 2000000 in
theorem ascends (b off cap : Nat) (rs : List WantD) (w : World) (hR : RowsAt w b off rs) (l1 : b < w.heap.size) (hl : rs.length ≤ 1048576) :
  Calls Tryz.prog 63 #[.slice (some ⟨b, off, none⟩) rs.length cap, .func (.func 64) #[] #[]] w fun e w' => (∃ q : Bool, e = .returned (.bool q) ∧ (q = true ↔ AscN rs rs.length)) ∧ Below w.heap.size w w' := by
 go_enter Tryz.func63, Tryz.ntmps63
 go_wp2
 go_loopw [5] (fun i wx => ∃ (m : Nat), m ≤ rs.length ∧ i = .int .i64 ((m : Int) + 1) ∧ Hid (AscN rs (m + 1)) ∧ Below w.heap.size w wx) (fun i _ => rs.length + 1 - (intOf i).toNat)
 case atStart => exact ⟨0, Nat.zero_le _, rfl, (fun j q r hj _ _ => by omega), Below.refl _ _⟩
 case round =>
  obtain ⟨m, hk, rfl, Ha, hB⟩ := hrel
  by_cases hlt : m + 1 < rs.length
  ·
   obtain ⟨r, hr⟩ : ∃ r, rs[m + 1]? = some r := ⟨rs[m + 1], List.getElem?_eq_getElem hlt⟩
   obtain ⟨q, hq⟩ : ∃ q, rs[m]? = some q := ⟨rs[m], List.getElem?_eq_getElem (by omega)⟩
   have Hr : Hid _ := hr
   have Hq : Hid _ := hq
   clear hr hq
   have g1 := hR.keep l1 hB
   have z1 : b < wr.heap.size := Nat.lt_of_lt_of_le l1 hB.size
   have i0 : (0 : Int) ≤ (m : Int) := by omega
   have i1 : (m : Int) + 1 < (rs.length : Int) := by omega
   have i2 : (m : Int) < (rs.length : Int) := by omega
   have i3 : (0 : Int) ≤ (m : Int) + 1 := by omega
   have iw : IntKind.i64.wrap (m : Int) = (m : Int) := by rw [IntKind.wrap_i64]; omega
   cases hasc : Op.bytesLess q.c.toList r.c.toList
   ·
    go_wp2_with fail
    go_region_held3 (fun w' => Below wr.heap.size wr w' ∧ (w'.cell? ⟨b, off + (m + 1) * 7, none⟩ = some (.string r.c) ∧ w'.cell? ⟨b, off + (m + 1) * 7 + 1, none⟩ = some (.int .i64 r.v) ∧ w'.cell? ⟨b, off + (m + 1) * 7 + 2, none⟩ = some (.string r.h) ∧ w'.cell? ⟨b, off + (m + 1) * 7 + 3, none⟩ = some (.int .i64 r.p) ∧ w'.cell? ⟨b, off + (m + 1) * 7 + 4, none⟩ = some (.int .i64 r.s) ∧ w'.cell? ⟨b, off + (m + 1) * 7 + 5, none⟩ = some (.int .i64 r.d) ∧ w'.cell? ⟨b, off + (m + 1) * 7 + 6, none⟩ = some (.int .i64 r.g)) ∧ (w'.cell? ⟨b, off + m * 7, none⟩ = some (.string q.c) ∧ w'.cell? ⟨b, off + m * 7 + 1, none⟩ = some (.int .i64 q.v) ∧ w'.cell? ⟨b, off + m * 7 + 2, none⟩ = some (.string q.h) ∧ w'.cell? ⟨b, off + m * 7 + 3, none⟩ = some (.int .i64 q.p) ∧ w'.cell? ⟨b, off + m * 7 + 4, none⟩ = some (.int .i64 q.s) ∧ w'.cell? ⟨b, off + m * 7 + 5, none⟩ = some (.int .i64 q.d) ∧ w'.cell? ⟨b, off + m * 7 + 6, none⟩ = some (.int .i64 q.g)))
     (first | exact keepAsc Hr.out Hq.out g1 z1 (bl_drew (Below.refl _ _)) | exact keepAsc Hr.out Hq.out g1 z1 (bl_trans (bl_drew (Below.refl _ _)) hx) | exact keepAsc Hr.out Hq.out g1 z1 (bl_trans (bl_trans (bl_drew (Below.refl _ _)) hx) hy))
     (first | (go_at_call 64; refine (name_any q _).mono ?_; rintro e w' ⟨rfl, hx⟩) | (go_at_call 64; refine (name_any r _).mono ?_; rintro e w'' ⟨rfl, hy⟩))
    have y1 := bl_trans (bl_trans (bl_drew (Below.refl _ wr)) hx) hy
    have Hb1 : Hid _ := bl_trans hB y1
    clear hx hy y1 hB g1
    go_wp2
    go_ret
    exact ⟨⟨false, rfl, ⟨fun h => (by cases h), fun h => by have := h m q r (by omega) Hq.out Hr.out; rw [hasc] at this; cases this⟩⟩, Hb1.out⟩
   ·
    go_wp2_with fail
    go_region_held3 (fun w' => Below wr.heap.size wr w' ∧ (w'.cell? ⟨b, off + (m + 1) * 7, none⟩ = some (.string r.c) ∧ w'.cell? ⟨b, off + (m + 1) * 7 + 1, none⟩ = some (.int .i64 r.v) ∧ w'.cell? ⟨b, off + (m + 1) * 7 + 2, none⟩ = some (.string r.h) ∧ w'.cell? ⟨b, off + (m + 1) * 7 + 3, none⟩ = some (.int .i64 r.p) ∧ w'.cell? ⟨b, off + (m + 1) * 7 + 4, none⟩ = some (.int .i64 r.s) ∧ w'.cell? ⟨b, off + (m + 1) * 7 + 5, none⟩ = some (.int .i64 r.d) ∧ w'.cell? ⟨b, off + (m + 1) * 7 + 6, none⟩ = some (.int .i64 r.g)) ∧ (w'.cell? ⟨b, off + m * 7, none⟩ = some (.string q.c) ∧ w'.cell? ⟨b, off + m * 7 + 1, none⟩ = some (.int .i64 q.v) ∧ w'.cell? ⟨b, off + m * 7 + 2, none⟩ = some (.string q.h) ∧ w'.cell? ⟨b, off + m * 7 + 3, none⟩ = some (.int .i64 q.p) ∧ w'.cell? ⟨b, off + m * 7 + 4, none⟩ = some (.int .i64 q.s) ∧ w'.cell? ⟨b, off + m * 7 + 5, none⟩ = some (.int .i64 q.d) ∧ w'.cell? ⟨b, off + m * 7 + 6, none⟩ = some (.int .i64 q.g)))
     (first | exact keepAsc Hr.out Hq.out g1 z1 (bl_drew (Below.refl _ _)) | exact keepAsc Hr.out Hq.out g1 z1 (bl_trans (bl_drew (Below.refl _ _)) hx) | exact keepAsc Hr.out Hq.out g1 z1 (bl_trans (bl_trans (bl_drew (Below.refl _ _)) hx) hy))
     (first | (go_at_call 64; refine (name_any q _).mono ?_; rintro e w' ⟨rfl, hx⟩) | (go_at_call 64; refine (name_any r _).mono ?_; rintro e w'' ⟨rfl, hy⟩))
    have y1 := bl_trans (bl_trans (bl_drew (Below.refl _ wr)) hx) hy
    have Hb1 : Hid _ := bl_trans hB y1
    clear hx hy y1 hB g1
    go_wp2
    exact ⟨⟨m + 1, by omega, by go_num, Ha.out.step Hq.out Hr.out hasc, Hb1.out⟩, by simp [intOf]; omega⟩
  ·
   go_wp2
   go_ret
   exact ⟨⟨true, rfl, ⟨fun _ j q r hj hq hr => Ha.out j q r (by omega) hq hr, fun _ => rfl⟩⟩, hB⟩
end Go.Proofs.YtgakmkhbnjofhaaGreatDoor.W
namespace Go.Proofs.YtgakmkhbnjofhaaGreatDoor.W
open Go.RowKit
set_option linter.unusedVariables false
theorem boxlt {w w1 : World} {o : Obj} (h : Below (w.alloc o).heap.size (w.alloc o) w1) : w.heap.size < w1.heap.size := by have := h.size; simp at this; omega
theorem fewWants_any (a : Option Addr) (n cap : Nat) (w : World) :
  Calls Tryz.prog 40 #[.slice a n cap] w fun e w' => e = .returned (.bool (decide (n ≤ 10))) ∧ w' = w := by
 by_cases h : n ≤ 10
 ·
  go_enter Tryz.func40, Tryz.ntmps40
  go_wp2
  go_ret
  exact ⟨ret_b (by simp; omega), rfl⟩
 ·
  go_enter Tryz.func40, Tryz.ntmps40
  go_wp2
  go_ret
  exact ⟨ret_b (by simp; omega), rfl⟩
theorem each_iff (ws : List WantD) : Each ws ws.length ↔ ∀ r ∈ ws, r.ok = true := by
 constructor
 ·
  intro h r hr
  obtain ⟨j, hj⟩ := List.getElem?_of_mem hr
  exact h j r (List.getElem?_eq_some_iff.1 hj).1 hj
 ·
  intro h j r _ hr
  exact h r (List.mem_of_getElem? hr)
theorem eachWant (b off cap : Nat) (ws : List WantD) (w : World) (hR : RowsAt w b off ws) (l1 : b < w.heap.size) (hfit : ∀ r ∈ ws, r.fits) (hl : ws.length ≤ 10) :
  Calls Tryz.prog 41 #[.slice (some ⟨b, off, none⟩) ws.length cap] w fun e w' => (∃ q : Bool, e = .returned (.bool q) ∧ (q = true ↔ Each ws ws.length)) ∧ Below w.heap.size w w' := by
 go_enter Tryz.func41, Tryz.ntmps41
 go_wp2_with fail
 refine (allOk (fun r => r.ok) b off cap ws w hR l1 (by omega) (fun r hr x _ => implWant_any r.c r.h r.v r.p r.s r.d r.g x (hfit r hr).1 (hfit r hr).2)).mono ?_
 rintro e w1 ⟨⟨q, rfl, h⟩, hb⟩
 have H : Hid _ := h
 clear h
 go_wp2
 go_ret
 exact ⟨⟨q, rfl, by rw [each_iff]; exact H.out⟩, hb⟩
theorem ascendWants (b off cap : Nat) (ws : List WantD) (w : World) (hR : RowsAt w b off ws) (l1 : b < w.heap.size) (hl : ws.length ≤ 10) :
  Calls Tryz.prog 42 #[.slice (some ⟨b, off, none⟩) ws.length cap] w fun e w' => (∃ q : Bool, e = .returned (.bool q) ∧ (q = true ↔ Asc ws ws.length)) ∧ Below w.heap.size w w' := by
 go_enter Tryz.func42, Tryz.ntmps42
 go_wp2_with fail
 refine (ascends b off cap ws w hR l1 (by omega)).mono ?_
 rintro e w1 ⟨⟨q, rfl, h⟩, hb⟩
 have H : Hid _ := h
 clear h
 go_wp2
 go_ret
 exact ⟨⟨q, rfl, H.out⟩, hb⟩
theorem build_all (w : World) : Sem.run Tryz.prog (Instr.buildSlice 76 4 #[(0, .func (.func 40) #[] #[]), (1, .func (.func 41) #[] #[]), (2, .func (.func 42) #[] #[]), (3, .func (.func 43) #[] #[])]) w = .ok (.slice (some ⟨w.heap.size, 0, none⟩) 4 4) (w.alloc (.cells #[.func (.func 40) #[] #[], .func (.func 41) #[] #[], .func (.func 42) #[] #[], .func (.func 43) #[] #[]] 36)) := by kernel_rfl
end Go.Proofs.YtgakmkhbnjofhaaGreatDoor.W
