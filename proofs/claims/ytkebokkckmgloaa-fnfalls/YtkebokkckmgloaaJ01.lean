import Derived.Test.YtkebokkckmgloaaRows
import Derived.WalkKit
import Derived.WalkSpells
import Derived.WalkLawsBesides
import Derived.Below
import Derived.Outline
import Derived.Deep.MidRow
import Derived.Laws.Bits64
import Derived.Deep.QuietTactic
import Derived.BigQuiet
import Derived.Laws.Pointers
/- The contracts of what the exact laws are made of: sizes, copies of a want and of a run. -/
namespace Go.Proofs.Ytkebokkckmgloaa
open Go.RowKit

/-- Old cells and old marks, behind a call that only lays new blocks. -/
theorem bcell {W w1 : World} (hb : Below W.heap.size W w1) : (∀ b o, b < W.heap.size → w1.cell? ⟨b, o, none⟩ = W.cell? ⟨b, o, none⟩) ∧ (∀ b o, b < W.heap.size → w1.frozen? ⟨b, o, none⟩ = W.frozen? ⟨b, o, none⟩) :=
  ⟨fun b o h => hb.cell (p := ⟨b, o, none⟩) h, fun b o h => hb.frozen (p := ⟨b, o, none⟩) h⟩

theorem bl_alloc {w w' : World} (h : Below w.heap.size w w') (o : Obj) : Below w.heap.size w (w'.alloc o) := h.alloc h.size o
theorem bl_drew {w w' : World} (h : Below w.heap.size w w') : Below w.heap.size w w'.drew := h.drew
theorem bl_trans {w w1 w2 : World} (h : Below w.heap.size w w1) (k : Below w1.heap.size w1 w2) : Below w.heap.size w w2 := h.trans (k.mono h.size)
theorem bl_set {w w' : World} (h : Below w.heap.size w w') {p : Addr} (hp : w.heap.size ≤ p.block) (u : Value) : Below w.heap.size w (w'.setCell p u) := h.setCell hp u

/-- The box of a call's own parameter, behind later blocks. -/
theorem box_keep {w w1 : World} {o : Obj} (h : Below (w.alloc o).heap.size (w.alloc o) w1) : ∀ k, w1.cell? ⟨w.heap.size, k, none⟩ = (w.alloc o).cell? ⟨w.heap.size, k, none⟩ :=
  fun k => h.cell (p := ⟨w.heap.size, k, none⟩) (by simp)

theorem szWant_yes (c h : ByteArray) (v p s d g left : Int) (h0 : 0 ≤ left) (h1 : left ≤ 1048576) (k : (c.size : Int) + h.size ≤ left) (w : World) :
    Calls Try.prog 44 #[.agg #[.string c, .int .i64 v, .string h, .int .i64 p, .int .i64 s, .int .i64 d, .int .i64 g], .int .i64 left] w fun e w' => e = .returned (.int .i64 (left - c.size - h.size)) ∧ Below w.heap.size w w' := by
  go_enter Try.func44, Try.ntmps44
  go_wp2
  go_ret
  exact ⟨rfl, (Below.refl _ _).alloc (Nat.le_refl _) _⟩

theorem szWant_no (c h : ByteArray) (v p s d g left : Int) (h0 : 0 ≤ left) (h1 : left ≤ 1048576) (hc : c.size ≤ maxLen) (hh : h.size ≤ maxLen) (k : ¬ (c.size : Int) + h.size ≤ left) (w : World) :
    Calls Try.prog 44 #[.agg #[.string c, .int .i64 v, .string h, .int .i64 p, .int .i64 s, .int .i64 d, .int .i64 g], .int .i64 left] w fun e w' => e = .returned (.int .i64 (-1)) ∧ Below w.heap.size w w' := by
  unfold maxLen at hc hh
  by_cases k1 : (c.size : Int) ≤ left
  · go_enter Try.func44, Try.ntmps44
    go_wp2
    go_ret
    exact ⟨rfl, (Below.refl _ _).alloc (Nat.le_refl _) _⟩
  · go_enter Try.func44, Try.ntmps44
    go_wp2
    go_ret
    exact ⟨rfl, (Below.refl _ _).alloc (Nat.le_refl _) _⟩

theorem toWant_any (c h : ByteArray) (v p s d g : Int) (w : World) :
    Calls Try.prog 45 #[.agg #[.string c, .int .i64 v, .string h, .int .i64 p, .int .i64 s, .int .i64 d, .int .i64 g]] w fun e w' =>
      e = .returned (.agg #[.string c, .int .i64 v, .string h, .int .i64 p, .int .i64 s, .int .i64 d, .int .i64 g]) ∧ w' = ((w.alloc (.cells #[.string c, .int .i64 v, .string h, .int .i64 p, .int .i64 s, .int .i64 d, .int .i64 g] 51)).alloc (.cells #[.string c, .int .i64 v, .string h, .int .i64 p, .int .i64 s, .int .i64 d, .int .i64 g] 36)).alloc (.cells #[.string c, .int .i64 v, .string h, .int .i64 p, .int .i64 s, .int .i64 d, .int .i64 g] 36) := by
  go_enter Try.func45, Try.ntmps45
  go_wp2
  exact bodyPost_ret (v := .agg #[.string c, .int .i64 v, .string h, .int .i64 p, .int .i64 s, .int .i64 d, .int .i64 g]) (by simp [results, Try.results45, go_sem]) rfl ⟨rfl, rfl⟩

theorem toRun_any (c h : ByteArray) (v p s d g a b i u : Int) (w : World) :
    Calls Try.prog 34 #[.agg #[.string c, .int .i64 v, .string h, .int .i64 p, .int .i64 s, .int .i64 d, .int .i64 g, .int .i64 a, .int .i64 b, .int .i64 i, .int .i64 u]] w fun e w' =>
      e = .returned (.agg #[.string c, .int .i64 v, .string h, .int .i64 p, .int .i64 s, .int .i64 d, .int .i64 g, .int .i64 a, .int .i64 b, .int .i64 i, .int .i64 u]) ∧ Below w.heap.size w w' := by
  go_enter Try.func34, Try.ntmps34
  go_wp2_with (go_at_call 45; refine (toWant_any c h v p s d g _).mono ?_; rintro e w' ⟨rfl, rfl⟩)
  exact bodyPost_ret (v := .agg #[.string c, .int .i64 v, .string h, .int .i64 p, .int .i64 s, .int .i64 d, .int .i64 g, .int .i64 a, .int .i64 b, .int .i64 i, .int .i64 u]) (by simp [results, Try.results34, go_sem]) rfl ⟨rfl, bl_alloc (bl_alloc (bl_alloc (bl_alloc (bl_alloc (bl_alloc (Below.refl _ _) _) _) _) _) _) _⟩

theorem szRun_yes (c h : ByteArray) (v p s d g a b i u left : Int) (h0 : 0 ≤ left) (h1 : left ≤ 1048576) (k : (c.size : Int) + h.size ≤ left) (w : World) :
    Calls Try.prog 33 #[.agg #[.string c, .int .i64 v, .string h, .int .i64 p, .int .i64 s, .int .i64 d, .int .i64 g, .int .i64 a, .int .i64 b, .int .i64 i, .int .i64 u], .int .i64 left] w fun e w' => e = .returned (.int .i64 (left - c.size - h.size)) ∧ Below w.heap.size w w' := by
  go_enter Try.func33, Try.ntmps33
  go_wp2_with (go_at_call 44; refine (szWant_yes c h v p s d g left h0 h1 k _).mono ?_; rintro e w' ⟨rfl, hb⟩)
  go_ret
  exact ⟨rfl, bl_trans (bl_alloc (Below.refl _ _) _) hb⟩

theorem szRun_no (c h : ByteArray) (v p s d g a b i u left : Int) (h0 : 0 ≤ left) (h1 : left ≤ 1048576) (hc : c.size ≤ maxLen) (hh : h.size ≤ maxLen) (k : ¬ (c.size : Int) + h.size ≤ left) (w : World) :
    Calls Try.prog 33 #[.agg #[.string c, .int .i64 v, .string h, .int .i64 p, .int .i64 s, .int .i64 d, .int .i64 g, .int .i64 a, .int .i64 b, .int .i64 i, .int .i64 u], .int .i64 left] w fun e w' => e = .returned (.int .i64 (-1)) ∧ Below w.heap.size w w' := by
  go_enter Try.func33, Try.ntmps33
  go_wp2_with (go_at_call 44; refine (szWant_no c h v p s d g left h0 h1 hc hh k _).mono ?_; rintro e w' ⟨rfl, hb⟩)
  go_ret
  exact ⟨rfl, bl_trans (bl_alloc (Below.refl _ _) _) hb⟩

end Go.Proofs.Ytkebokkckmgloaa
/- Nothing has turned but for one block. -/
namespace Go.Proofs.Ytkebokkckmgloaa
open Go.RowKit
set_option linter.unusedVariables false

/-- Nothing that was there has turned but for one block. -/
structure Ex (kr : Nat) (w w' : World) : Prop where
  os : w'.os = w.os
  tape : w'.tape = w.tape
  output : w'.output = w.output
  size : w.heap.size ≤ w'.heap.size
  block : ∀ k, k < w.heap.size → k ≠ kr → w'.heap[k]? = w.heap[k]?
theorem Ex.refl (kr : Nat) (w : World) : Ex kr w w := ⟨rfl, rfl, rfl, Nat.le_refl _, fun _ _ _ => rfl⟩
theorem Ex.trans {kr : Nat} {a b c : World} (h : Ex kr a b) (k : Ex kr b c) : Ex kr a c :=
  ⟨k.os.trans h.os, k.tape.trans h.tape, k.output.trans h.output, Nat.le_trans h.size k.size, fun i hi hne => (k.block i (Nat.lt_of_lt_of_le hi h.size) hne).trans (h.block i hi hne)⟩
theorem Ex.of_below {kr : Nat} {a b : World} (h : Below a.heap.size a b) : Ex kr a b := ⟨h.os, h.tape, h.output, h.size, fun i hi _ => h.block i hi⟩
theorem Ex.below {kr B : Nat} {a b : World} (h : Ex kr a b) (hB : B ≤ kr) (hz : B ≤ a.heap.size) : Below B a b := ⟨h.os, h.tape, h.output, h.size, fun i hi => h.block i (by omega) (by omega)⟩
theorem Ex.set {kr : Nat} {a b : World} (h : Ex kr a b) (o : Nat) (u : Value) : Ex kr a (b.setCell ⟨kr, o, none⟩ u) :=
  h.trans ⟨rfl, rfl, rfl, by simp [World.setCell], fun i hi hne => Below.heap_setCell _ _ _ _ hne⟩
theorem Ex.drewN {kr : Nat} {a b : World} (h : Ex kr a b) (n : Nat) : Ex kr a (b.drewN n) := ⟨h.os, h.tape, h.output, h.size, h.block⟩
theorem Ex.cell {kr : Nat} {a b : World} (h : Ex kr a b) {p : Addr} (hp : p.block < a.heap.size) (hne : p.block ≠ kr) : b.cell? p = a.cell? p := World.cell?_of_block (w := a) (h.block p.block hp hne)
theorem Ex.frozen {kr : Nat} {a b : World} (h : Ex kr a b) {p : Addr} (hp : p.block < a.heap.size) (hne : p.block ≠ kr) : b.frozen? p = a.frozen? p := World.frozen?_of_block (w := a) (h.block p.block hp hne)

theorem Ex.cells {kr : Nat} : ∀ (vs : List Value) (o : Nat) {a b : World}, Ex kr a b → Ex kr a (b.setCells kr o vs)
  | [], _, _, _, h => h
  | v :: r, o, _, _, h => Ex.cells r (o + 1) (h.set o v)
theorem Ex.mono {kr : Nat} {a b c : World} (h : Below a.heap.size a b) (k : Ex kr b c) (hk : a.heap.size ≤ kr) : Below a.heap.size a c := h.trans (k.below hk h.size)
theorem there_ex {kr : Nat} {x y : World} {k o n : Nat} (h : x.there k o n) (hk : k < x.heap.size) (hE : Ex kr x y) (hne : k ≠ kr) : y.there k o n :=
  fun j hj => ⟨by rw [hE.cell (p := ⟨k, o + j, none⟩) hk hne]; exact (h j hj).1, by rw [hE.frozen (p := ⟨k, o + j, none⟩) hk hne]; exact (h j hj).2⟩
theorem there_keep2 {x y : World} {k o n : Nat} (h : x.there k o n) (hk : k < x.heap.size) (hb : Below x.heap.size x y) : y.there k o n :=
  fun j hj => ⟨by rw [hb.cell (p := ⟨k, o + j, none⟩) hk]; exact (h j hj).1, by rw [hb.frozen (p := ⟨k, o + j, none⟩) hk]; exact (h j hj).2⟩
theorem range_keep {w w' : World} {b o : Nat} {vs : List Value} (h : w.rangeAt b o vs) (hb : b < w.heap.size) (hB : Below w.heap.size w w') : w'.rangeAt b o vs :=
  fun j v hj => (hB.cell (p := ⟨b, o + j, none⟩) hb).trans (h j v hj)
theorem range_append {w : World} {b o : Nat} {xs ys : List Value} (h1 : w.rangeAt b o xs) (h2 : w.rangeAt b (o + xs.length) ys) : w.rangeAt b o (xs ++ ys) := by
  intro j v hj
  rcases Nat.lt_or_ge j xs.length with hl | hl
  · rw [List.getElem?_append_left hl] at hj; exact h1 j v hj
  · rw [List.getElem?_append_right hl] at hj
    have := h2 (j - xs.length) v hj
    rwa [show o + xs.length + (j - xs.length) = o + j from by omega] at this
end Go.Proofs.Ytkebokkckmgloaa
/- The reader of a code: a number is picked. -/
namespace Go.Proofs.Ytkebokkckmgloaa
open Go.RowKit
set_option linter.unusedVariables false

/-- The bytes zs, n of them, that a slice shows. -/
def Code (w : World) (kr : Nat) (a : Option Addr) (n : Nat) (zs : List Int) : Prop :=
  n ≤ 2000 ∧ (n = 0 ∨ ∃ b off, a = some ⟨b, off, none⟩ ∧ b ≠ kr ∧ b < w.heap.size ∧ ∀ i, i < n → w.cell? ⟨b, off + i, none⟩ = some (.int .u8 (zs.getD i 0)) ∧ 0 ≤ zs.getD i 0 ∧ zs.getD i 0 ≤ 255)
theorem Code.keep {w w' : World} {kr : Nat} {a : Option Addr} {n : Nat} {zs : List Int} (h : Code w kr a n zs) (he : Ex kr w w') : Code w' kr a n zs := by
  obtain ⟨hn, h⟩ := h
  refine ⟨hn, h.imp id ?_⟩
  rintro ⟨b, off, ha, hne, hb, hc⟩
  exact ⟨b, off, ha, hne, Nat.lt_of_lt_of_le hb he.size, fun i hi => ⟨(he.cell (p := ⟨b, off + i, none⟩) hb hne).trans (hc i hi).1, (hc i hi).2⟩⟩
/-- A reader at place p of the code. -/
structure Rd (w : World) (kr : Nat) (a : Option Addr) (n cap : Nat) (zs : List Int) (p : Int) : Prop where
  sl : w.cell? ⟨kr, 0, none⟩ = some (.slice a n cap)
  at_ : w.cell? ⟨kr, 1, none⟩ = some (.int .i64 p)
  open_ : w.frozen? ⟨kr, 1, none⟩ = false
  lt : kr < w.heap.size
  code : Code w kr a n zs
  p0 : 0 ≤ p
  p1 : p ≤ 1000000

theorem xor_i64 (a b : Nat) (ha : a < 4611686018427387904) (hb : b < 4611686018427387904) : bits .xor .i64 (a : Int) (b : Int) = ((a ^^^ b : Nat) : Int) := by
  have hx : a ^^^ b < 2 ^ 62 := Nat.xor_lt_two_pow (by omega) (by omega)
  have h1 : (BitVec.ofInt 64 (a : Int)).toNat = a := by
    rw [BitVec.ofInt_natCast, BitVec.toNat_ofNat]; exact Nat.mod_eq_of_lt (by omega)
  have h2 : (BitVec.ofInt 64 (b : Int)).toNat = b := by
    rw [BitVec.ofInt_natCast, BitVec.toNat_ofNat]; exact Nat.mod_eq_of_lt (by omega)
  show IntKind.i64.wrap ((BitVec.ofInt 64 (a : Int) ^^^ BitVec.ofInt 64 (b : Int)).toNat : Int) = _
  rw [BitVec.toNat_xor, h1, h2, IntKind.wrap_i64]
  omega
/-- A mixture is no negative number. -/
theorem xor_mix (x : Int) (h0 : 0 ≤ x) (h1 : x < 4611686018427387904) : ∃ y : Int, bits .xor .i64 x (x / 64) = y ∧ 0 ≤ y ∧ y < 4611686018427387904 := by
  obtain ⟨m, rfl⟩ := Int.eq_ofNat_of_zero_le h0
  have hx : m ^^^ (m / 64) < 2 ^ 62 := Nat.xor_lt_two_pow (by omega) (by omega)
  refine ⟨((m ^^^ (m / 64) : Nat) : Int), ?_, by omega, by omega⟩
  have := xor_i64 m (m / 64) (by omega) (by omega)
  simpa using this

set_option maxHeartbeats 1000000 in
theorem pick_any (kr : Nat) (a : Option Addr) (n cap : Nat) (zs : List Int) (p k : Int) (w : World) (h : Rd w kr a n cap zs p) (hp : p < 1000000) (k0 : 1 ≤ k) (k1 : k ≤ 1000000) :
    Calls Try.prog 59 #[.pointer (some ⟨kr, 0, none⟩), .int .i64 k] w fun e w' => ∃ (m : Int) (nq : Nat), e = .returned (.int .i64 m) ∧ 0 ≤ m ∧ m < k ∧ w' = (w.setCell ⟨kr, 1, none⟩ (.int .i64 (p + 1))).drewN nq := by
  obtain ⟨c0, c1, c2, hlt, ⟨hn, hc⟩, p0, p1⟩ := h
  rcases Nat.eq_zero_or_pos n with hz | hz
  · subst hz
    clear hc
    go_enter Try.func59, Try.ntmps59
    go_wp2
    go_ret
    exact ⟨0, 0, rfl, by omega, by omega, rfl⟩
  · obtain ⟨b, off, rfl, hne, hb, hcell⟩ := hc.resolve_left (by omega)
    have hn0 : ((n : Int) == 0) = false := by simp; omega
    by_cases hin : p < (n : Int)
    · obtain ⟨cb, z0, z1⟩ := hcell p.toNat (by omega)
      generalize zs.getD p.toNat 0 = z at cb z0 z1
      clear hcell hc
      have hne' : kr ≠ b := fun e => hne e.symm
      go_enter Try.func59, Try.ntmps59
      go_wp2
      go_ret
      exact ⟨z % k, 0, rfl, Int.emod_nonneg _ (by omega), Int.emod_lt_of_pos _ (by omega), rfl⟩
    · have r0 : 0 ≤ p % (n : Int) := Int.emod_nonneg _ (by omega)
      have r1 : p % (n : Int) < (n : Int) := Int.emod_lt_of_pos _ (by omega)
      have s0 : 0 ≤ (p * 7 + 3) % (n : Int) := Int.emod_nonneg _ (by omega)
      have s1 : (p * 7 + 3) % (n : Int) < (n : Int) := Int.emod_lt_of_pos _ (by omega)
      have q0 : 0 ≤ p / (n : Int) := Int.ediv_nonneg p0 (by omega)
      have q1 : p / (n : Int) ≤ 1000000 := Int.le_trans (Int.ediv_le_self _ p0) p1
      obtain ⟨cy, y0, y1⟩ := hcell (p % (n : Int)).toNat (by omega)
      obtain ⟨cz, z0, z1⟩ := hcell ((p * 7 + 3) % (n : Int)).toNat (by omega)
      generalize zs.getD (p % (n : Int)).toNat 0 = y at cy y0 y1
      generalize zs.getD ((p * 7 + 3) % (n : Int)).toNat 0 = z at cz z0 z1
      clear hcell hc
      have hne' : kr ≠ b := fun e => hne e.symm
      have hnp : (0 : Int) < (n : Int) := by omega
      obtain ⟨m, hm, m0, m1⟩ := xor_mix (y * 131 + z * 1117 + p * 29 + p / (n : Int) * 53) (by omega) (by omega)
      go_enter Try.func59, Try.ntmps59
      go_wp2_with fail
      go_quiet (fail)
      go_wp2
      go_ret
      exact ⟨m % k, nq, rfl, Int.emod_nonneg _ (by omega), Int.emod_lt_of_pos _ (by omega), rfl⟩

theorem Rd.step {w : World} {kr : Nat} {a : Option Addr} {n cap : Nat} {zs : List Int} {p : Int} (h : Rd w kr a n cap zs p) (hp : p < 1000000) (nq : Nat) : Rd ((w.setCell ⟨kr, 1, none⟩ (.int .i64 (p + 1))).drewN nq) kr a n cap zs (p + 1) := by
  have he : Ex kr w ((w.setCell ⟨kr, 1, none⟩ (.int .i64 (p + 1))).drewN nq) := ((Ex.refl kr w).set 1 _).drewN nq
  have c0 := h.sl
  have c1 := h.at_
  have c2 := h.open_
  have := h.p0
  exact ⟨by go_simp, by go_simp, by go_simp, Nat.lt_of_lt_of_le h.lt he.size, h.code.keep he, by omega, by omega⟩
theorem pick_rd (kr : Nat) (a : Option Addr) (n cap : Nat) (zs : List Int) (p k : Int) (w : World) (h : Rd w kr a n cap zs p) (hp : p < 1000000) (k0 : 1 ≤ k) (k1 : k ≤ 1000000) :
    Calls Try.prog 59 #[.pointer (some ⟨kr, 0, none⟩), .int .i64 k] w fun e w' => ∃ m : Int, e = .returned (.int .i64 m) ∧ 0 ≤ m ∧ m < k ∧ Rd w' kr a n cap zs (p + 1) ∧ Ex kr w w' := by
  refine (pick_any kr a n cap zs p k w h hp k0 k1).mono ?_
  rintro e w' ⟨m, nq, rfl, m0, m1, rfl⟩
  exact ⟨m, rfl, m0, m1, h.step hp nq, ((Ex.refl kr w).set 1 _).drewN nq⟩
end Go.Proofs.Ytkebokkckmgloaa
/- The reader of a code is opened; a text is made n times. -/
namespace Go.Proofs.Ytkebokkckmgloaa
open Go.RowKit
set_option linter.unusedVariables false

/-- The bytes that came in. -/
def CodeIn (w : World) (a : Option Addr) (n : Nat) (zs : List Int) : Prop :=
  n = 0 ∨ ∃ b off, a = some ⟨b, off, none⟩ ∧ b < w.heap.size ∧ ∀ i, i < n → w.cell? ⟨b, off + i, none⟩ = some (.int .u8 (zs.getD i 0)) ∧ 0 ≤ zs.getD i 0 ∧ zs.getD i 0 ≤ 255

theorem rd_new {w : World} {a : Option Addr} {n cap m : Nat} {zs : List Int} (h : CodeIn w a n zs) (hm : m ≤ n) (hm2 : m ≤ 2000) :
    Rd (w.alloc (.cells #[.slice a m cap, .int .i64 0] 146)) w.heap.size a m cap zs 0 := by
  refine ⟨by simp [go_sem], by simp [go_sem], by simp [go_sem], by simp, ⟨hm2, ?_⟩, by omega, by omega⟩
  rcases h with rfl | ⟨b, off, ha, hb, hc⟩
  · exact Or.inl (by omega)
  · refine Or.inr ⟨b, off, ha, by omega, by simp; omega, fun i hi => ?_⟩
    obtain ⟨h1, h2⟩ := hc i (by omega)
    exact ⟨by rw [World.cell?_alloc_past _ _ _ (by exact hb)]; exact h1, h2⟩

theorem open_any (a : Option Addr) (n cap : Nat) (zs : List Int) (w : World) (h : CodeIn w a n zs) (hn : n ≤ 1048576) (hcap : n ≤ cap) :
    Calls Try.prog 57 #[.slice a n cap] w fun e w' => e = .returned (.pointer (some ⟨w.heap.size, 0, none⟩)) ∧ ∃ m, Rd w' w.heap.size a m cap zs 0 ∧ Below w.heap.size w w' := by
  by_cases h2 : 2000 < n
  · rcases h with hz | ⟨b, off, rfl, hb, hc⟩
    · omega
    have hr := rd_new (w := w) (cap := cap) (m := 2000) (Or.inr ⟨b, off, rfl, hb, hc⟩) (by omega) (by omega)
    have i1 : (2000 : Int) ≤ (cap : Int) := by omega
    have Hr : Hid _ := hr
    clear hr hc
    go_enter Try.func57, Try.ntmps57
    go_wp2
    go_ret
    exact ⟨rfl, 2000, Hr.out, bl_alloc (Below.refl _ _) _⟩
  · have hr := rd_new (w := w) (cap := cap) (m := n) h (by omega) (by omega)
    have Hr : Hid _ := hr
    clear hr h
    go_enter Try.func57, Try.ntmps57
    go_wp2
    go_ret
    exact ⟨rfl, n, Hr.out, bl_alloc (Below.refl _ _) _⟩
end Go.Proofs.Ytkebokkckmgloaa
/- A text is made n times: twenty and twenty-one. -/
namespace Go.Proofs.Ytkebokkckmgloaa
open Go.RowKit
set_option linter.unusedVariables false

set_option maxHeartbeats 1000000 in
theorem many20 (w : World) : Calls Try.prog 175 #[.string ⟨#[110]⟩, .int .i64 20] w fun e w' => ∃ x : ByteArray, e = .returned (.string x) ∧ x.size ≤ maxLen ∧ w' = w := by
  go_enter Try.func175, Try.ntmps175
  go_wp2
  refine wp_loop_rounds 6 ?_
  rw [rounds_succ]
  go_wp2
  rw [rounds_succ]
  go_wp2
  rw [rounds_succ]
  go_wp2
  rw [rounds_succ]
  go_wp2
  rw [rounds_succ]
  go_wp2
  rw [rounds_succ]
  go_wp2
  go_ret
  exact ⟨_, rfl, by unfold maxLen; decide, rfl⟩

set_option maxHeartbeats 1000000 in
theorem many21 (w : World) : Calls Try.prog 175 #[.string ⟨#[110]⟩, .int .i64 21] w fun e w' => ∃ x : ByteArray, e = .returned (.string x) ∧ x.size ≤ maxLen ∧ w' = w := by
  go_enter Try.func175, Try.ntmps175
  go_wp2
  refine wp_loop_rounds 6 ?_
  rw [rounds_succ]
  go_wp2
  rw [rounds_succ]
  go_wp2
  rw [rounds_succ]
  go_wp2
  rw [rounds_succ]
  go_wp2
  rw [rounds_succ]
  go_wp2
  rw [rounds_succ]
  go_wp2
  go_ret
  exact ⟨_, rfl, by unfold maxLen; decide, rfl⟩
end Go.Proofs.Ytkebokkckmgloaa
/- A region by an invariant. -/
namespace Go.Proofs.Ytkebokkckmgloaa
open Go.RowKit
section
variable {P : Program} {ops : Array Oper} {Q : Exit → Act → World → Prop} {md : Region.Mode}

/-- How many have not come up. -/
def openOf (listed : Array Bool) : Nat := listed.toList.countP (fun b => !b)

theorem openOf_set {listed : Array Bool} {i : Nat} (h : listed.getD i true = false) : openOf (listed.setIfInBounds i true) + 1 = openOf listed := by
  obtain ⟨l⟩ := listed
  simp only [openOf, List.setIfInBounds_toArray]
  have : l[i]? = some false := by
    simp only [Array.getD] at h
    split at h
    · rename_i hlt; simp at h hlt; rw [List.getElem?_eq_getElem hlt, h]
    · cases h
  clear h
  induction l generalizing i with
  | nil => simp at this
  | cons x l ih =>
    cases i with
    | zero => simp at this; subst this; simp
    | succ i =>
      simp at this
      have := ih this
      simp only [List.set_cons_succ, List.countP_cons]
      omega

theorem ready_open {listed : Array Bool} {i : Nat} (h : i ∈ Region.ready md ops listed) : listed.getD i true = false := by
  simp only [Region.ready, List.mem_filter, Bool.and_eq_true, Bool.not_eq_true'] at h
  exact h.2.1

theorem openOf_pos {listed : Array Bool} {i : Nat} (h : listed.getD i true = false) : 0 < openOf listed := by
  have := openOf_set h; omega

/-- A region by an invariant. -/
theorem wpAny_inv (I : Array Bool → Act → World → Prop)
    (step : ∀ listed a w i, I listed a w → i ∈ Region.ready md ops listed → wpOp P ops Q i (I (listed.setIfInBounds i true)) a w)
    (done : ∀ listed a w, I listed a w → Region.ready md ops listed = [] → Q .normal a w) :
    ∀ fuel listed a w, openOf listed ≤ fuel → I listed a w → wpAny P md ops Q fuel listed a w := by
  intro fuel
  induction fuel with
  | zero =>
    intro listed a w hf hI
    have hr : Region.ready md ops listed = [] := by
      cases h : Region.ready md ops listed with
      | nil => rfl
      | cons i rs =>
        have hi : i ∈ Region.ready md ops listed := by rw [h]; exact List.mem_cons_self ..
        have := openOf_pos (ready_open hi)
        omega
    exact ⟨hr, done _ _ _ hI hr⟩
  | succ fuel ih =>
    intro listed a w hf hI
    refine ⟨done _ _ _ hI, fun i hi => wpOp_mono (fun a' w' h => ih _ a' w' ?_ h) (step _ _ _ i hI hi)⟩
    have := openOf_set (ready_open hi)
    omega

def depsOk (ops : Array Oper) : Bool := (List.range ops.size).all fun i => match ops[i]? with | some o => o.after.toList.all (fun e => decide (e.on < i)) | none => true
theorem all_listed {listed : Array Bool} (hd : depsOk ops = true) (hr : Region.ready md ops listed = []) (hz : listed.size = ops.size) : ∀ i, i < ops.size → listed.getD i false = true := by
  intro i
  induction i using Nat.strongRecOn with
  | ind i ih =>
    intro hi
    have hl : listed.getD i false = listed[i]'(by omega) := by simp [Array.getD, show i < listed.size from by omega]
    have hl' : listed.getD i true = listed[i]'(by omega) := by simp [Array.getD, show i < listed.size from by omega]
    cases hb : listed[i]'(by omega) with
    | true => rw [hl, hb]
    | false =>
      exfalso
      have hmem : i ∈ Region.ready md ops listed := by
        simp only [Region.ready, List.mem_filter, List.mem_range, hi, true_and, hl', hb, Bool.not_false, Bool.true_and]
        have ho : ops[i]? = some ops[i] := Array.getElem?_eq_getElem hi
        rw [ho]
        simp only [Option.map_some, Option.getD_some]
        have h1 := List.all_eq_true.1 hd i (List.mem_range.2 hi)
        rw [ho] at h1
        simp only at h1
        rw [← Array.all_toList]
        refine List.all_eq_true.2 fun e he => ?_
        have h2 := of_decide_eq_true (List.all_eq_true.1 h1 e he)
        rw [ih e.on h2 (by omega)]
        simp
      rw [hr] at hmem
      cases hmem
theorem dep_listed {listed : Array Bool} {i j : Nat} {o : Oper} (hi : i ∈ Region.ready md ops listed) (ho : ops[i]? = some o) (he : o.after.toList.any (fun e => Region.binds md e && e.on == j) = true) : listed.getD j false = true := by
  have h := (List.mem_filter.1 hi).2
  rw [ho] at h
  simp only [Option.map_some, Option.getD_some, Bool.and_eq_true] at h
  obtain ⟨e, hm, hb⟩ := List.any_eq_true.1 he
  simp only [Bool.and_eq_true, beq_iff_eq] at hb
  have h2 := h.2
  rw [← Array.all_toList] at h2
  have h3 := List.all_eq_true.1 h2 e hm
  rw [hb.1, hb.2] at h3
  simpa using h3
end
end Go.Proofs.Ytkebokkckmgloaa
