/- The reader of a code: a number is picked. -/
import Derived.Test.YtmfcnckhgeggkaaEx
import Derived.Laws.Bits64
import Derived.Deep.QuietTactic
import Derived.BigQuiet
import Derived.Laws.Pointers
namespace Go.Proofs.Ytmfcnckhgeggkaa
open Go.RowKit
set_option linter.unusedVariables false

/-- The bytes zs, n of them, that a slice shows. -/
def Code (w : World) (kr : Nat) (a : Option Addr) (n : Nat) (zs : List Int) : Prop :=
  n ≤ 2000 ∧ (n = 0 ∨ ∃ b off, a = some ⟨b, off, none⟩ ∧ b ≠ kr ∧ b < w.heap.size ∧ ∀ i, i < n → w.cell? ⟨b, off + i, none⟩ = some (.int .u8 (zs.getD i 0)) ∧ 0 ≤ zs.getD i 0 ∧ zs.getD i 0 ≤ 255)
theorem Code.keep {w w' : World} {kr : Nat} {a : Option Addr} {n : Nat} {zs : List Int} (h : Code w kr a n zs) (he : Ex kr w w') : Code w' kr a n zs := by
  obtain ⟨hn, h⟩ := h
  refine ⟨hn, h.imp id ?_⟩
  rintro ⟨b, off, ha, hne, hb, hc⟩
  exact ⟨b, off, ha, hne, Nat.lt_of_lt_of_le hb he.size, fun i hi => ⟨(he.cell (p := ⟨b, off + i, none⟩) hb hne).trans (hc i hi).1, (hc i hi).2⟩⟩
/-- A reader at place p of the code. -/
structure Rd (w : World) (kr : Nat) (a : Option Addr) (n cap : Nat) (zs : List Int) (p : Int) : Prop where
  sl : w.cell? ⟨kr, 0, none⟩ = some (.slice a n cap)
  at_ : w.cell? ⟨kr, 1, none⟩ = some (.int .i64 p)
  open_ : w.frozen? ⟨kr, 1, none⟩ = false
  lt : kr < w.heap.size
  code : Code w kr a n zs
  p0 : 0 ≤ p
  p1 : p ≤ 1000000

theorem xor_i64 (a b : Nat) (ha : a < 4611686018427387904) (hb : b < 4611686018427387904) : bits .xor .i64 (a : Int) (b : Int) = ((a ^^^ b : Nat) : Int) := by
  have hx : a ^^^ b < 2 ^ 62 := Nat.xor_lt_two_pow (by omega) (by omega)
  have h1 : (BitVec.ofInt 64 (a : Int)).toNat = a := by
    rw [BitVec.ofInt_natCast, BitVec.toNat_ofNat]; exact Nat.mod_eq_of_lt (by omega)
  have h2 : (BitVec.ofInt 64 (b : Int)).toNat = b := by
    rw [BitVec.ofInt_natCast, BitVec.toNat_ofNat]; exact Nat.mod_eq_of_lt (by omega)
  show IntKind.i64.wrap ((BitVec.ofInt 64 (a : Int) ^^^ BitVec.ofInt 64 (b : Int)).toNat : Int) = _
  rw [BitVec.toNat_xor, h1, h2, IntKind.wrap_i64]
  omega
/-- A mixture is no negative number. -/
theorem xor_mix (x : Int) (h0 : 0 ≤ x) (h1 : x < 4611686018427387904) : ∃ y : Int, bits .xor .i64 x (x / 64) = y ∧ 0 ≤ y ∧ y < 4611686018427387904 := by
  obtain ⟨m, rfl⟩ := Int.eq_ofNat_of_zero_le h0
  have hx : m ^^^ (m / 64) < 2 ^ 62 := Nat.xor_lt_two_pow (by omega) (by omega)
  refine ⟨((m ^^^ (m / 64) : Nat) : Int), ?_, by omega, by omega⟩
  have := xor_i64 m (m / 64) (by omega) (by omega)
  simpa using this

set_option maxHeartbeats 1000000 in
theorem pick_any (kr : Nat) (a : Option Addr) (n cap : Nat) (zs : List Int) (p k : Int) (w : World) (h : Rd w kr a n cap zs p) (hp : p < 1000000) (k0 : 1 ≤ k) (k1 : k ≤ 1000000) :
    Calls Try.prog 30 #[.pointer (some ⟨kr, 0, none⟩), .int .i64 k] w fun e w' => ∃ (m : Int) (nq : Nat), e = .returned (.int .i64 m) ∧ 0 ≤ m ∧ m < k ∧ w' = (w.setCell ⟨kr, 1, none⟩ (.int .i64 (p + 1))).drewN nq := by
  obtain ⟨c0, c1, c2, hlt, ⟨hn, hc⟩, p0, p1⟩ := h
  rcases Nat.eq_zero_or_pos n with hz | hz
  · subst hz
    clear hc
    go_enter Try.func30, Try.ntmps30
    go_wp2
    go_ret
    exact ⟨0, 0, rfl, by omega, by omega, rfl⟩
  · obtain ⟨b, off, rfl, hne, hb, hcell⟩ := hc.resolve_left (by omega)
    have hn0 : ((n : Int) == 0) = false := by simp; omega
    by_cases hin : p < (n : Int)
    · obtain ⟨cb, z0, z1⟩ := hcell p.toNat (by omega)
      generalize zs.getD p.toNat 0 = z at cb z0 z1
      clear hcell hc
      have hne' : kr ≠ b := fun e => hne e.symm
      go_enter Try.func30, Try.ntmps30
      go_wp2
      go_ret
      exact ⟨z % k, 0, rfl, Int.emod_nonneg _ (by omega), Int.emod_lt_of_pos _ (by omega), rfl⟩
    · have r0 : 0 ≤ p % (n : Int) := Int.emod_nonneg _ (by omega)
      have r1 : p % (n : Int) < (n : Int) := Int.emod_lt_of_pos _ (by omega)
      have s0 : 0 ≤ (p * 7 + 3) % (n : Int) := Int.emod_nonneg _ (by omega)
      have s1 : (p * 7 + 3) % (n : Int) < (n : Int) := Int.emod_lt_of_pos _ (by omega)
      have q0 : 0 ≤ p / (n : Int) := Int.ediv_nonneg p0 (by omega)
      have q1 : p / (n : Int) ≤ 1000000 := Int.le_trans (Int.ediv_le_self _ p0) p1
      obtain ⟨cy, y0, y1⟩ := hcell (p % (n : Int)).toNat (by omega)
      obtain ⟨cz, z0, z1⟩ := hcell ((p * 7 + 3) % (n : Int)).toNat (by omega)
      generalize zs.getD (p % (n : Int)).toNat 0 = y at cy y0 y1
      generalize zs.getD ((p * 7 + 3) % (n : Int)).toNat 0 = z at cz z0 z1
      clear hcell hc
      have hne' : kr ≠ b := fun e => hne e.symm
      have hnp : (0 : Int) < (n : Int) := by omega
      obtain ⟨m, hm, m0, m1⟩ := xor_mix (y * 131 + z * 1117 + p * 29 + p / (n : Int) * 53) (by omega) (by omega)
      go_enter Try.func30, Try.ntmps30
      go_wp2_with fail
      go_quiet (fail)
      go_wp2
      go_ret
      exact ⟨m % k, nq, rfl, Int.emod_nonneg _ (by omega), Int.emod_lt_of_pos _ (by omega), rfl⟩

theorem Rd.step {w : World} {kr : Nat} {a : Option Addr} {n cap : Nat} {zs : List Int} {p : Int} (h : Rd w kr a n cap zs p) (hp : p < 1000000) (nq : Nat) : Rd ((w.setCell ⟨kr, 1, none⟩ (.int .i64 (p + 1))).drewN nq) kr a n cap zs (p + 1) := by
  have he : Ex kr w ((w.setCell ⟨kr, 1, none⟩ (.int .i64 (p + 1))).drewN nq) := ((Ex.refl kr w).set 1 _).drewN nq
  have c0 := h.sl
  have c1 := h.at_
  have c2 := h.open_
  have := h.p0
  exact ⟨by go_simp, by go_simp, by go_simp, Nat.lt_of_lt_of_le h.lt he.size, h.code.keep he, by omega, by omega⟩
theorem pick_rd (kr : Nat) (a : Option Addr) (n cap : Nat) (zs : List Int) (p k : Int) (w : World) (h : Rd w kr a n cap zs p) (hp : p < 1000000) (k0 : 1 ≤ k) (k1 : k ≤ 1000000) :
    Calls Try.prog 30 #[.pointer (some ⟨kr, 0, none⟩), .int .i64 k] w fun e w' => ∃ m : Int, e = .returned (.int .i64 m) ∧ 0 ≤ m ∧ m < k ∧ Rd w' kr a n cap zs (p + 1) ∧ Ex kr w w' := by
  refine (pick_any kr a n cap zs p k w h hp k0 k1).mono ?_
  rintro e w' ⟨m, nq, rfl, m0, m1, rfl⟩
  exact ⟨m, rfl, m0, m1, h.step hp nq, ((Ex.refl kr w).set 1 _).drewN nq⟩
end Go.Proofs.Ytmfcnckhgeggkaa
