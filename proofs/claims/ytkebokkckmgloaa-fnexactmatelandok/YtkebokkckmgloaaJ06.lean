import Derived.Test.YtkebokkckmgloaaJ05
import Derived.Laws.AppendOwn
import Derived.Test.YtkebokkckmgloaaJ03
import Derived.Test.YtkebokkckmgloaaJ01
import Derived.Deep.RegionHeld3
import Derived.Laws.Pointers
import Derived.StillTactics
/- A list of runs in a row that the call itself made. -/
namespace Go.Proofs.Ytkebokkckmgloaa
open Go.RowKit
set_option linter.unusedVariables false

def flatR (rs : List RunD) : List Value := rs.flatMap RunD.cells
theorem flatR_len : ∀ rs : List RunD, (flatR rs).length = rs.length * 11
  | [] => rfl
  | r :: rs => by
    have := flatR_len rs
    simp only [flatR, List.flatMap_cons, List.length_append] at this ⊢
    simp only [this, List.length_cons]
    show 11 + rs.length * 11 = _
    omega
theorem flatR_snoc (rs : List RunD) (r : RunD) : flatR (rs ++ [r]) = flatR rs ++ r.cells := by simp [flatR]
theorem flatR_at : ∀ (rs : List RunD) (k : Nat) (r : RunD), rs[k]? = some r → ∀ j, j < 11 → (flatR rs)[k * 11 + j]? = r.cells[j]?
  | [], k, r, h, j, hj => by simp at h
  | q :: rs, 0, r, h, j, hj => by
    simp at h; subst h
    rw [flatR, List.flatMap_cons, List.getElem?_append_left (by show _ < 11; omega)]
    simp
  | q :: rs, k + 1, r, h, j, hj => by
    have ih := flatR_at rs k r (by simpa using h) j hj
    rw [flatR, List.flatMap_cons, List.getElem?_append_right (by show 11 ≤ _; omega)]
    rw [← ih]
    show (flatR rs)[(k + 1) * 11 + j - 11]? = _
    rw [show (k + 1) * 11 + j - 11 = k * 11 + j from by omega]
theorem flatR_one (rs : List RunD) : ∀ u ∈ flatR rs, u.oneCell' = true := by
  intro u hu
  obtain ⟨r, -, h⟩ := List.mem_flatMap.1 hu
  simp [RunD.cells] at h
  rcases h with rfl | rfl | rfl | rfl | rfl | rfl | rfl | rfl | rfl | rfl | rfl <;> rfl

theorem rows_of_owns {w : World} {base : Nat} {v : Value} {rs : List RunD} (h : w.ownsRow base 38 11 v rs.length (flatR rs)) :
    (v = .slice none 0 0 ∧ rs = []) ∨ ∃ g cap, v = .slice (some ⟨g, 0, none⟩) rs.length cap ∧ base ≤ g ∧ g < w.heap.size ∧ RowsAt w g 0 rs ∧ w.there g 0 (rs.length * 11) := by
  obtain ⟨hl, ⟨rfl, hn⟩ | ⟨g, cap, cur, rfl, hb, hg, hnc, hcm, hcs, htk⟩⟩ := h
  · exact Or.inl ⟨rfl, List.length_eq_zero_iff.1 hn⟩
  · refine Or.inr ⟨g, cap, rfl, hb, (Array.getElem?_eq_some_iff.1 hg).1, ?_, ?_⟩
    · intro k r hk j u hj
      have hj11 : j < 11 := by
        rcases Nat.lt_or_ge j 11 with h' | h'
        · exact h'
        · rw [List.getElem?_eq_none (by simpa [RunD.cells] using h')] at hj; cases hj
      have hf := flatR_at rs k r hk j hj11
      rw [hj, ← htk, List.getElem?_take] at hf
      split at hf
      · rw [cell_of_row w g _ cur _ (0, 0) hg, Nat.zero_add]
        simpa using hf
      · cases hf
    · intro j hj
      have hlt : j < cur.size := by
        have : rs.length * 11 ≤ cap * 11 := Nat.mul_le_mul_right 11 hnc
        omega
      refine ⟨?_, ?_⟩
      · rw [cell_of_row w g _ cur _ (0, 0) hg, Nat.zero_add]
        simp [Array.getElem?_eq_getElem hlt]
      · simp [World.frozen?, hg]

theorem owns_below {x y : World} {base : Nat} {e : TypeId} {size : Nat} {v : Value} {n : Nat} {xs : List Value} (h : x.ownsRow base e size v n xs) (hb : Below x.heap.size x y) : y.ownsRow base e size v n xs :=
  h.kept (row := none) ⟨hb.os, hb.tape, hb.output, hb.size, fun k hk _ => hb.block k hk⟩ (by cases hv : v.ownBlock <;> simp)
theorem owns_ge {x : World} {base : Nat} {e : TypeId} {size : Nat} {v : Value} {n : Nat} {xs : List Value} (h : x.ownsRow base e size v n xs) : ∀ k, v.ownBlock = some k → base ≤ k := fun k hk => (h.lt k hk).1
theorem new_cells (x : World) (N : Nat) (hN : N = x.heap.size) (arr : Array Value) (t : TypeId) (vs : List Value) (hv : arr.toList = vs) : ∀ j u, vs[j]? = some u → (x.alloc (.cells arr t)).cell? ((⟨N, 0, none⟩ : Addr).add j) = some u := by
  intro j u hj
  subst hN hv
  rw [Addr.add_mid, Nat.zero_add, World.cell?_alloc_new]
  simpa using hj
theorem cellsR_one (r : RunD) : ∀ u ∈ r.cells, u.oneCell' = true := fun u hu => flatR_one [r] u (by simpa [flatR] using hu)
theorem infoR : (Try.prog.info? 38).map (fun i => (i.zero, i.size, i.bytes)) = some (some (.agg #[.string ⟨#[]⟩, .int .i64 0, .string ⟨#[]⟩, .int .i64 0, .int .i64 0, .int .i64 0, .int .i64 0, .int .i64 0, .int .i64 0, .int .i64 0, .int .i64 0]), 11, 104) := by kernel_rfl
end Go.Proofs.Ytkebokkckmgloaa
/- Equal wants and runs are told to be equal. -/
namespace Go.Proofs.Ytkebokkckmgloaa
open Go.RowKit

theorem eqRun_same (c h : ByteArray) (v p s d g a b i u : Int) (w : World) :
    Calls Try.prog 46 #[.agg #[.string c, .int .i64 v, .string h, .int .i64 p, .int .i64 s, .int .i64 d, .int .i64 g, .int .i64 a, .int .i64 b, .int .i64 i, .int .i64 u], .agg #[.string c, .int .i64 v, .string h, .int .i64 p, .int .i64 s, .int .i64 d, .int .i64 g, .int .i64 a, .int .i64 b, .int .i64 i, .int .i64 u]] w fun e w' => e = .returned (.bool true) ∧ Below w.heap.size w w' := by
  go_enter Try.func46, Try.ntmps46
  go_wp2_with (first | (go_at_call 91; refine (eqWant_same c h v p s d g _).mono ?_; rintro e w' ⟨rfl, rfl⟩))
  go_ret
  exact ⟨rfl, by repeat (first | exact Below.refl _ _ | refine bl_alloc ?_ _ | refine bl_drew ?_)⟩
end Go.Proofs.Ytkebokkckmgloaa
/- Two lists of the same runs are told to be equal. -/
namespace Go.Proofs.Ytkebokkckmgloaa
open Go.RowKit
set_option linter.unusedVariables false

theorem keepR {x w' : World} {b1 o1 b2 o2 k : Nat} {rs : List RunD} {r : RunD} (hk : rs[k]? = some r) (h1 : RowsAt x b1 o1 rs) (h2 : RowsAt x b2 o2 rs) (l1 : b1 < x.heap.size) (l2 : b2 < x.heap.size) (hb : Below x.heap.size x w') :
    Below x.heap.size x w' ∧ (w'.cell? ⟨b1, o1 + k * 11, none⟩ = some (.string r.c) ∧ w'.cell? ⟨b1, o1 + k * 11 + 1, none⟩ = some (.int .i64 r.v) ∧ w'.cell? ⟨b1, o1 + k * 11 + 2, none⟩ = some (.string r.h) ∧ w'.cell? ⟨b1, o1 + k * 11 + 3, none⟩ = some (.int .i64 r.p) ∧ w'.cell? ⟨b1, o1 + k * 11 + 4, none⟩ = some (.int .i64 r.s) ∧ w'.cell? ⟨b1, o1 + k * 11 + 5, none⟩ = some (.int .i64 r.d) ∧ w'.cell? ⟨b1, o1 + k * 11 + 6, none⟩ = some (.int .i64 r.g) ∧ w'.cell? ⟨b1, o1 + k * 11 + 7, none⟩ = some (.int .i64 r.a) ∧ w'.cell? ⟨b1, o1 + k * 11 + 8, none⟩ = some (.int .i64 r.b) ∧ w'.cell? ⟨b1, o1 + k * 11 + 9, none⟩ = some (.int .i64 r.i) ∧ w'.cell? ⟨b1, o1 + k * 11 + 10, none⟩ = some (.int .i64 r.u)) ∧ (w'.cell? ⟨b2, o2 + k * 11, none⟩ = some (.string r.c) ∧ w'.cell? ⟨b2, o2 + k * 11 + 1, none⟩ = some (.int .i64 r.v) ∧ w'.cell? ⟨b2, o2 + k * 11 + 2, none⟩ = some (.string r.h) ∧ w'.cell? ⟨b2, o2 + k * 11 + 3, none⟩ = some (.int .i64 r.p) ∧ w'.cell? ⟨b2, o2 + k * 11 + 4, none⟩ = some (.int .i64 r.s) ∧ w'.cell? ⟨b2, o2 + k * 11 + 5, none⟩ = some (.int .i64 r.d) ∧ w'.cell? ⟨b2, o2 + k * 11 + 6, none⟩ = some (.int .i64 r.g) ∧ w'.cell? ⟨b2, o2 + k * 11 + 7, none⟩ = some (.int .i64 r.a) ∧ w'.cell? ⟨b2, o2 + k * 11 + 8, none⟩ = some (.int .i64 r.b) ∧ w'.cell? ⟨b2, o2 + k * 11 + 9, none⟩ = some (.int .i64 r.i) ∧ w'.cell? ⟨b2, o2 + k * 11 + 10, none⟩ = some (.int .i64 r.u)) :=
  ⟨hb, (h1.keep l1 hb).at hk, (h2.keep l2 hb).at hk⟩

set_option maxHeartbeats 1000000 in
theorem eqRunS (b1 o1 n1 b2 o2 n2 : Nat) (rs : List RunD) (w : World) (h1 : RowsAt w b1 o1 rs) (h2 : RowsAt w b2 o2 rs) (l1 : b1 < w.heap.size) (l2 : b2 < w.heap.size) (hl : rs.length ≤ 1048576) :
    Calls Try.prog 39 #[.slice (some ⟨b1, o1, none⟩) rs.length n1, .slice (some ⟨b2, o2, none⟩) rs.length n2] w fun e w' => e = .returned (.bool true) ∧ Below w.heap.size w w' := by
  go_enter Try.func39, Try.ntmps39
  go_wp2
  go_loopw [5] (fun i wx => ∃ (k : Nat), k ≤ rs.length ∧ i = .int .i64 k ∧ Below w.heap.size w wx) (fun i _ => rs.length - (intOf i).toNat)
  case atStart => exact ⟨0, Nat.zero_le _, rfl, Below.refl _ _⟩
  case round =>
    obtain ⟨k, hk, rfl, hB⟩ := hrel
    by_cases hlt : k < rs.length
    · obtain ⟨r, hr⟩ : ∃ r, rs[k]? = some r := ⟨rs[k], List.getElem?_eq_getElem hlt⟩
      have Hr : Hid _ := hr
      clear hr
      have g1 := h1.keep l1 hB
      have g2 := h2.keep l2 hB
      have z1 : b1 < wr.heap.size := Nat.lt_of_lt_of_le l1 hB.size
      have z2 : b2 < wr.heap.size := Nat.lt_of_lt_of_le l2 hB.size
      have i0 : (0 : Int) ≤ (k : Int) := by omega
      have i1 : (k : Int) < (rs.length : Int) := by omega
      go_wp2_with fail
      go_region_held3 (fun w' => Below wr.heap.size wr w' ∧ (w'.cell? ⟨b1, o1 + k * 11, none⟩ = some (.string r.c) ∧ w'.cell? ⟨b1, o1 + k * 11 + 1, none⟩ = some (.int .i64 r.v) ∧ w'.cell? ⟨b1, o1 + k * 11 + 2, none⟩ = some (.string r.h) ∧ w'.cell? ⟨b1, o1 + k * 11 + 3, none⟩ = some (.int .i64 r.p) ∧ w'.cell? ⟨b1, o1 + k * 11 + 4, none⟩ = some (.int .i64 r.s) ∧ w'.cell? ⟨b1, o1 + k * 11 + 5, none⟩ = some (.int .i64 r.d) ∧ w'.cell? ⟨b1, o1 + k * 11 + 6, none⟩ = some (.int .i64 r.g) ∧ w'.cell? ⟨b1, o1 + k * 11 + 7, none⟩ = some (.int .i64 r.a) ∧ w'.cell? ⟨b1, o1 + k * 11 + 8, none⟩ = some (.int .i64 r.b) ∧ w'.cell? ⟨b1, o1 + k * 11 + 9, none⟩ = some (.int .i64 r.i) ∧ w'.cell? ⟨b1, o1 + k * 11 + 10, none⟩ = some (.int .i64 r.u)) ∧ (w'.cell? ⟨b2, o2 + k * 11, none⟩ = some (.string r.c) ∧ w'.cell? ⟨b2, o2 + k * 11 + 1, none⟩ = some (.int .i64 r.v) ∧ w'.cell? ⟨b2, o2 + k * 11 + 2, none⟩ = some (.string r.h) ∧ w'.cell? ⟨b2, o2 + k * 11 + 3, none⟩ = some (.int .i64 r.p) ∧ w'.cell? ⟨b2, o2 + k * 11 + 4, none⟩ = some (.int .i64 r.s) ∧ w'.cell? ⟨b2, o2 + k * 11 + 5, none⟩ = some (.int .i64 r.d) ∧ w'.cell? ⟨b2, o2 + k * 11 + 6, none⟩ = some (.int .i64 r.g) ∧ w'.cell? ⟨b2, o2 + k * 11 + 7, none⟩ = some (.int .i64 r.a) ∧ w'.cell? ⟨b2, o2 + k * 11 + 8, none⟩ = some (.int .i64 r.b) ∧ w'.cell? ⟨b2, o2 + k * 11 + 9, none⟩ = some (.int .i64 r.i) ∧ w'.cell? ⟨b2, o2 + k * 11 + 10, none⟩ = some (.int .i64 r.u)))
        (first | exact keepR Hr.out g1 g2 z1 z2 (bl_drew (Below.refl _ _)) | exact keepR Hr.out g1 g2 z1 z2 (bl_trans (bl_drew (Below.refl _ _)) hb))
        (first | (go_at_call 46; refine (eqRun_same r.c r.h r.v r.p r.s r.d r.g r.a r.b r.i r.u _).mono ?_; rintro e w' ⟨rfl, hb⟩))
      go_wp2
      exact ⟨⟨k + 1, by omega, by go_num, bl_trans hB (bl_trans (bl_drew (Below.refl _ _)) hb)⟩, by simp [intOf]; omega⟩
    · go_wp2
      go_ret
      exact ⟨rfl, hB⟩
end Go.Proofs.Ytkebokkckmgloaa
/- A list of runs is marked. -/
namespace Go.Proofs.Ytkebokkckmgloaa
open Go.RowKit
set_option linter.unusedVariables false

def markRun (k : Int) : RunD := ⟨markB k, markB (k + 1 + 1), k + 1, k + 1 + 1 + 1, k + 1 + 1 + 1 + 1, k + 1 + 1 + 1 + 1 + 1, k + 1 + 1 + 1 + 1 + 1 + 1, k + 1 + 1 + 1 + 1 + 1 + 1 + 1, k + 1 + 1 + 1 + 1 + 1 + 1 + 1 + 1, k + 1 + 1 + 1 + 1 + 1 + 1 + 1 + 1 + 1, k + 1 + 1 + 1 + 1 + 1 + 1 + 1 + 1 + 1 + 1⟩
def markRuns (k : Int) (n : Nat) : List RunD := (List.range n).map (fun (i : Nat) => markRun (k + 11 * (i : Int)))

/-- The cells of a row that is to be written. -/
theorem row_cells {x : World} {g n k : Nat} (h : x.there g 0 (n * 11)) (hk : k < n) (j : Nat) (hj : j < 11) : (∃ v, x.cell? ⟨g, k * 11 + j, none⟩ = some v) ∧ x.frozen? ⟨g, k * 11 + j, none⟩ = false := by
  have h1 := h (k * 11 + j) (by omega)
  rw [Nat.zero_add] at h1
  exact ⟨Option.isSome_iff_exists.1 h1.1, h1.2⟩

theorem len_marks (k : Int) (n : Nat) : (markRuns k n).length = n := by simp [markRuns]
theorem rows_apart {x : World} {g : Nat} {rs : List RunD} (h : RowsAt x g 0 rs) (o : Nat) (hl : rs.length * 11 ≤ o) (vs : List Value) : RowsAt (x.setCells g o vs) g 0 rs :=
  fun j q hj => World.rangeAt_setCells_apart (h j q hj) g o vs (Or.inr (Or.inl (by
    have : j < rs.length := by
      rcases Nat.lt_or_ge j rs.length with h' | h'
      · exact h'
      · rw [List.getElem?_eq_none h'] at hj; cases hj
    show 0 + j * 11 + 11 ≤ o
    omega)))
theorem rows_snoc {x : World} {b m : Nat} {k0 kk : Int} (hk : kk = k0 + 11 * (m : Int)) (h : RowsAt x b 0 (markRuns k0 m)) (hr : x.rangeAt b (m * 11) (markRun kk).cells) : RowsAt x b 0 (markRuns k0 (m + 1)) := by
  intro j q hj
  rw [markRuns, List.range_succ, List.map_append] at hj
  rcases Nat.lt_or_ge j m with hl | hl
  · rw [List.getElem?_append_left (by simpa using hl)] at hj; exact h j q hj
  · rw [List.getElem?_append_right (by simpa using hl)] at hj
    by_cases e : j = m
    · subst e
      simp at hj
      subst hj
      rw [← hk, Nat.zero_add]
      exact hr
    · rw [List.getElem?_eq_none (by simp; omega)] at hj; cases hj

set_option maxRecDepth 4000 in
set_option maxHeartbeats 1000000 in
theorem markRunS (b n cap : Nat) (k0 : Int) (w : World) (hth : w.there b 0 (n * 11)) (hb : b < w.heap.size) (hn : n ≤ 1048576) (h0 : 0 ≤ k0) (h1 : k0 ≤ 1000000000) :
    Calls Try.prog 42 #[.slice (some ⟨b, 0, none⟩) n cap, .int .i64 k0] w fun e w' => e = .returned (.int .i64 (k0 + 11 * (n : Int))) ∧ RowsAt w' b 0 (markRuns k0 n) ∧ w'.there b 0 (n * 11) ∧ Ex b w w' := by
  go_enter Try.func42, Try.ntmps42
  go_wp2
  go_loopw [1, 5] (fun q i wx => ∃ (m : Nat) (kk : Int), m ≤ n ∧ i = .int .i64 m ∧ q = .int .i64 kk ∧ kk = k0 + 11 * (m : Int) ∧ RowsAt wx b 0 (markRuns k0 m) ∧ wx.there b 0 (n * 11) ∧ Ex b w wx) (fun _ i _ => n - (intOf i).toNat)
  case atStart => exact ⟨0, k0, Nat.zero_le _, rfl, rfl, by simp, fun k r h => by simp [markRuns] at h, hth, Ex.refl _ _⟩
  case round =>
    obtain ⟨m, kk, hm, rfl, rfl, hkk, hrows, ht, hE⟩ := hrel
    have Hk : Hid _ := hkk
    have k1 : 0 ≤ kk := by omega
    have k2 : kk ≤ 100000000000 := by omega
    clear hkk
    have bz : b < wr.heap.size := Nat.lt_of_lt_of_le hb hE.size
    by_cases hlt : m < n
    · go_wp2_with fail
      refine (markText_any kk (by omega) _).mono ?_
      rintro e w1 ⟨rfl, b1⟩
      have t1 := there_keep ht bz b1
      obtain ⟨⟨v0, c0⟩, f0⟩ := row_cells t1 hlt 0 (by omega)
      obtain ⟨⟨v1, c1⟩, f1⟩ := row_cells t1 hlt 1 (by omega)
      simp only [Nat.add_zero] at c0 f0
      go_wp2_with fail
      have W2 : World.setCells w1 b (m * 11) [.string (markB kk), .int .i64 (kk + 1)] = (w1.setCell { block := b, off := m * 11 } (Value.string (markB kk))).setCell { block := b, off := m * 11 + 1 } (Value.int IntKind.i64 (kk + 1)) := rfl
      have r1 : (World.setCells w1 b (m * 11) [.string (markB kk), .int .i64 (kk + 1)]).rangeAt b (m * 11) [.string (markB kk), .int .i64 (kk + 1)] := World.rangeAt_setCells_same w1 b (m * 11) _ (fun j hj => there_part t1 hlt j (by simp at hj; omega))
      have t2 := World.there_setCells t1 b (m * 11) [.string (markB kk), .int .i64 (kk + 1)]
      have e1 : Ex b w (World.setCells w1 b (m * 11) [.string (markB kk), .int .i64 (kk + 1)]) := (hE.trans (Ex.of_below b1)).cells _ _
      have q1 : RowsAt (World.setCells w1 b (m * 11) [.string (markB kk), .int .i64 (kk + 1)]) b 0 (markRuns k0 m) := rows_apart (hrows.keep bz b1) (m * 11) (by rw [len_marks]; omega) _
      have z1 : b < (World.setCells w1 b (m * 11) [.string (markB kk), .int .i64 (kk + 1)]).heap.size := Nat.lt_of_lt_of_le hb e1.size
      rw [W2] at r1 t2 e1 q1 z1
      clear W2 c0 c1 f0 f1 hrows ht hE t1 b1 bz
      refine (markText_any _ (by omega) _).mono ?_
      rintro e w2 ⟨rfl, b2⟩
      have r2 := range_keep r1 z1 b2
      have t3 := there_keep t2 z1 b2
      have q2 := q1.keep z1 b2
      have e2 := e1.trans (Ex.of_below b2)
      clear r1 t2 q1 e1 b2 z1
      obtain ⟨⟨v2, c2⟩, f2⟩ := row_cells t3 hlt 2 (by omega)
      obtain ⟨⟨v3, c3⟩, f3⟩ := row_cells t3 hlt 3 (by omega)
      obtain ⟨⟨v4, c4⟩, f4⟩ := row_cells t3 hlt 4 (by omega)
      obtain ⟨⟨v5, c5⟩, f5⟩ := row_cells t3 hlt 5 (by omega)
      obtain ⟨⟨v6, c6⟩, f6⟩ := row_cells t3 hlt 6 (by omega)
      obtain ⟨⟨v7, c7⟩, f7⟩ := row_cells t3 hlt 7 (by omega)
      obtain ⟨⟨v8, c8⟩, f8⟩ := row_cells t3 hlt 8 (by omega)
      obtain ⟨⟨v9, c9⟩, f9⟩ := row_cells t3 hlt 9 (by omega)
      obtain ⟨⟨v10, c10⟩, f10⟩ := row_cells t3 hlt 10 (by omega)
      have T3 : Hid _ := t3
      have R2 : Hid _ := r2
      have Q2 : Hid _ := q2
      have E2 : Hid _ := e2
      clear t3 r2 q2 e2
      go_wp2
      have t3 := T3.out
      have r2 := R2.out
      have q2 := Q2.out
      have e2 := E2.out
      have t4 := World.there_setCells t3 b (m * 11 + 2) [.string (markB (kk + 1 + 1)), .int .i64 (kk + 1 + 1 + 1), .int .i64 (kk + 1 + 1 + 1 + 1), .int .i64 (kk + 1 + 1 + 1 + 1 + 1), .int .i64 (kk + 1 + 1 + 1 + 1 + 1 + 1), .int .i64 (kk + 1 + 1 + 1 + 1 + 1 + 1 + 1), .int .i64 (kk + 1 + 1 + 1 + 1 + 1 + 1 + 1 + 1), .int .i64 (kk + 1 + 1 + 1 + 1 + 1 + 1 + 1 + 1 + 1), .int .i64 (kk + 1 + 1 + 1 + 1 + 1 + 1 + 1 + 1 + 1 + 1)]
      have r3 : (World.setCells w2 b (m * 11 + 2) [.string (markB (kk + 1 + 1)), .int .i64 (kk + 1 + 1 + 1), .int .i64 (kk + 1 + 1 + 1 + 1), .int .i64 (kk + 1 + 1 + 1 + 1 + 1), .int .i64 (kk + 1 + 1 + 1 + 1 + 1 + 1), .int .i64 (kk + 1 + 1 + 1 + 1 + 1 + 1 + 1), .int .i64 (kk + 1 + 1 + 1 + 1 + 1 + 1 + 1 + 1), .int .i64 (kk + 1 + 1 + 1 + 1 + 1 + 1 + 1 + 1 + 1), .int .i64 (kk + 1 + 1 + 1 + 1 + 1 + 1 + 1 + 1 + 1 + 1)]).rangeAt b (m * 11 + 2) [.string (markB (kk + 1 + 1)), .int .i64 (kk + 1 + 1 + 1), .int .i64 (kk + 1 + 1 + 1 + 1), .int .i64 (kk + 1 + 1 + 1 + 1 + 1), .int .i64 (kk + 1 + 1 + 1 + 1 + 1 + 1), .int .i64 (kk + 1 + 1 + 1 + 1 + 1 + 1 + 1), .int .i64 (kk + 1 + 1 + 1 + 1 + 1 + 1 + 1 + 1), .int .i64 (kk + 1 + 1 + 1 + 1 + 1 + 1 + 1 + 1 + 1), .int .i64 (kk + 1 + 1 + 1 + 1 + 1 + 1 + 1 + 1 + 1 + 1)] := World.rangeAt_setCells_same w2 b (m * 11 + 2) _ (fun j hj => by have := there_part t3 hlt (j + 2) (by simp at hj; omega); rwa [show m * 11 + (j + 2) = m * 11 + 2 + j from by omega] at this)
      have r4 := World.rangeAt_setCells_apart r2 b (m * 11 + 2) [.string (markB (kk + 1 + 1)), .int .i64 (kk + 1 + 1 + 1), .int .i64 (kk + 1 + 1 + 1 + 1), .int .i64 (kk + 1 + 1 + 1 + 1 + 1), .int .i64 (kk + 1 + 1 + 1 + 1 + 1 + 1), .int .i64 (kk + 1 + 1 + 1 + 1 + 1 + 1 + 1), .int .i64 (kk + 1 + 1 + 1 + 1 + 1 + 1 + 1 + 1), .int .i64 (kk + 1 + 1 + 1 + 1 + 1 + 1 + 1 + 1 + 1), .int .i64 (kk + 1 + 1 + 1 + 1 + 1 + 1 + 1 + 1 + 1 + 1)] (Or.inr (Or.inl (by simp)))
      have q3 : RowsAt (World.setCells w2 b (m * 11 + 2) [.string (markB (kk + 1 + 1)), .int .i64 (kk + 1 + 1 + 1), .int .i64 (kk + 1 + 1 + 1 + 1), .int .i64 (kk + 1 + 1 + 1 + 1 + 1), .int .i64 (kk + 1 + 1 + 1 + 1 + 1 + 1), .int .i64 (kk + 1 + 1 + 1 + 1 + 1 + 1 + 1), .int .i64 (kk + 1 + 1 + 1 + 1 + 1 + 1 + 1 + 1), .int .i64 (kk + 1 + 1 + 1 + 1 + 1 + 1 + 1 + 1 + 1), .int .i64 (kk + 1 + 1 + 1 + 1 + 1 + 1 + 1 + 1 + 1 + 1)]) b 0 (markRuns k0 m) := rows_apart q2 (m * 11 + 2) (by rw [len_marks]; omega) _
      have r5 : (World.setCells w2 b (m * 11 + 2) [.string (markB (kk + 1 + 1)), .int .i64 (kk + 1 + 1 + 1), .int .i64 (kk + 1 + 1 + 1 + 1), .int .i64 (kk + 1 + 1 + 1 + 1 + 1), .int .i64 (kk + 1 + 1 + 1 + 1 + 1 + 1), .int .i64 (kk + 1 + 1 + 1 + 1 + 1 + 1 + 1), .int .i64 (kk + 1 + 1 + 1 + 1 + 1 + 1 + 1 + 1), .int .i64 (kk + 1 + 1 + 1 + 1 + 1 + 1 + 1 + 1 + 1), .int .i64 (kk + 1 + 1 + 1 + 1 + 1 + 1 + 1 + 1 + 1 + 1)]).rangeAt b (m * 11) (markRun kk).cells := range_append r4 r3
      have q4 := rows_snoc Hk.out q3 r5
      have e3 : Ex b w (World.setCells w2 b (m * 11 + 2) [.string (markB (kk + 1 + 1)), .int .i64 (kk + 1 + 1 + 1), .int .i64 (kk + 1 + 1 + 1 + 1), .int .i64 (kk + 1 + 1 + 1 + 1 + 1), .int .i64 (kk + 1 + 1 + 1 + 1 + 1 + 1), .int .i64 (kk + 1 + 1 + 1 + 1 + 1 + 1 + 1), .int .i64 (kk + 1 + 1 + 1 + 1 + 1 + 1 + 1 + 1), .int .i64 (kk + 1 + 1 + 1 + 1 + 1 + 1 + 1 + 1 + 1), .int .i64 (kk + 1 + 1 + 1 + 1 + 1 + 1 + 1 + 1 + 1 + 1)]) := e2.cells _ _
      clear r5 r4 r3 q3 r2 q2 e2 t3
      have W3 : World.setCells w2 b (m * 11 + 2) [.string (markB (kk + 1 + 1)), .int .i64 (kk + 1 + 1 + 1), .int .i64 (kk + 1 + 1 + 1 + 1), .int .i64 (kk + 1 + 1 + 1 + 1 + 1), .int .i64 (kk + 1 + 1 + 1 + 1 + 1 + 1), .int .i64 (kk + 1 + 1 + 1 + 1 + 1 + 1 + 1), .int .i64 (kk + 1 + 1 + 1 + 1 + 1 + 1 + 1 + 1), .int .i64 (kk + 1 + 1 + 1 + 1 + 1 + 1 + 1 + 1 + 1), .int .i64 (kk + 1 + 1 + 1 + 1 + 1 + 1 + 1 + 1 + 1 + 1)] = ((((((((w2.setCell { block := b, off := m * 11 + 2 } (.string (markB (kk + 1 + 1)))).setCell { block := b, off := m * 11 + 3 } (.int .i64 (kk + 1 + 1 + 1))).setCell { block := b, off := m * 11 + 4 } (.int .i64 (kk + 1 + 1 + 1 + 1))).setCell { block := b, off := m * 11 + 5 } (.int .i64 (kk + 1 + 1 + 1 + 1 + 1))).setCell { block := b, off := m * 11 + 6 } (.int .i64 (kk + 1 + 1 + 1 + 1 + 1 + 1))).setCell { block := b, off := m * 11 + 7 } (.int .i64 (kk + 1 + 1 + 1 + 1 + 1 + 1 + 1))).setCell { block := b, off := m * 11 + 8 } (.int .i64 (kk + 1 + 1 + 1 + 1 + 1 + 1 + 1 + 1))).setCell { block := b, off := m * 11 + 9 } (.int .i64 (kk + 1 + 1 + 1 + 1 + 1 + 1 + 1 + 1 + 1))).setCell { block := b, off := m * 11 + 10 } (.int .i64 (kk + 1 + 1 + 1 + 1 + 1 + 1 + 1 + 1 + 1 + 1)) := rfl
      rw [W3] at q4 t4 e3
      clear W3
      exact ⟨⟨m + 1, _, by omega, by go_num, rfl, by have := Hk.out; omega, q4, t4, e3⟩, by simp [intOf]; omega⟩
    · go_wp2
      go_ret
      have hmn : m = n := by omega
      subst hmn
      exact ⟨by rw [← Hk.out]; rfl, hrows, ht, hE⟩
end Go.Proofs.Ytkebokkckmgloaa
/- A list of marked runs is told to be held. -/
namespace Go.Proofs.Ytkebokkckmgloaa
open Go.RowKit
set_option linter.unusedVariables false

theorem marks_at (k0 kk : Int) (n m : Nat) (hm : m < n) (hk : kk = k0 + 11 * (m : Int)) : (markRuns k0 n)[m]? = some (markRun kk) := by
  subst hk; simp [markRuns, List.getElem?_range hm]
theorem heldK {x w' : World} {b m : Nat} {kk : Int} {rs : List RunD} (hk : rs[m]? = some (markRun kk)) (h1 : RowsAt x b 0 rs) (l1 : b < x.heap.size) (hb : Below x.heap.size x w') :
    Below x.heap.size x w' ∧ (w'.cell? ⟨b, m * 11, none⟩ = some (.string (markB kk)) ∧ w'.cell? ⟨b, m * 11 + 1, none⟩ = some (.int .i64 (kk + 1)) ∧ w'.cell? ⟨b, m * 11 + 2, none⟩ = some (.string (markB (kk + 1 + 1))) ∧ w'.cell? ⟨b, m * 11 + 3, none⟩ = some (.int .i64 (kk + 1 + 1 + 1)) ∧ w'.cell? ⟨b, m * 11 + 4, none⟩ = some (.int .i64 (kk + 1 + 1 + 1 + 1)) ∧ w'.cell? ⟨b, m * 11 + 5, none⟩ = some (.int .i64 (kk + 1 + 1 + 1 + 1 + 1)) ∧ w'.cell? ⟨b, m * 11 + 6, none⟩ = some (.int .i64 (kk + 1 + 1 + 1 + 1 + 1 + 1)) ∧ w'.cell? ⟨b, m * 11 + 7, none⟩ = some (.int .i64 (kk + 1 + 1 + 1 + 1 + 1 + 1 + 1)) ∧ w'.cell? ⟨b, m * 11 + 8, none⟩ = some (.int .i64 (kk + 1 + 1 + 1 + 1 + 1 + 1 + 1 + 1)) ∧ w'.cell? ⟨b, m * 11 + 9, none⟩ = some (.int .i64 (kk + 1 + 1 + 1 + 1 + 1 + 1 + 1 + 1 + 1)) ∧ w'.cell? ⟨b, m * 11 + 10, none⟩ = some (.int .i64 (kk + 1 + 1 + 1 + 1 + 1 + 1 + 1 + 1 + 1 + 1))) := by
  have := (h1.keep l1 hb).at hk
  rw [Nat.zero_add] at this
  exact ⟨hb, this⟩

set_option maxRecDepth 4000 in
set_option maxHeartbeats 2000000 in
theorem heldRunS (b n cap : Nat) (k0 : Int) (w : World) (hR : RowsAt w b 0 (markRuns k0 n)) (hb : b < w.heap.size) (hn : n ≤ 1048576) (h0 : 0 ≤ k0) (h1 : k0 ≤ 1000000000) :
    Calls Try.prog 43 #[.slice (some ⟨b, 0, none⟩) n cap, .int .i64 k0] w fun e w' => e = .returned (.int .i64 (k0 + 11 * (n : Int))) ∧ Below w.heap.size w w' := by
  go_enter Try.func43, Try.ntmps43
  go_wp2
  go_loopw [1, 5] (fun q i wx => ∃ (m : Nat) (kk : Int), m ≤ n ∧ i = .int .i64 m ∧ q = .int .i64 kk ∧ kk = k0 + 11 * (m : Int) ∧ Below w.heap.size w wx) (fun _ i _ => n - (intOf i).toNat)
  case atStart => exact ⟨0, k0, Nat.zero_le _, rfl, rfl, by simp, Below.refl _ _⟩
  case round =>
    obtain ⟨m, kk, hm, rfl, rfl, hkk, hB⟩ := hrel
    have Hk : Hid _ := hkk
    have k1 : 0 ≤ kk := by omega
    have k2 : kk ≤ 100000000000 := by omega
    clear hkk
    have bz : b < wr.heap.size := Nat.lt_of_lt_of_le hb hB.size
    by_cases hlt : m < n
    · have Hr : Hid _ := marks_at k0 kk n m hlt Hk.out
      have g1 := hR.keep hb hB
      have i0 : (0 : Int) ≤ (m : Int) := by omega
      have i1 : (m : Int) < (n : Int) := by omega
      go_wp2_with fail
      go_region_held3 (fun w' => Below wr.heap.size wr w' ∧ (w'.cell? ⟨b, m * 11, none⟩ = some (.string (markB kk)) ∧ w'.cell? ⟨b, m * 11 + 1, none⟩ = some (.int .i64 (kk + 1)) ∧ w'.cell? ⟨b, m * 11 + 2, none⟩ = some (.string (markB (kk + 1 + 1))) ∧ w'.cell? ⟨b, m * 11 + 3, none⟩ = some (.int .i64 (kk + 1 + 1 + 1)) ∧ w'.cell? ⟨b, m * 11 + 4, none⟩ = some (.int .i64 (kk + 1 + 1 + 1 + 1)) ∧ w'.cell? ⟨b, m * 11 + 5, none⟩ = some (.int .i64 (kk + 1 + 1 + 1 + 1 + 1)) ∧ w'.cell? ⟨b, m * 11 + 6, none⟩ = some (.int .i64 (kk + 1 + 1 + 1 + 1 + 1 + 1)) ∧ w'.cell? ⟨b, m * 11 + 7, none⟩ = some (.int .i64 (kk + 1 + 1 + 1 + 1 + 1 + 1 + 1)) ∧ w'.cell? ⟨b, m * 11 + 8, none⟩ = some (.int .i64 (kk + 1 + 1 + 1 + 1 + 1 + 1 + 1 + 1)) ∧ w'.cell? ⟨b, m * 11 + 9, none⟩ = some (.int .i64 (kk + 1 + 1 + 1 + 1 + 1 + 1 + 1 + 1 + 1)) ∧ w'.cell? ⟨b, m * 11 + 10, none⟩ = some (.int .i64 (kk + 1 + 1 + 1 + 1 + 1 + 1 + 1 + 1 + 1 + 1))))
        (first | exact heldK Hr.out g1 bz (bl_drew (Below.refl _ _)) | exact heldK Hr.out g1 bz (bl_trans (bl_drew (Below.refl _ _)) hx))
        (first | (go_at_call 100; refine (markText_any _ (by omega) _).mono ?_; rintro e w' ⟨rfl, hx⟩))
      have y1 : Below wr.heap.size wr w' := bl_trans (bl_drew (Below.refl _ _)) hx
      have g2 := g1.keep bz y1
      have bz2 : b < w'.heap.size := Nat.lt_of_lt_of_le bz y1.size
      have hB2 := bl_trans hB y1
      obtain ⟨c0, c1, -⟩ := (heldK Hr.out g1 bz y1).2
      clear g1 bz hB y1 hx
      obtain ⟨w2, rfl⟩ : ∃ w2 : World, w2 = w' := ⟨_, rfl⟩
      go_wp2_with fail
      clear c0 c1
      go_region_held3 (fun w' => Below w2.heap.size w2 w' ∧ (w'.cell? ⟨b, m * 11, none⟩ = some (.string (markB kk)) ∧ w'.cell? ⟨b, m * 11 + 1, none⟩ = some (.int .i64 (kk + 1)) ∧ w'.cell? ⟨b, m * 11 + 2, none⟩ = some (.string (markB (kk + 1 + 1))) ∧ w'.cell? ⟨b, m * 11 + 3, none⟩ = some (.int .i64 (kk + 1 + 1 + 1)) ∧ w'.cell? ⟨b, m * 11 + 4, none⟩ = some (.int .i64 (kk + 1 + 1 + 1 + 1)) ∧ w'.cell? ⟨b, m * 11 + 5, none⟩ = some (.int .i64 (kk + 1 + 1 + 1 + 1 + 1)) ∧ w'.cell? ⟨b, m * 11 + 6, none⟩ = some (.int .i64 (kk + 1 + 1 + 1 + 1 + 1 + 1)) ∧ w'.cell? ⟨b, m * 11 + 7, none⟩ = some (.int .i64 (kk + 1 + 1 + 1 + 1 + 1 + 1 + 1)) ∧ w'.cell? ⟨b, m * 11 + 8, none⟩ = some (.int .i64 (kk + 1 + 1 + 1 + 1 + 1 + 1 + 1 + 1)) ∧ w'.cell? ⟨b, m * 11 + 9, none⟩ = some (.int .i64 (kk + 1 + 1 + 1 + 1 + 1 + 1 + 1 + 1 + 1)) ∧ w'.cell? ⟨b, m * 11 + 10, none⟩ = some (.int .i64 (kk + 1 + 1 + 1 + 1 + 1 + 1 + 1 + 1 + 1 + 1))))
        (first | exact heldK Hr.out g2 bz2 (bl_drew (Below.refl _ _)) | exact heldK Hr.out g2 bz2 (bl_trans (bl_drew (Below.refl _ _)) hx))
        (first | (go_at_call 100; refine (markText_any _ (by omega) _).mono ?_; rintro e w' ⟨rfl, hx⟩))
      have y2 : Below w2.heap.size w2 w' := bl_trans (bl_drew (Below.refl _ _)) hx
      have hB3 := bl_trans hB2 y2
      obtain ⟨c0, c1, c2, c3, c4, c5, c6, c7, c8, c9, c10⟩ := (heldK Hr.out g2 bz2 y2).2
      clear g2 bz2 hB2 y2 hx
      go_wp2
      exact ⟨⟨m + 1, _, by omega, by go_num, rfl, by have := Hk.out; omega, hB3⟩, by simp [intOf]; omega⟩
    · go_wp2
      go_ret
      have hmn : m = n := by omega
      subst hmn
      exact ⟨by rw [← Hk.out]; rfl, hB⟩
end Go.Proofs.Ytkebokkckmgloaa
/- A list in a row of the call's own, or nil. -/
namespace Go.Proofs.Ytkebokkckmgloaa
open Go.RowKit
set_option linter.unusedVariables false

/-- The value v shows the list l: it is nil and the list empty, or the list lies in a block from B on, which may be written. -/
def Sl (w : World) (v : Value) (l : List RunD) (B : Nat) : Prop := (v = .slice none 0 0 ∧ l = []) ∨ ∃ g cap, v = .slice (some ⟨g, 0, none⟩) l.length cap ∧ B ≤ g ∧ g < w.heap.size ∧ RowsAt w g 0 l ∧ w.there g 0 (l.length * 11)
theorem Sl.of_owns {w : World} {v : Value} {l : List RunD} {B : Nat} (h : w.ownsRow B 38 11 v l.length (flatR l)) : Sl w v l B := rows_of_owns h
theorem Sl.grown {w w' : World} {v : Value} {l : List RunD} {B : Nat} {row : Option Nat} (h : Sl w v l B) (hg : w.grownBy w' row) (hne : v.ownBlock = none ∨ v.ownBlock ≠ row) : Sl w' v l B := by
  rcases h with h | ⟨g, cap, rfl, h1, h2, h3, h4⟩
  · exact Or.inl h
  · have hn : some g ≠ row := by simpa [Value.ownBlock] using hne
    have hc : ∀ o, w'.cell? ⟨g, o, none⟩ = w.cell? ⟨g, o, none⟩ := fun o => World.cell?_of_block (w := w) (a := ⟨g, o, none⟩) (hg.block g h2 hn)
    have hfz : ∀ o, w'.frozen? ⟨g, o, none⟩ = w.frozen? ⟨g, o, none⟩ := fun o => World.frozen?_of_block (w := w) (a := ⟨g, o, none⟩) (hg.block g h2 hn)
    exact Or.inr ⟨g, cap, rfl, h1, Nat.lt_of_lt_of_le h2 hg.size, fun k r hk j v hj => (hc _).trans (h3 k r hk j v hj), fun j hj => ⟨by rw [hc]; exact (h4 j hj).1, by rw [hfz]; exact (h4 j hj).2⟩⟩
theorem Sl.keep {w w' : World} {v : Value} {l : List RunD} {B : Nat} (h : Sl w v l B) (hb : Below w.heap.size w w') : Sl w' v l B :=
  h.grown (row := none) ⟨hb.os, hb.tape, hb.output, hb.size, fun k hk _ => hb.block k hk⟩ (by cases hv : v.ownBlock <;> simp)
theorem Sl.lt {w : World} {v : Value} {l : List RunD} {B : Nat} (h : Sl w v l B) : ∀ g, v.ownBlock = some g → B ≤ g ∧ g < w.heap.size := by
  rcases h with ⟨rfl, -⟩ | ⟨g, cap, rfl, h1, h2, -⟩
  · intro g hg; simp [Value.ownBlock] at hg
  · intro g' hg; simp [Value.ownBlock] at hg; subst hg; exact ⟨h1, h2⟩
theorem ex_grown {w w' : World} {kr : Nat} (h : Ex kr w w') : w.grownBy w' (some kr) := ⟨h.os, h.tape, h.output, h.size, fun k hk hne => h.block k hk (fun e => hne (by rw [e]))⟩

theorem eq_zero (a1 a2 : Option Addr) (c1 c2 : Nat) (w : World) :
    Calls Try.prog 39 #[.slice a1 0 c1, .slice a2 0 c2] w fun e w' => e = .returned (.bool true) ∧ w' = w := by
  go_enter Try.func39, Try.ntmps39
  go_wp2
  refine wp_loop_rounds 1 ?_
  rw [rounds_succ]
  go_wp2
  go_ret
  exact ⟨rfl, rfl⟩
theorem eq_sl {w : World} {v1 v2 : Value} {l : List RunD} {B1 B2 : Nat} (h1 : Sl w v1 l B1) (h2 : Sl w v2 l B2) (hl : l.length ≤ 1048576) :
    Calls Try.prog 39 #[v1, v2] w fun e w' => e = .returned (.bool true) ∧ Below w.heap.size w w' := by
  have z : ∀ (a1 a2 : Option Addr) (c1 c2 : Nat), Calls Try.prog 39 #[.slice a1 0 c1, .slice a2 0 c2] w fun e w' => e = .returned (.bool true) ∧ Below w.heap.size w w' := fun a1 a2 c1 c2 => (eq_zero a1 a2 c1 c2 w).mono (by rintro e w' ⟨rfl, rfl⟩; exact ⟨rfl, Below.refl _ _⟩)
  rcases h1 with ⟨rfl, rfl⟩ | ⟨g1, cap1, rfl, -, k2, k3, -⟩
  · rcases h2 with ⟨rfl, -⟩ | ⟨g2, cap2, rfl, -, m2, m3, -⟩
    · exact z _ _ _ _
    · exact z _ _ _ _
  · rcases h2 with ⟨rfl, rfl⟩ | ⟨g2, cap2, rfl, -, m2, m3, -⟩
    · exact z _ _ _ _
    · exact eqRunS g1 0 cap1 g2 0 cap2 l w k3 m3 k2 m2 hl
theorem mark_zero (a : Option Addr) (c : Nat) (k : Int) (w : World) : Calls Try.prog 42 #[.slice a 0 c, .int .i64 k] w fun e w' => e = .returned (.int .i64 k) ∧ w' = w := by
  go_enter Try.func42, Try.ntmps42
  go_wp2
  refine wp_loop_rounds 1 ?_
  rw [rounds_succ]
  go_wp2
  go_ret
  exact ⟨rfl, rfl⟩
theorem held_zero (a : Option Addr) (c : Nat) (k : Int) (w : World) : Calls Try.prog 43 #[.slice a 0 c, .int .i64 k] w fun e w' => e = .returned (.int .i64 k) ∧ w' = w := by
  go_enter Try.func43, Try.ntmps43
  go_wp2
  refine wp_loop_rounds 1 ?_
  rw [rounds_succ]
  go_wp2
  go_ret
  exact ⟨rfl, rfl⟩
theorem mark_sl {w : World} {v : Value} {l : List RunD} {B : Nat} (h : Sl w v l B) (k0 : Int) (hl : l.length ≤ 1048576) (h0 : 0 ≤ k0) (h1 : k0 ≤ 1000000000) :
    Calls Try.prog 42 #[v, .int .i64 k0] w fun e w' => e = .returned (.int .i64 (k0 + 11 * (l.length : Int))) ∧ Sl w' v (markRuns k0 l.length) B ∧ w.grownBy w' v.ownBlock := by
  rcases h with ⟨rfl, rfl⟩ | ⟨g, cap, rfl, a1, a2, a3, a4⟩
  · refine (mark_zero none 0 k0 w).mono ?_
    rintro e w' ⟨rfl, rfl⟩
    exact ⟨by simp, Or.inl ⟨rfl, rfl⟩, ⟨rfl, rfl, rfl, Nat.le_refl _, fun _ _ _ => rfl⟩⟩
  · refine (markRunS g l.length cap k0 w a4 a2 hl h0 (by omega)).mono ?_
    rintro e w' ⟨rfl, b1, b2, b3⟩
    exact ⟨rfl, Or.inr ⟨g, cap, by rw [len_marks], a1, Nat.lt_of_lt_of_le a2 b3.size, b1, by rw [len_marks]; exact b2⟩, ex_grown b3⟩
theorem held_sl {w : World} {v : Value} {m : Nat} {B : Nat} (k0 : Int) (h : Sl w v (markRuns k0 m) B) (hl : m ≤ 1048576) (h0 : 0 ≤ k0) (h1 : k0 ≤ 1000000000) :
    Calls Try.prog 43 #[v, .int .i64 k0] w fun e w' => e = .returned (.int .i64 (k0 + 11 * (m : Int))) ∧ Below w.heap.size w w' := by
  rcases h with ⟨rfl, h⟩ | ⟨g, cap, rfl, a1, a2, a3, a4⟩
  · have hm : m = 0 := by have := congrArg List.length h; rw [len_marks] at this; simpa using this
    subst hm
    refine (held_zero none 0 k0 w).mono ?_
    rintro e w' ⟨rfl, rfl⟩
    exact ⟨by simp, Below.refl _ _⟩
  · rw [len_marks]
    exact heldRunS g m cap k0 w a3 a2 hl h0 (by omega)
end Go.Proofs.Ytkebokkckmgloaa
/- A list of runs in a row that the call itself made. -/
namespace Go.Proofs.Ytkebokkckmgloaa.A
open Go.RowKit
set_option linter.unusedVariables false

def flatR (rs : List AskD) : List Value := rs.flatMap AskD.cells
theorem flatR_len : ∀ rs : List AskD, (flatR rs).length = rs.length * 4
  | [] => rfl
  | r :: rs => by
    have := flatR_len rs
    simp only [flatR, List.flatMap_cons, List.length_append] at this ⊢
    simp only [this, List.length_cons]
    show 4 + rs.length * 4 = _
    omega
theorem flatR_snoc (rs : List AskD) (r : AskD) : flatR (rs ++ [r]) = flatR rs ++ r.cells := by simp [flatR]
theorem flatR_at : ∀ (rs : List AskD) (k : Nat) (r : AskD), rs[k]? = some r → ∀ j, j < 4 → (flatR rs)[k * 4 + j]? = r.cells[j]?
  | [], k, r, h, j, hj => by simp at h
  | q :: rs, 0, r, h, j, hj => by
    simp at h; subst h
    rw [flatR, List.flatMap_cons, List.getElem?_append_left (by show _ < 4; omega)]
    simp
  | q :: rs, k + 1, r, h, j, hj => by
    have ih := flatR_at rs k r (by simpa using h) j hj
    rw [flatR, List.flatMap_cons, List.getElem?_append_right (by show 4 ≤ _; omega)]
    rw [← ih]
    show (flatR rs)[(k + 1) * 4 + j - 4]? = _
    rw [show (k + 1) * 4 + j - 4 = k * 4 + j from by omega]
theorem flatR_one (rs : List AskD) : ∀ u ∈ flatR rs, u.oneCell' = true := by
  intro u hu
  obtain ⟨r, -, h⟩ := List.mem_flatMap.1 hu
  simp [AskD.cells] at h
  rcases h with rfl | rfl | rfl | rfl <;> rfl

theorem rows_of_owns {w : World} {base : Nat} {v : Value} {rs : List AskD} (h : w.ownsRow base 99 4 v rs.length (flatR rs)) :
    (v = .slice none 0 0 ∧ rs = []) ∨ ∃ g cap, v = .slice (some ⟨g, 0, none⟩) rs.length cap ∧ base ≤ g ∧ g < w.heap.size ∧ RowsAt w g 0 rs ∧ w.there g 0 (rs.length * 4) := by
  obtain ⟨hl, ⟨rfl, hn⟩ | ⟨g, cap, cur, rfl, hb, hg, hnc, hcm, hcs, htk⟩⟩ := h
  · exact Or.inl ⟨rfl, List.length_eq_zero_iff.1 hn⟩
  · refine Or.inr ⟨g, cap, rfl, hb, (Array.getElem?_eq_some_iff.1 hg).1, ?_, ?_⟩
    · intro k r hk j u hj
      have hjn : j < 4 := by
        rcases Nat.lt_or_ge j 4 with h' | h'
        · exact h'
        · rw [List.getElem?_eq_none (by simpa [AskD.cells] using h')] at hj; cases hj
      have hf := flatR_at rs k r hk j hjn
      rw [hj, ← htk, List.getElem?_take] at hf
      split at hf
      · rw [cell_of_row w g _ cur _ (0, 0) hg, Nat.zero_add]
        simpa using hf
      · cases hf
    · intro j hj
      have hlt : j < cur.size := by
        have : rs.length * 4 ≤ cap * 4 := Nat.mul_le_mul_right 4 hnc
        omega
      refine ⟨?_, ?_⟩
      · rw [cell_of_row w g _ cur _ (0, 0) hg, Nat.zero_add]
        simp [Array.getElem?_eq_getElem hlt]
      · simp [World.frozen?, hg]

theorem owns_below {x y : World} {base : Nat} {e : TypeId} {size : Nat} {v : Value} {n : Nat} {xs : List Value} (h : x.ownsRow base e size v n xs) (hb : Below x.heap.size x y) : y.ownsRow base e size v n xs :=
  h.kept (row := none) ⟨hb.os, hb.tape, hb.output, hb.size, fun k hk _ => hb.block k hk⟩ (by cases hv : v.ownBlock <;> simp)
theorem owns_ge {x : World} {base : Nat} {e : TypeId} {size : Nat} {v : Value} {n : Nat} {xs : List Value} (h : x.ownsRow base e size v n xs) : ∀ k, v.ownBlock = some k → base ≤ k := fun k hk => (h.lt k hk).1
theorem new_cells (x : World) (N : Nat) (hN : N = x.heap.size) (arr : Array Value) (t : TypeId) (vs : List Value) (hv : arr.toList = vs) : ∀ j u, vs[j]? = some u → (x.alloc (.cells arr t)).cell? ((⟨N, 0, none⟩ : Addr).add j) = some u := by
  intro j u hj
  subst hN hv
  rw [Addr.add_mid, Nat.zero_add, World.cell?_alloc_new]
  simpa using hj
theorem cellsR_one (r : AskD) : ∀ u ∈ r.cells, u.oneCell' = true := fun u hu => flatR_one [r] u (by simpa [flatR] using hu)
theorem infoR : (Try.prog.info? 99).map (fun i => (i.zero, i.size, i.bytes)) = some (some (.agg #[.string ⟨#[]⟩, .string ⟨#[]⟩, .int .i64 0, .int .i64 0]), 4, 48) := by kernel_rfl
end Go.Proofs.Ytkebokkckmgloaa.A
/- Two lists of the same asks are told to be equal. -/
namespace Go.Proofs.Ytkebokkckmgloaa.A
open Go.RowKit
set_option linter.unusedVariables false

theorem eqAsk_b (h c : ByteArray) (f t : Int) (w : World) :
    Calls Try.prog 152 #[.agg #[.string h, .string c, .int .i64 f, .int .i64 t], .agg #[.string h, .string c, .int .i64 f, .int .i64 t]] w fun e w' => e = .returned (.bool true) ∧ Below w.heap.size w w' := by
  go_enter Try.func152, Try.ntmps152
  go_wp2
  go_ret
  exact ⟨rfl, bl_alloc (bl_alloc (Below.refl _ _) _) _⟩
theorem keepR {x w' : World} {b1 o1 b2 o2 k : Nat} {rs : List AskD} {r : AskD} (hk : rs[k]? = some r) (h1 : RowsAt x b1 o1 rs) (h2 : RowsAt x b2 o2 rs) (l1 : b1 < x.heap.size) (l2 : b2 < x.heap.size) (hb : Below x.heap.size x w') :
    Below x.heap.size x w' ∧ (w'.cell? ⟨b1, o1 + k * 4, none⟩ = some (.string r.h) ∧ w'.cell? ⟨b1, o1 + k * 4 + 1, none⟩ = some (.string r.c) ∧ w'.cell? ⟨b1, o1 + k * 4 + 2, none⟩ = some (.int .i64 r.f) ∧ w'.cell? ⟨b1, o1 + k * 4 + 3, none⟩ = some (.int .i64 r.t)) ∧ (w'.cell? ⟨b2, o2 + k * 4, none⟩ = some (.string r.h) ∧ w'.cell? ⟨b2, o2 + k * 4 + 1, none⟩ = some (.string r.c) ∧ w'.cell? ⟨b2, o2 + k * 4 + 2, none⟩ = some (.int .i64 r.f) ∧ w'.cell? ⟨b2, o2 + k * 4 + 3, none⟩ = some (.int .i64 r.t)) :=
  ⟨hb, (h1.keep l1 hb).at hk, (h2.keep l2 hb).at hk⟩

set_option maxHeartbeats 1000000 in
theorem eqAskS (b1 o1 n1 b2 o2 n2 : Nat) (rs : List AskD) (w : World) (h1 : RowsAt w b1 o1 rs) (h2 : RowsAt w b2 o2 rs) (l1 : b1 < w.heap.size) (l2 : b2 < w.heap.size) (hl : rs.length ≤ 1048576) :
    Calls Try.prog 103 #[.slice (some ⟨b1, o1, none⟩) rs.length n1, .slice (some ⟨b2, o2, none⟩) rs.length n2] w fun e w' => e = .returned (.bool true) ∧ Below w.heap.size w w' := by
  go_enter Try.func103, Try.ntmps103
  go_wp2
  go_loopw [5] (fun i wx => ∃ (k : Nat), k ≤ rs.length ∧ i = .int .i64 k ∧ Below w.heap.size w wx) (fun i _ => rs.length - (intOf i).toNat)
  case atStart => exact ⟨0, Nat.zero_le _, rfl, Below.refl _ _⟩
  case round =>
    obtain ⟨k, hk, rfl, hB⟩ := hrel
    by_cases hlt : k < rs.length
    · obtain ⟨r, hr⟩ : ∃ r, rs[k]? = some r := ⟨rs[k], List.getElem?_eq_getElem hlt⟩
      have Hr : Hid _ := hr
      clear hr
      have g1 := h1.keep l1 hB
      have g2 := h2.keep l2 hB
      have z1 : b1 < wr.heap.size := Nat.lt_of_lt_of_le l1 hB.size
      have z2 : b2 < wr.heap.size := Nat.lt_of_lt_of_le l2 hB.size
      have i0 : (0 : Int) ≤ (k : Int) := by omega
      have i1 : (k : Int) < (rs.length : Int) := by omega
      go_wp2_with fail
      go_region_held3 (fun w' => Below wr.heap.size wr w' ∧ (w'.cell? ⟨b1, o1 + k * 4, none⟩ = some (.string r.h) ∧ w'.cell? ⟨b1, o1 + k * 4 + 1, none⟩ = some (.string r.c) ∧ w'.cell? ⟨b1, o1 + k * 4 + 2, none⟩ = some (.int .i64 r.f) ∧ w'.cell? ⟨b1, o1 + k * 4 + 3, none⟩ = some (.int .i64 r.t)) ∧ (w'.cell? ⟨b2, o2 + k * 4, none⟩ = some (.string r.h) ∧ w'.cell? ⟨b2, o2 + k * 4 + 1, none⟩ = some (.string r.c) ∧ w'.cell? ⟨b2, o2 + k * 4 + 2, none⟩ = some (.int .i64 r.f) ∧ w'.cell? ⟨b2, o2 + k * 4 + 3, none⟩ = some (.int .i64 r.t)))
        (first | exact keepR Hr.out g1 g2 z1 z2 (bl_drew (Below.refl _ _)) | exact keepR Hr.out g1 g2 z1 z2 (bl_trans (bl_drew (Below.refl _ _)) hb))
        (first | (go_at_call 152; refine (eqAsk_b r.h r.c r.f r.t _).mono ?_; rintro e w' ⟨rfl, hb⟩))
      go_wp2
      exact ⟨⟨k + 1, by omega, by go_num, bl_trans hB (bl_trans (bl_drew (Below.refl _ _)) hb)⟩, by simp [intOf]; omega⟩
    · go_wp2
      go_ret
      exact ⟨rfl, hB⟩
end Go.Proofs.Ytkebokkckmgloaa.A
/- A list is marked. -/
namespace Go.Proofs.Ytkebokkckmgloaa.A
open Go.RowKit
set_option linter.unusedVariables false

def markAsk (k : Int) : AskD := { h := markB (k), c := markB (k + 1), f := k + 1 + 1, t := k + 1 + 1 + 1 }
def marks (k : Int) (n : Nat) : List AskD := (List.range n).map (fun (i : Nat) => markAsk (k + 4 * (i : Int)))
theorem row_cells {x : World} {g n k : Nat} (h : x.there g 0 (n * 4)) (hk : k < n) (j : Nat) (hj : j < 4) : (∃ v, x.cell? ⟨g, k * 4 + j, none⟩ = some v) ∧ x.frozen? ⟨g, k * 4 + j, none⟩ = false := by
  have h1 := h (k * 4 + j) (by omega)
  rw [Nat.zero_add] at h1
  exact ⟨Option.isSome_iff_exists.1 h1.1, h1.2⟩
theorem len_marks (k : Int) (n : Nat) : (marks k n).length = n := by simp [marks]
theorem rows_apart {x : World} {g : Nat} {rs : List AskD} (h : RowsAt x g 0 rs) (o : Nat) (hl : rs.length * 4 ≤ o) (vs : List Value) : RowsAt (x.setCells g o vs) g 0 rs :=
  fun j q hj => World.rangeAt_setCells_apart (h j q hj) g o vs (Or.inr (Or.inl (by
    have : j < rs.length := by
      rcases Nat.lt_or_ge j rs.length with h' | h'
      · exact h'
      · rw [List.getElem?_eq_none h'] at hj; cases hj
    show 0 + j * 4 + 4 ≤ o
    omega)))
theorem rows_snoc {x : World} {b m : Nat} {k0 kk : Int} (hk : kk = k0 + 4 * (m : Int)) (h : RowsAt x b 0 (marks k0 m)) (hr : x.rangeAt b (m * 4) (markAsk kk).cells) : RowsAt x b 0 (marks k0 (m + 1)) := by
  intro j q hj
  rw [marks, List.range_succ, List.map_append] at hj
  rcases Nat.lt_or_ge j m with hl | hl
  · rw [List.getElem?_append_left (by simpa using hl)] at hj; exact h j q hj
  · rw [List.getElem?_append_right (by simpa using hl)] at hj
    by_cases e : j = m
    · subst e
      simp at hj
      subst hj
      rw [← hk, Nat.zero_add]
      exact hr
    · rw [List.getElem?_eq_none (by simp; omega)] at hj; cases hj

set_option maxRecDepth 4000 in
set_option maxHeartbeats 1000000 in
theorem markS (b n cap : Nat) (k0 : Int) (w : World) (hth : w.there b 0 (n * 4)) (hb : b < w.heap.size) (hn : n ≤ 1048576) (h0 : 0 ≤ k0) (h1 : k0 ≤ 10000000000) :
    Calls Try.prog 105 #[.slice (some ⟨b, 0, none⟩) n cap, .int .i64 k0] w fun e w' => e = .returned (.int .i64 (k0 + 4 * (n : Int))) ∧ RowsAt w' b 0 (marks k0 n) ∧ w'.there b 0 (n * 4) ∧ Ex b w w' := by
  go_enter Try.func105, Try.ntmps105
  go_wp2
  go_loopw [1, 5] (fun q i wx => ∃ (m : Nat) (kk : Int), m ≤ n ∧ i = .int .i64 m ∧ q = .int .i64 kk ∧ kk = k0 + 4 * (m : Int) ∧ RowsAt wx b 0 (marks k0 m) ∧ wx.there b 0 (n * 4) ∧ Ex b w wx) (fun _ i _ => n - (intOf i).toNat)
  case atStart => exact ⟨0, k0, Nat.zero_le _, rfl, rfl, by simp, fun k r h => by simp [marks] at h, hth, Ex.refl _ _⟩
  case round =>
    obtain ⟨m, kk, hm, rfl, rfl, hkk, hrows, ht, hE⟩ := hrel
    have Hk : Hid _ := hkk
    have k1 : 0 ≤ kk := by omega
    have k2 : kk ≤ 100000000000 := by omega
    clear hkk
    have bz : b < wr.heap.size := Nat.lt_of_lt_of_le hb hE.size
    by_cases hlt : m < n
    · go_wp2_with fail
      refine (markText_any kk (by omega) _).mono ?_
      rintro e w1 ⟨rfl, b1⟩
      have t1 := there_keep2 ht bz b1
      obtain ⟨⟨v0, c0⟩, f0⟩ := row_cells t1 hlt 0 (by omega)
      simp only [Nat.add_zero] at c0 f0
      go_wp2_with fail
      have W2 : World.setCells w1 b (m * 4) [.string (markB kk)] = w1.setCell { block := b, off := m * 4 } (.string (markB kk)) := rfl
      have r1 : (World.setCells w1 b (m * 4) [.string (markB kk)]).rangeAt b (m * 4) [.string (markB kk)] := World.rangeAt_setCells_same w1 b (m * 4) _ (fun j hj => there_part t1 hlt j (by simp at hj; omega))
      have t2 := World.there_setCells t1 b (m * 4) [.string (markB kk)]
      have e1 : Ex b w (World.setCells w1 b (m * 4) [.string (markB kk)]) := (hE.trans (Ex.of_below b1)).cells _ _
      have q1 : RowsAt (World.setCells w1 b (m * 4) [.string (markB kk)]) b 0 (marks k0 m) := rows_apart (hrows.keep bz b1) (m * 4) (by rw [len_marks]; omega) _
      have z1 : b < (World.setCells w1 b (m * 4) [.string (markB kk)]).heap.size := Nat.lt_of_lt_of_le hb e1.size
      rw [W2] at r1 t2 e1 q1 z1
      clear W2 c0 f0 hrows ht hE t1 b1 bz
      refine (markText_any _ (by omega) _).mono ?_
      rintro e w2 ⟨rfl, b2⟩
      have r2 := range_keep r1 z1 b2
      have t3 := there_keep2 t2 z1 b2
      have q2 := q1.keep z1 b2
      have e2 := e1.trans (Ex.of_below b2)
      clear r1 t2 q1 e1 b2 z1
      obtain ⟨⟨v1, c1⟩, f1⟩ := row_cells t3 hlt 1 (by omega)
      obtain ⟨⟨v2, c2⟩, f2⟩ := row_cells t3 hlt 2 (by omega)
      obtain ⟨⟨v3, c3⟩, f3⟩ := row_cells t3 hlt 3 (by omega)
      have T3 : Hid _ := t3
      have R2 : Hid _ := r2
      have Q2 : Hid _ := q2
      have E2 : Hid _ := e2
      clear t3 r2 q2 e2
      go_wp2
      have t3 := T3.out
      have r2 := R2.out
      have q2 := Q2.out
      have e2 := E2.out
      have t4 := World.there_setCells t3 b (m * 4 + 1) [.string (markB (kk + 1)), .int .i64 (kk + 1 + 1), .int .i64 (kk + 1 + 1 + 1)]
      have r3 : (World.setCells w2 b (m * 4 + 1) [.string (markB (kk + 1)), .int .i64 (kk + 1 + 1), .int .i64 (kk + 1 + 1 + 1)]).rangeAt b (m * 4 + 1) [.string (markB (kk + 1)), .int .i64 (kk + 1 + 1), .int .i64 (kk + 1 + 1 + 1)] := World.rangeAt_setCells_same w2 b (m * 4 + 1) _ (fun j hj => by have := there_part t3 hlt (j + 1) (by simp at hj; omega); rwa [show m * 4 + (j + 1) = m * 4 + 1 + j from by omega] at this)
      have r4 := World.rangeAt_setCells_apart r2 b (m * 4 + 1) [.string (markB (kk + 1)), .int .i64 (kk + 1 + 1), .int .i64 (kk + 1 + 1 + 1)] (Or.inr (Or.inl (by simp)))
      have q3 : RowsAt (World.setCells w2 b (m * 4 + 1) [.string (markB (kk + 1)), .int .i64 (kk + 1 + 1), .int .i64 (kk + 1 + 1 + 1)]) b 0 (marks k0 m) := rows_apart q2 (m * 4 + 1) (by rw [len_marks]; omega) _
      have r5 : (World.setCells w2 b (m * 4 + 1) [.string (markB (kk + 1)), .int .i64 (kk + 1 + 1), .int .i64 (kk + 1 + 1 + 1)]).rangeAt b (m * 4) (markAsk kk).cells := range_append r4 r3
      have q4 := rows_snoc Hk.out q3 r5
      have e3 : Ex b w (World.setCells w2 b (m * 4 + 1) [.string (markB (kk + 1)), .int .i64 (kk + 1 + 1), .int .i64 (kk + 1 + 1 + 1)]) := e2.cells _ _
      clear r5 r4 r3 q3 r2 q2 e2 t3
      have W3 : World.setCells w2 b (m * 4 + 1) [.string (markB (kk + 1)), .int .i64 (kk + 1 + 1), .int .i64 (kk + 1 + 1 + 1)] = ((w2.setCell { block := b, off := m * 4 + 1 } (.string (markB (kk + 1)))).setCell { block := b, off := m * 4 + 2 } (.int .i64 (kk + 1 + 1))).setCell { block := b, off := m * 4 + 3 } (.int .i64 (kk + 1 + 1 + 1)) := rfl
      rw [W3] at q4 t4 e3
      clear W3
      exact ⟨⟨m + 1, _, by omega, by go_num, rfl, by have := Hk.out; omega, q4, t4, e3⟩, by simp [intOf]; omega⟩
    · go_wp2
      go_ret
      have hmn : m = n := by omega
      subst hmn
      exact ⟨by rw [← Hk.out]; rfl, hrows, ht, hE⟩
end Go.Proofs.Ytkebokkckmgloaa.A
/- A list of marks is told to be held. -/
namespace Go.Proofs.Ytkebokkckmgloaa.A
open Go.RowKit
set_option linter.unusedVariables false

theorem marks_at (k0 kk : Int) (n m : Nat) (hm : m < n) (hk : kk = k0 + 4 * (m : Int)) : (marks k0 n)[m]? = some (markAsk kk) := by
  subst hk; simp [marks, List.getElem?_range hm]
theorem heldK {x w' : World} {b m : Nat} {kk : Int} {rs : List AskD} (hk : rs[m]? = some (markAsk kk)) (h1 : RowsAt x b 0 rs) (l1 : b < x.heap.size) (hb : Below x.heap.size x w') :
    Below x.heap.size x w' ∧ (w'.cell? ⟨b, m * 4, none⟩ = some (.string (markB kk)) ∧ w'.cell? ⟨b, m * 4 + 1, none⟩ = some (.string (markB (kk + 1))) ∧ w'.cell? ⟨b, m * 4 + 2, none⟩ = some (.int .i64 (kk + 1 + 1)) ∧ w'.cell? ⟨b, m * 4 + 3, none⟩ = some (.int .i64 (kk + 1 + 1 + 1))) := by
  have := (h1.keep l1 hb).at hk
  rw [Nat.zero_add] at this
  exact ⟨hb, this⟩

set_option maxRecDepth 4000 in
set_option maxHeartbeats 2000000 in
theorem heldS (b n cap : Nat) (k0 : Int) (w : World) (hR : RowsAt w b 0 (marks k0 n)) (hb : b < w.heap.size) (hn : n ≤ 1048576) (h0 : 0 ≤ k0) (h1 : k0 ≤ 10000000000) :
    Calls Try.prog 107 #[.slice (some ⟨b, 0, none⟩) n cap, .int .i64 k0] w fun e w' => e = .returned (.int .i64 (k0 + 4 * (n : Int))) ∧ Below w.heap.size w w' := by
  go_enter Try.func107, Try.ntmps107
  go_wp2
  go_loopw [1, 5] (fun q i wx => ∃ (m : Nat) (kk : Int), m ≤ n ∧ i = .int .i64 m ∧ q = .int .i64 kk ∧ kk = k0 + 4 * (m : Int) ∧ Below w.heap.size w wx) (fun _ i _ => n - (intOf i).toNat)
  case atStart => exact ⟨0, k0, Nat.zero_le _, rfl, rfl, by simp, Below.refl _ _⟩
  case round =>
    obtain ⟨m, kk, hm, rfl, rfl, hkk, hB⟩ := hrel
    have Hk : Hid _ := hkk
    have k1 : 0 ≤ kk := by omega
    have k2 : kk ≤ 100000000000 := by omega
    clear hkk
    have bz : b < wr.heap.size := Nat.lt_of_lt_of_le hb hB.size
    by_cases hlt : m < n
    · have Hr : Hid _ := marks_at k0 kk n m hlt Hk.out
      have g1 := hR.keep hb hB
      have i0 : (0 : Int) ≤ (m : Int) := by omega
      have i1 : (m : Int) < (n : Int) := by omega
      go_wp2_with fail
      go_region_held3 (fun w' => Below wr.heap.size wr w' ∧ (w'.cell? ⟨b, m * 4, none⟩ = some (.string (markB kk)) ∧ w'.cell? ⟨b, m * 4 + 1, none⟩ = some (.string (markB (kk + 1))) ∧ w'.cell? ⟨b, m * 4 + 2, none⟩ = some (.int .i64 (kk + 1 + 1)) ∧ w'.cell? ⟨b, m * 4 + 3, none⟩ = some (.int .i64 (kk + 1 + 1 + 1))))
        (first | exact heldK Hr.out g1 bz (bl_drew (Below.refl _ _)) | exact heldK Hr.out g1 bz (bl_trans (bl_drew (Below.refl _ _)) hx))
        (first | (go_at_call 100; refine (markText_any _ (by omega) _).mono ?_; rintro e w' ⟨rfl, hx⟩))
      have y1 : Below wr.heap.size wr w' := bl_trans (bl_drew (Below.refl _ _)) hx
      have g2 := g1.keep bz y1
      have bz2 : b < w'.heap.size := Nat.lt_of_lt_of_le bz y1.size
      have hB2 := bl_trans hB y1
      obtain ⟨c0, c1, c2, c3⟩ := (heldK Hr.out g1 bz y1).2
      clear g1 bz hB y1 hx
      obtain ⟨w2, rfl⟩ : ∃ w2 : World, w2 = w' := ⟨_, rfl⟩
      go_wp2_with fail
      clear c0 c1 c2 c3
      go_region_held3 (fun w' => Below w2.heap.size w2 w' ∧ (w'.cell? ⟨b, m * 4, none⟩ = some (.string (markB kk)) ∧ w'.cell? ⟨b, m * 4 + 1, none⟩ = some (.string (markB (kk + 1))) ∧ w'.cell? ⟨b, m * 4 + 2, none⟩ = some (.int .i64 (kk + 1 + 1)) ∧ w'.cell? ⟨b, m * 4 + 3, none⟩ = some (.int .i64 (kk + 1 + 1 + 1))))
        (first | exact heldK Hr.out g2 bz2 (bl_drew (Below.refl _ _)) | exact heldK Hr.out g2 bz2 (bl_trans (bl_drew (Below.refl _ _)) hx))
        (first | (go_at_call 100; refine (markText_any _ (by omega) _).mono ?_; rintro e w' ⟨rfl, hx⟩))
      have y2 : Below w2.heap.size w2 w' := bl_trans (bl_drew (Below.refl _ _)) hx
      have hB3 := bl_trans hB2 y2
      obtain ⟨c0, c1, c2, c3⟩ := (heldK Hr.out g2 bz2 y2).2
      clear g2 bz2 hB2 y2 hx
      go_wp2
      exact ⟨⟨m + 1, _, by omega, by go_num, rfl, by have := Hk.out; omega, hB3⟩, by simp [intOf]; omega⟩
    · go_wp2
      go_ret
      have hmn : m = n := by omega
      subst hmn
      exact ⟨by rw [← Hk.out]; rfl, hB⟩
end Go.Proofs.Ytkebokkckmgloaa.A
/- A list in a row of the call's own, or nil. -/
namespace Go.Proofs.Ytkebokkckmgloaa.A
open Go.RowKit
set_option linter.unusedVariables false

/-- The value v shows the list l: it is nil and the list empty, or the list lies in a block from B on, which may be written. -/
def Sl (w : World) (v : Value) (l : List AskD) (B : Nat) : Prop := (v = .slice none 0 0 ∧ l = []) ∨ ∃ g cap, v = .slice (some ⟨g, 0, none⟩) l.length cap ∧ B ≤ g ∧ g < w.heap.size ∧ RowsAt w g 0 l ∧ w.there g 0 (l.length * 4)
theorem Sl.of_owns {w : World} {v : Value} {l : List AskD} {B : Nat} (h : w.ownsRow B 99 4 v l.length (flatR l)) : Sl w v l B := rows_of_owns h
theorem Sl.grown {w w' : World} {v : Value} {l : List AskD} {B : Nat} {row : Option Nat} (h : Sl w v l B) (hg : w.grownBy w' row) (hne : v.ownBlock = none ∨ v.ownBlock ≠ row) : Sl w' v l B := by
  rcases h with h | ⟨g, cap, rfl, h1, h2, h3, h4⟩
  · exact Or.inl h
  · have hn : some g ≠ row := by simpa [Value.ownBlock] using hne
    have hc : ∀ o, w'.cell? ⟨g, o, none⟩ = w.cell? ⟨g, o, none⟩ := fun o => World.cell?_of_block (w := w) (a := ⟨g, o, none⟩) (hg.block g h2 hn)
    have hfz : ∀ o, w'.frozen? ⟨g, o, none⟩ = w.frozen? ⟨g, o, none⟩ := fun o => World.frozen?_of_block (w := w) (a := ⟨g, o, none⟩) (hg.block g h2 hn)
    exact Or.inr ⟨g, cap, rfl, h1, Nat.lt_of_lt_of_le h2 hg.size, fun k r hk j v hj => (hc _).trans (h3 k r hk j v hj), fun j hj => ⟨by rw [hc]; exact (h4 j hj).1, by rw [hfz]; exact (h4 j hj).2⟩⟩
theorem Sl.keep {w w' : World} {v : Value} {l : List AskD} {B : Nat} (h : Sl w v l B) (hb : Below w.heap.size w w') : Sl w' v l B :=
  h.grown (row := none) ⟨hb.os, hb.tape, hb.output, hb.size, fun k hk _ => hb.block k hk⟩ (by cases hv : v.ownBlock <;> simp)
theorem Sl.lt {w : World} {v : Value} {l : List AskD} {B : Nat} (h : Sl w v l B) : ∀ g, v.ownBlock = some g → B ≤ g ∧ g < w.heap.size := by
  rcases h with ⟨rfl, -⟩ | ⟨g, cap, rfl, h1, h2, -⟩
  · intro g hg; simp [Value.ownBlock] at hg
  · intro g' hg; simp [Value.ownBlock] at hg; subst hg; exact ⟨h1, h2⟩
theorem ex_grown {w w' : World} {kr : Nat} (h : Ex kr w w') : w.grownBy w' (some kr) := ⟨h.os, h.tape, h.output, h.size, fun k hk hne => h.block k hk (fun e => hne (by rw [e]))⟩

theorem eq_zero (a1 a2 : Option Addr) (c1 c2 : Nat) (w : World) :
    Calls Try.prog 103 #[.slice a1 0 c1, .slice a2 0 c2] w fun e w' => e = .returned (.bool true) ∧ w' = w := by
  go_enter Try.func103, Try.ntmps103
  go_wp2
  refine wp_loop_rounds 1 ?_
  rw [rounds_succ]
  go_wp2
  go_ret
  exact ⟨rfl, rfl⟩
theorem eq_sl {w : World} {v1 v2 : Value} {l : List AskD} {B1 B2 : Nat} (h1 : Sl w v1 l B1) (h2 : Sl w v2 l B2) (hl : l.length ≤ 1048576) :
    Calls Try.prog 103 #[v1, v2] w fun e w' => e = .returned (.bool true) ∧ Below w.heap.size w w' := by
  have z : ∀ (a1 a2 : Option Addr) (c1 c2 : Nat), Calls Try.prog 103 #[.slice a1 0 c1, .slice a2 0 c2] w fun e w' => e = .returned (.bool true) ∧ Below w.heap.size w w' := fun a1 a2 c1 c2 => (eq_zero a1 a2 c1 c2 w).mono (by rintro e w' ⟨rfl, rfl⟩; exact ⟨rfl, Below.refl _ _⟩)
  rcases h1 with ⟨rfl, rfl⟩ | ⟨g1, cap1, rfl, -, k2, k3, -⟩
  · rcases h2 with ⟨rfl, -⟩ | ⟨g2, cap2, rfl, -, m2, m3, -⟩
    · exact z _ _ _ _
    · exact z _ _ _ _
  · rcases h2 with ⟨rfl, rfl⟩ | ⟨g2, cap2, rfl, -, m2, m3, -⟩
    · exact z _ _ _ _
    · exact eqAskS g1 0 cap1 g2 0 cap2 l w k3 m3 k2 m2 hl
theorem mark_zero (a : Option Addr) (c : Nat) (k : Int) (w : World) : Calls Try.prog 105 #[.slice a 0 c, .int .i64 k] w fun e w' => e = .returned (.int .i64 k) ∧ w' = w := by
  go_enter Try.func105, Try.ntmps105
  go_wp2
  refine wp_loop_rounds 1 ?_
  rw [rounds_succ]
  go_wp2
  go_ret
  exact ⟨rfl, rfl⟩
theorem held_zero (a : Option Addr) (c : Nat) (k : Int) (w : World) : Calls Try.prog 107 #[.slice a 0 c, .int .i64 k] w fun e w' => e = .returned (.int .i64 k) ∧ w' = w := by
  go_enter Try.func107, Try.ntmps107
  go_wp2
  refine wp_loop_rounds 1 ?_
  rw [rounds_succ]
  go_wp2
  go_ret
  exact ⟨rfl, rfl⟩
theorem mark_sl {w : World} {v : Value} {l : List AskD} {B : Nat} (h : Sl w v l B) (k0 : Int) (hl : l.length ≤ 1048576) (h0 : 0 ≤ k0) (h1 : k0 ≤ 1000000000) :
    Calls Try.prog 105 #[v, .int .i64 k0] w fun e w' => e = .returned (.int .i64 (k0 + 4 * (l.length : Int))) ∧ Sl w' v (marks k0 l.length) B ∧ w.grownBy w' v.ownBlock := by
  rcases h with ⟨rfl, rfl⟩ | ⟨g, cap, rfl, a1, a2, a3, a4⟩
  · refine (mark_zero none 0 k0 w).mono ?_
    rintro e w' ⟨rfl, rfl⟩
    exact ⟨by simp, Or.inl ⟨rfl, rfl⟩, ⟨rfl, rfl, rfl, Nat.le_refl _, fun _ _ _ => rfl⟩⟩
  · refine (markS g l.length cap k0 w a4 a2 hl h0 (by omega)).mono ?_
    rintro e w' ⟨rfl, b1, b2, b3⟩
    exact ⟨rfl, Or.inr ⟨g, cap, by rw [len_marks], a1, Nat.lt_of_lt_of_le a2 b3.size, b1, by rw [len_marks]; exact b2⟩, ex_grown b3⟩
theorem held_sl {w : World} {v : Value} {m : Nat} {B : Nat} (k0 : Int) (h : Sl w v (marks k0 m) B) (hl : m ≤ 1048576) (h0 : 0 ≤ k0) (h1 : k0 ≤ 1000000000) :
    Calls Try.prog 107 #[v, .int .i64 k0] w fun e w' => e = .returned (.int .i64 (k0 + 4 * (m : Int))) ∧ Below w.heap.size w w' := by
  rcases h with ⟨rfl, h⟩ | ⟨g, cap, rfl, a1, a2, a3, a4⟩
  · have hm : m = 0 := by have := congrArg List.length h; rw [len_marks] at this; simpa using this
    subst hm
    refine (held_zero none 0 k0 w).mono ?_
    rintro e w' ⟨rfl, rfl⟩
    exact ⟨by simp, Below.refl _ _⟩
  · rw [len_marks]
    exact heldS g m cap k0 w a3 a2 hl h0 (by omega)
end Go.Proofs.Ytkebokkckmgloaa.A
