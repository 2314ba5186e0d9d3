import Derived.Test.YtkkcfofhhgmbaaaGreatDoorJ35
import Derived.Laws.AppendOwn
import Derived.Test.YtkkcfofhhgmbaaaGreatDoorJ01
import Derived.Test.YtkkcfofhhgmbaaaGreatDoorJ02
import Derived.Deep.RegionHeld3
import Derived.Laws.Pointers
import Derived.StillTactics
/- A list of runs in a row that the call itself made. -/
namespace Go.Proofs.YtkkcfofhhgmbaaaGreatDoor.W
open Go.RowKit
set_option linter.unusedVariables false

def flatR (rs : List WantD) : List Value := rs.flatMap WantD.cells
theorem flatR_len : ∀ rs : List WantD, (flatR rs).length = rs.length * 7
  | [] => rfl
  | r :: rs => by
    have := flatR_len rs
    simp only [flatR, List.flatMap_cons, List.length_append] at this ⊢
    simp only [this, List.length_cons]
    show 7 + rs.length * 7 = _
    omega
theorem flatR_snoc (rs : List WantD) (r : WantD) : flatR (rs ++ [r]) = flatR rs ++ r.cells := by simp [flatR]
theorem flatR_at : ∀ (rs : List WantD) (k : Nat) (r : WantD), rs[k]? = some r → ∀ j, j < 7 → (flatR rs)[k * 7 + j]? = r.cells[j]?
  | [], k, r, h, j, hj => by simp at h
  | q :: rs, 0, r, h, j, hj => by
    simp at h; subst h
    rw [flatR, List.flatMap_cons, List.getElem?_append_left (by show _ < 7; omega)]
    simp
  | q :: rs, k + 1, r, h, j, hj => by
    have ih := flatR_at rs k r (by simpa using h) j hj
    rw [flatR, List.flatMap_cons, List.getElem?_append_right (by show 7 ≤ _; omega)]
    rw [← ih]
    show (flatR rs)[(k + 1) * 7 + j - 7]? = _
    rw [show (k + 1) * 7 + j - 7 = k * 7 + j from by omega]
theorem flatR_one (rs : List WantD) : ∀ u ∈ flatR rs, u.oneCell' = true := by
  intro u hu
  obtain ⟨r, -, h⟩ := List.mem_flatMap.1 hu
  simp [WantD.cells] at h
  rcases h with rfl | rfl | rfl | rfl | rfl | rfl | rfl <;> rfl

theorem rows_of_owns {w : World} {base : Nat} {v : Value} {rs : List WantD} (h : w.ownsRow base 35 7 v rs.length (flatR rs)) :
    (v = .slice none 0 0 ∧ rs = []) ∨ ∃ g cap, v = .slice (some ⟨g, 0, none⟩) rs.length cap ∧ base ≤ g ∧ g < w.heap.size ∧ RowsAt w g 0 rs ∧ w.there g 0 (rs.length * 7) := by
  obtain ⟨hl, ⟨rfl, hn⟩ | ⟨g, cap, cur, rfl, hb, hg, hnc, hcm, hcs, htk⟩⟩ := h
  · exact Or.inl ⟨rfl, List.length_eq_zero_iff.1 hn⟩
  · refine Or.inr ⟨g, cap, rfl, hb, (Array.getElem?_eq_some_iff.1 hg).1, ?_, ?_⟩
    · intro k r hk j u hj
      have hjn : j < 7 := by
        rcases Nat.lt_or_ge j 7 with h' | h'
        · exact h'
        · rw [List.getElem?_eq_none (by simpa [WantD.cells] using h')] at hj; cases hj
      have hf := flatR_at rs k r hk j hjn
      rw [hj, ← htk, List.getElem?_take] at hf
      split at hf
      · rw [cell_of_row w g _ cur _ (0, 0) hg, Nat.zero_add]
        simpa using hf
      · cases hf
    · intro j hj
      have hlt : j < cur.size := by
        have : rs.length * 7 ≤ cap * 7 := Nat.mul_le_mul_right 7 hnc
        omega
      refine ⟨?_, ?_⟩
      · rw [cell_of_row w g _ cur _ (0, 0) hg, Nat.zero_add]
        simp [Array.getElem?_eq_getElem hlt]
      · simp [World.frozen?, hg]

theorem owns_below {x y : World} {base : Nat} {e : TypeId} {size : Nat} {v : Value} {n : Nat} {xs : List Value} (h : x.ownsRow base e size v n xs) (hb : Below x.heap.size x y) : y.ownsRow base e size v n xs :=
  h.kept (row := none) ⟨hb.os, hb.tape, hb.output, hb.size, fun k hk _ => hb.block k hk⟩ (by cases hv : v.ownBlock <;> simp)
theorem owns_ge {x : World} {base : Nat} {e : TypeId} {size : Nat} {v : Value} {n : Nat} {xs : List Value} (h : x.ownsRow base e size v n xs) : ∀ k, v.ownBlock = some k → base ≤ k := fun k hk => (h.lt k hk).1
theorem new_cells (x : World) (N : Nat) (hN : N = x.heap.size) (arr : Array Value) (t : TypeId) (vs : List Value) (hv : arr.toList = vs) : ∀ j u, vs[j]? = some u → (x.alloc (.cells arr t)).cell? ((⟨N, 0, none⟩ : Addr).add j) = some u := by
  intro j u hj
  subst hN hv
  rw [Addr.add_mid, Nat.zero_add, World.cell?_alloc_new]
  simpa using hj
theorem cellsR_one (r : WantD) : ∀ u ∈ r.cells, u.oneCell' = true := fun u hu => flatR_one [r] u (by simpa [flatR] using hu)
theorem infoR : (Tryz.prog.info? 35).map (fun i => (i.zero, i.size, i.bytes)) = some (some (.agg #[.string ⟨#[]⟩, .int .i64 0, .string ⟨#[]⟩, .int .i64 0, .int .i64 0, .int .i64 0, .int .i64 0]), 7, 72) := by kernel_rfl
end Go.Proofs.YtkkcfofhhgmbaaaGreatDoor.W
/- Equal wants and runs are told to be equal. -/
namespace Go.Proofs.YtkkcfofhhgmbaaaGreatDoor
open Go.RowKit

theorem eqWant_same (c h : ByteArray) (v p s d g : Int) (w : World) :
    Calls Tryz.prog 30 #[.agg #[.string c, .int .i64 v, .string h, .int .i64 p, .int .i64 s, .int .i64 d, .int .i64 g], .agg #[.string c, .int .i64 v, .string h, .int .i64 p, .int .i64 s, .int .i64 d, .int .i64 g]] w fun e w' => e = .returned (.bool true) ∧
      w' = (w.alloc (.cells #[.string c, .int .i64 v, .string h, .int .i64 p, .int .i64 s, .int .i64 d, .int .i64 g] 35)).alloc (.cells #[.string c, .int .i64 v, .string h, .int .i64 p, .int .i64 s, .int .i64 d, .int .i64 g] 35) := by
  go_enter Tryz.func30, Tryz.ntmps30
  go_wp2
  go_ret
  exact ⟨rfl, rfl⟩

end Go.Proofs.YtkkcfofhhgmbaaaGreatDoor
/- Two lists of the same wants are told to be equal. -/
namespace Go.Proofs.YtkkcfofhhgmbaaaGreatDoor.W
open Go.RowKit
set_option linter.unusedVariables false

theorem eqWant_b (c h : ByteArray) (v p s d g : Int) (w : World) :
    Calls Tryz.prog 30 #[.agg #[.string c, .int .i64 v, .string h, .int .i64 p, .int .i64 s, .int .i64 d, .int .i64 g], .agg #[.string c, .int .i64 v, .string h, .int .i64 p, .int .i64 s, .int .i64 d, .int .i64 g]] w fun e w' => e = .returned (.bool true) ∧ Below w.heap.size w w' := by
  refine (eqWant_same c h v p s d g w).mono ?_
  rintro e w' ⟨rfl, rfl⟩
  exact ⟨rfl, bl_alloc (bl_alloc (Below.refl _ _) _) _⟩
theorem keepR {x w' : World} {b1 o1 b2 o2 k : Nat} {rs : List WantD} {r : WantD} (hk : rs[k]? = some r) (h1 : RowsAt x b1 o1 rs) (h2 : RowsAt x b2 o2 rs) (l1 : b1 < x.heap.size) (l2 : b2 < x.heap.size) (hb : Below x.heap.size x w') :
    Below x.heap.size x w' ∧ (w'.cell? ⟨b1, o1 + k * 7, none⟩ = some (.string r.c) ∧ w'.cell? ⟨b1, o1 + k * 7 + 1, none⟩ = some (.int .i64 r.v) ∧ w'.cell? ⟨b1, o1 + k * 7 + 2, none⟩ = some (.string r.h) ∧ w'.cell? ⟨b1, o1 + k * 7 + 3, none⟩ = some (.int .i64 r.p) ∧ w'.cell? ⟨b1, o1 + k * 7 + 4, none⟩ = some (.int .i64 r.s) ∧ w'.cell? ⟨b1, o1 + k * 7 + 5, none⟩ = some (.int .i64 r.d) ∧ w'.cell? ⟨b1, o1 + k * 7 + 6, none⟩ = some (.int .i64 r.g)) ∧ (w'.cell? ⟨b2, o2 + k * 7, none⟩ = some (.string r.c) ∧ w'.cell? ⟨b2, o2 + k * 7 + 1, none⟩ = some (.int .i64 r.v) ∧ w'.cell? ⟨b2, o2 + k * 7 + 2, none⟩ = some (.string r.h) ∧ w'.cell? ⟨b2, o2 + k * 7 + 3, none⟩ = some (.int .i64 r.p) ∧ w'.cell? ⟨b2, o2 + k * 7 + 4, none⟩ = some (.int .i64 r.s) ∧ w'.cell? ⟨b2, o2 + k * 7 + 5, none⟩ = some (.int .i64 r.d) ∧ w'.cell? ⟨b2, o2 + k * 7 + 6, none⟩ = some (.int .i64 r.g)) :=
  ⟨hb, (h1.keep l1 hb).at hk, (h2.keep l2 hb).at hk⟩

set_option maxHeartbeats 1000000 in
theorem eqWantS (b1 o1 n1 b2 o2 n2 : Nat) (rs : List WantD) (w : World) (h1 : RowsAt w b1 o1 rs) (h2 : RowsAt w b2 o2 rs) (l1 : b1 < w.heap.size) (l2 : b2 < w.heap.size) (hl : rs.length ≤ 1048576) :
    Calls Tryz.prog 15 #[.slice (some ⟨b1, o1, none⟩) rs.length n1, .slice (some ⟨b2, o2, none⟩) rs.length n2] w fun e w' => e = .returned (.bool true) ∧ Below w.heap.size w w' := by
  go_enter Tryz.func15, Tryz.ntmps15
  go_wp2
  go_loopw [5] (fun i wx => ∃ (k : Nat), k ≤ rs.length ∧ i = .int .i64 k ∧ Below w.heap.size w wx) (fun i _ => rs.length - (intOf i).toNat)
  case atStart => exact ⟨0, Nat.zero_le _, rfl, Below.refl _ _⟩
  case round =>
    obtain ⟨k, hk, rfl, hB⟩ := hrel
    by_cases hlt : k < rs.length
    · obtain ⟨r, hr⟩ : ∃ r, rs[k]? = some r := ⟨rs[k], List.getElem?_eq_getElem hlt⟩
      have Hr : Hid _ := hr
      clear hr
      have g1 := h1.keep l1 hB
      have g2 := h2.keep l2 hB
      have z1 : b1 < wr.heap.size := Nat.lt_of_lt_of_le l1 hB.size
      have z2 : b2 < wr.heap.size := Nat.lt_of_lt_of_le l2 hB.size
      have i0 : (0 : Int) ≤ (k : Int) := by omega
      have i1 : (k : Int) < (rs.length : Int) := by omega
      go_wp2_with fail
      go_region_held3 (fun w' => Below wr.heap.size wr w' ∧ (w'.cell? ⟨b1, o1 + k * 7, none⟩ = some (.string r.c) ∧ w'.cell? ⟨b1, o1 + k * 7 + 1, none⟩ = some (.int .i64 r.v) ∧ w'.cell? ⟨b1, o1 + k * 7 + 2, none⟩ = some (.string r.h) ∧ w'.cell? ⟨b1, o1 + k * 7 + 3, none⟩ = some (.int .i64 r.p) ∧ w'.cell? ⟨b1, o1 + k * 7 + 4, none⟩ = some (.int .i64 r.s) ∧ w'.cell? ⟨b1, o1 + k * 7 + 5, none⟩ = some (.int .i64 r.d) ∧ w'.cell? ⟨b1, o1 + k * 7 + 6, none⟩ = some (.int .i64 r.g)) ∧ (w'.cell? ⟨b2, o2 + k * 7, none⟩ = some (.string r.c) ∧ w'.cell? ⟨b2, o2 + k * 7 + 1, none⟩ = some (.int .i64 r.v) ∧ w'.cell? ⟨b2, o2 + k * 7 + 2, none⟩ = some (.string r.h) ∧ w'.cell? ⟨b2, o2 + k * 7 + 3, none⟩ = some (.int .i64 r.p) ∧ w'.cell? ⟨b2, o2 + k * 7 + 4, none⟩ = some (.int .i64 r.s) ∧ w'.cell? ⟨b2, o2 + k * 7 + 5, none⟩ = some (.int .i64 r.d) ∧ w'.cell? ⟨b2, o2 + k * 7 + 6, none⟩ = some (.int .i64 r.g)))
        (first | exact keepR Hr.out g1 g2 z1 z2 (bl_drew (Below.refl _ _)) | exact keepR Hr.out g1 g2 z1 z2 (bl_trans (bl_drew (Below.refl _ _)) hb))
        (first | (go_at_call 30; refine (eqWant_b r.c r.h r.v r.p r.s r.d r.g _).mono ?_; rintro e w' ⟨rfl, hb⟩))
      go_wp2
      exact ⟨⟨k + 1, by omega, by go_num, bl_trans hB (bl_trans (bl_drew (Below.refl _ _)) hb)⟩, by simp [intOf]; omega⟩
    · go_wp2
      go_ret
      exact ⟨rfl, hB⟩
end Go.Proofs.YtkkcfofhhgmbaaaGreatDoor.W
/- A list is marked. -/
namespace Go.Proofs.YtkkcfofhhgmbaaaGreatDoor.W
open Go.RowKit
set_option linter.unusedVariables false

def markWant (k : Int) : WantD := { c := markB (k), v := k + 1, h := markB (k + 1 + 1), p := k + 1 + 1 + 1, s := k + 1 + 1 + 1 + 1, d := k + 1 + 1 + 1 + 1 + 1, g := k + 1 + 1 + 1 + 1 + 1 + 1 }
def marks (k : Int) (n : Nat) : List WantD := (List.range n).map (fun (i : Nat) => markWant (k + 7 * (i : Int)))
theorem row_cells {x : World} {g n k : Nat} (h : x.there g 0 (n * 7)) (hk : k < n) (j : Nat) (hj : j < 7) : (∃ v, x.cell? ⟨g, k * 7 + j, none⟩ = some v) ∧ x.frozen? ⟨g, k * 7 + j, none⟩ = false := by
  have h1 := h (k * 7 + j) (by omega)
  rw [Nat.zero_add] at h1
  exact ⟨Option.isSome_iff_exists.1 h1.1, h1.2⟩
theorem len_marks (k : Int) (n : Nat) : (marks k n).length = n := by simp [marks]
theorem rows_apart {x : World} {g : Nat} {rs : List WantD} (h : RowsAt x g 0 rs) (o : Nat) (hl : rs.length * 7 ≤ o) (vs : List Value) : RowsAt (x.setCells g o vs) g 0 rs :=
  fun j q hj => World.rangeAt_setCells_apart (h j q hj) g o vs (Or.inr (Or.inl (by
    have : j < rs.length := by
      rcases Nat.lt_or_ge j rs.length with h' | h'
      · exact h'
      · rw [List.getElem?_eq_none h'] at hj; cases hj
    show 0 + j * 7 + 7 ≤ o
    omega)))
theorem rows_snoc {x : World} {b m : Nat} {k0 kk : Int} (hk : kk = k0 + 7 * (m : Int)) (h : RowsAt x b 0 (marks k0 m)) (hr : x.rangeAt b (m * 7) (markWant kk).cells) : RowsAt x b 0 (marks k0 (m + 1)) := by
  intro j q hj
  rw [marks, List.range_succ, List.map_append] at hj
  rcases Nat.lt_or_ge j m with hl | hl
  · rw [List.getElem?_append_left (by simpa using hl)] at hj; exact h j q hj
  · rw [List.getElem?_append_right (by simpa using hl)] at hj
    by_cases e : j = m
    · subst e
      simp at hj
      subst hj
      rw [← hk, Nat.zero_add]
      exact hr
    · rw [List.getElem?_eq_none (by simp; omega)] at hj; cases hj

set_option maxRecDepth 4000 in
set_option maxHeartbeats 1000000 in
theorem markS (b n cap : Nat) (k0 : Int) (w : World) (hth : w.there b 0 (n * 7)) (hb : b < w.heap.size) (hn : n ≤ 1048576) (h0 : 0 ≤ k0) (h1 : k0 ≤ 10000000000) :
    Calls Tryz.prog 16 #[.slice (some ⟨b, 0, none⟩) n cap, .int .i64 k0] w fun e w' => e = .returned (.int .i64 (k0 + 7 * (n : Int))) ∧ RowsAt w' b 0 (marks k0 n) ∧ w'.there b 0 (n * 7) ∧ Ex b w w' := by
  go_enter Tryz.func16, Tryz.ntmps16
  go_wp2
  go_loopw [1, 5] (fun q i wx => ∃ (m : Nat) (kk : Int), m ≤ n ∧ i = .int .i64 m ∧ q = .int .i64 kk ∧ kk = k0 + 7 * (m : Int) ∧ RowsAt wx b 0 (marks k0 m) ∧ wx.there b 0 (n * 7) ∧ Ex b w wx) (fun _ i _ => n - (intOf i).toNat)
  case atStart => exact ⟨0, k0, Nat.zero_le _, rfl, rfl, by simp, fun k r h => by simp [marks] at h, hth, Ex.refl _ _⟩
  case round =>
    obtain ⟨m, kk, hm, rfl, rfl, hkk, hrows, ht, hE⟩ := hrel
    have Hk : Hid _ := hkk
    have k1 : 0 ≤ kk := by omega
    have k2 : kk ≤ 100000000000 := by omega
    clear hkk
    have bz : b < wr.heap.size := Nat.lt_of_lt_of_le hb hE.size
    by_cases hlt : m < n
    · go_wp2_with fail
      refine (markText_any kk (by omega) _).mono ?_
      rintro e w1 ⟨rfl, b1⟩
      have t1 := there_keep2 ht bz b1
      obtain ⟨⟨v0, c0⟩, f0⟩ := row_cells t1 hlt 0 (by omega)
      obtain ⟨⟨v1, c1⟩, f1⟩ := row_cells t1 hlt 1 (by omega)
      simp only [Nat.add_zero] at c0 f0
      go_wp2_with fail
      have W2 : World.setCells w1 b (m * 7) [.string (markB kk), .int .i64 (kk + 1)] = (w1.setCell { block := b, off := m * 7 } (.string (markB kk))).setCell { block := b, off := m * 7 + 1 } (.int .i64 (kk + 1)) := rfl
      have r1 : (World.setCells w1 b (m * 7) [.string (markB kk), .int .i64 (kk + 1)]).rangeAt b (m * 7) [.string (markB kk), .int .i64 (kk + 1)] := World.rangeAt_setCells_same w1 b (m * 7) _ (fun j hj => there_part t1 hlt j (by simp at hj; omega))
      have t2 := World.there_setCells t1 b (m * 7) [.string (markB kk), .int .i64 (kk + 1)]
      have e1 : Ex b w (World.setCells w1 b (m * 7) [.string (markB kk), .int .i64 (kk + 1)]) := (hE.trans (Ex.of_below b1)).cells _ _
      have q1 : RowsAt (World.setCells w1 b (m * 7) [.string (markB kk), .int .i64 (kk + 1)]) b 0 (marks k0 m) := rows_apart (hrows.keep bz b1) (m * 7) (by rw [len_marks]; omega) _
      have z1 : b < (World.setCells w1 b (m * 7) [.string (markB kk), .int .i64 (kk + 1)]).heap.size := Nat.lt_of_lt_of_le hb e1.size
      rw [W2] at r1 t2 e1 q1 z1
      clear W2 c0 f0 c1 f1 hrows ht hE t1 b1 bz
      refine (markText_any _ (by omega) _).mono ?_
      rintro e w2 ⟨rfl, b2⟩
      have r2 := range_keep r1 z1 b2
      have t3 := there_keep2 t2 z1 b2
      have q2 := q1.keep z1 b2
      have e2 := e1.trans (Ex.of_below b2)
      clear r1 t2 q1 e1 b2 z1
      obtain ⟨⟨v2, c2⟩, f2⟩ := row_cells t3 hlt 2 (by omega)
      obtain ⟨⟨v3, c3⟩, f3⟩ := row_cells t3 hlt 3 (by omega)
      obtain ⟨⟨v4, c4⟩, f4⟩ := row_cells t3 hlt 4 (by omega)
      obtain ⟨⟨v5, c5⟩, f5⟩ := row_cells t3 hlt 5 (by omega)
      obtain ⟨⟨v6, c6⟩, f6⟩ := row_cells t3 hlt 6 (by omega)
      have T3 : Hid _ := t3
      have R2 : Hid _ := r2
      have Q2 : Hid _ := q2
      have E2 : Hid _ := e2
      clear t3 r2 q2 e2
      go_wp2
      have t3 := T3.out
      have r2 := R2.out
      have q2 := Q2.out
      have e2 := E2.out
      have t4 := World.there_setCells t3 b (m * 7 + 2) [.string (markB (kk + 1 + 1)), .int .i64 (kk + 1 + 1 + 1), .int .i64 (kk + 1 + 1 + 1 + 1), .int .i64 (kk + 1 + 1 + 1 + 1 + 1), .int .i64 (kk + 1 + 1 + 1 + 1 + 1 + 1)]
      have r3 : (World.setCells w2 b (m * 7 + 2) [.string (markB (kk + 1 + 1)), .int .i64 (kk + 1 + 1 + 1), .int .i64 (kk + 1 + 1 + 1 + 1), .int .i64 (kk + 1 + 1 + 1 + 1 + 1), .int .i64 (kk + 1 + 1 + 1 + 1 + 1 + 1)]).rangeAt b (m * 7 + 2) [.string (markB (kk + 1 + 1)), .int .i64 (kk + 1 + 1 + 1), .int .i64 (kk + 1 + 1 + 1 + 1), .int .i64 (kk + 1 + 1 + 1 + 1 + 1), .int .i64 (kk + 1 + 1 + 1 + 1 + 1 + 1)] := World.rangeAt_setCells_same w2 b (m * 7 + 2) _ (fun j hj => by have := there_part t3 hlt (j + 2) (by simp at hj; omega); rwa [show m * 7 + (j + 2) = m * 7 + 2 + j from by omega] at this)
      have r4 := World.rangeAt_setCells_apart r2 b (m * 7 + 2) [.string (markB (kk + 1 + 1)), .int .i64 (kk + 1 + 1 + 1), .int .i64 (kk + 1 + 1 + 1 + 1), .int .i64 (kk + 1 + 1 + 1 + 1 + 1), .int .i64 (kk + 1 + 1 + 1 + 1 + 1 + 1)] (Or.inr (Or.inl (by simp)))
      have q3 : RowsAt (World.setCells w2 b (m * 7 + 2) [.string (markB (kk + 1 + 1)), .int .i64 (kk + 1 + 1 + 1), .int .i64 (kk + 1 + 1 + 1 + 1), .int .i64 (kk + 1 + 1 + 1 + 1 + 1), .int .i64 (kk + 1 + 1 + 1 + 1 + 1 + 1)]) b 0 (marks k0 m) := rows_apart q2 (m * 7 + 2) (by rw [len_marks]; omega) _
      have r5 : (World.setCells w2 b (m * 7 + 2) [.string (markB (kk + 1 + 1)), .int .i64 (kk + 1 + 1 + 1), .int .i64 (kk + 1 + 1 + 1 + 1), .int .i64 (kk + 1 + 1 + 1 + 1 + 1), .int .i64 (kk + 1 + 1 + 1 + 1 + 1 + 1)]).rangeAt b (m * 7) (markWant kk).cells := range_append r4 r3
      have q4 := rows_snoc Hk.out q3 r5
      have e3 : Ex b w (World.setCells w2 b (m * 7 + 2) [.string (markB (kk + 1 + 1)), .int .i64 (kk + 1 + 1 + 1), .int .i64 (kk + 1 + 1 + 1 + 1), .int .i64 (kk + 1 + 1 + 1 + 1 + 1), .int .i64 (kk + 1 + 1 + 1 + 1 + 1 + 1)]) := e2.cells _ _
      clear r5 r4 r3 q3 r2 q2 e2 t3
      have W3 : World.setCells w2 b (m * 7 + 2) [.string (markB (kk + 1 + 1)), .int .i64 (kk + 1 + 1 + 1), .int .i64 (kk + 1 + 1 + 1 + 1), .int .i64 (kk + 1 + 1 + 1 + 1 + 1), .int .i64 (kk + 1 + 1 + 1 + 1 + 1 + 1)] = ((((w2.setCell { block := b, off := m * 7 + 2 } (.string (markB (kk + 1 + 1)))).setCell { block := b, off := m * 7 + 3 } (.int .i64 (kk + 1 + 1 + 1))).setCell { block := b, off := m * 7 + 4 } (.int .i64 (kk + 1 + 1 + 1 + 1))).setCell { block := b, off := m * 7 + 5 } (.int .i64 (kk + 1 + 1 + 1 + 1 + 1))).setCell { block := b, off := m * 7 + 6 } (.int .i64 (kk + 1 + 1 + 1 + 1 + 1 + 1)) := rfl
      rw [W3] at q4 t4 e3
      clear W3
      exact ⟨⟨m + 1, _, by omega, by go_num, rfl, by have := Hk.out; omega, q4, t4, e3⟩, by simp [intOf]; omega⟩
    · go_wp2
      go_ret
      have hmn : m = n := by omega
      subst hmn
      exact ⟨by rw [← Hk.out]; rfl, hrows, ht, hE⟩
end Go.Proofs.YtkkcfofhhgmbaaaGreatDoor.W
/- A list of marks is told to be held. -/
namespace Go.Proofs.YtkkcfofhhgmbaaaGreatDoor.W
open Go.RowKit
set_option linter.unusedVariables false

theorem marks_at (k0 kk : Int) (n m : Nat) (hm : m < n) (hk : kk = k0 + 7 * (m : Int)) : (marks k0 n)[m]? = some (markWant kk) := by
  subst hk; simp [marks, List.getElem?_range hm]
theorem heldK {x w' : World} {b m : Nat} {kk : Int} {rs : List WantD} (hk : rs[m]? = some (markWant kk)) (h1 : RowsAt x b 0 rs) (l1 : b < x.heap.size) (hb : Below x.heap.size x w') :
    Below x.heap.size x w' ∧ (w'.cell? ⟨b, m * 7, none⟩ = some (.string (markB kk)) ∧ w'.cell? ⟨b, m * 7 + 1, none⟩ = some (.int .i64 (kk + 1)) ∧ w'.cell? ⟨b, m * 7 + 2, none⟩ = some (.string (markB (kk + 1 + 1))) ∧ w'.cell? ⟨b, m * 7 + 3, none⟩ = some (.int .i64 (kk + 1 + 1 + 1)) ∧ w'.cell? ⟨b, m * 7 + 4, none⟩ = some (.int .i64 (kk + 1 + 1 + 1 + 1)) ∧ w'.cell? ⟨b, m * 7 + 5, none⟩ = some (.int .i64 (kk + 1 + 1 + 1 + 1 + 1)) ∧ w'.cell? ⟨b, m * 7 + 6, none⟩ = some (.int .i64 (kk + 1 + 1 + 1 + 1 + 1 + 1))) := by
  have := (h1.keep l1 hb).at hk
  rw [Nat.zero_add] at this
  exact ⟨hb, this⟩

set_option maxRecDepth 4000 in
set_option maxHeartbeats 2000000 in
theorem heldS (b n cap : Nat) (k0 : Int) (w : World) (hR : RowsAt w b 0 (marks k0 n)) (hb : b < w.heap.size) (hn : n ≤ 1048576) (h0 : 0 ≤ k0) (h1 : k0 ≤ 10000000000) :
    Calls Tryz.prog 17 #[.slice (some ⟨b, 0, none⟩) n cap, .int .i64 k0] w fun e w' => e = .returned (.int .i64 (k0 + 7 * (n : Int))) ∧ Below w.heap.size w w' := by
  go_enter Tryz.func17, Tryz.ntmps17
  go_wp2
  go_loopw [1, 5] (fun q i wx => ∃ (m : Nat) (kk : Int), m ≤ n ∧ i = .int .i64 m ∧ q = .int .i64 kk ∧ kk = k0 + 7 * (m : Int) ∧ Below w.heap.size w wx) (fun _ i _ => n - (intOf i).toNat)
  case atStart => exact ⟨0, k0, Nat.zero_le _, rfl, rfl, by simp, Below.refl _ _⟩
  case round =>
    obtain ⟨m, kk, hm, rfl, rfl, hkk, hB⟩ := hrel
    have Hk : Hid _ := hkk
    have k1 : 0 ≤ kk := by omega
    have k2 : kk ≤ 100000000000 := by omega
    clear hkk
    have bz : b < wr.heap.size := Nat.lt_of_lt_of_le hb hB.size
    by_cases hlt : m < n
    · have Hr : Hid _ := marks_at k0 kk n m hlt Hk.out
      have g1 := hR.keep hb hB
      have i0 : (0 : Int) ≤ (m : Int) := by omega
      have i1 : (m : Int) < (n : Int) := by omega
      go_wp2_with fail
      go_region_held3 (fun w' => Below wr.heap.size wr w' ∧ (w'.cell? ⟨b, m * 7, none⟩ = some (.string (markB kk)) ∧ w'.cell? ⟨b, m * 7 + 1, none⟩ = some (.int .i64 (kk + 1)) ∧ w'.cell? ⟨b, m * 7 + 2, none⟩ = some (.string (markB (kk + 1 + 1))) ∧ w'.cell? ⟨b, m * 7 + 3, none⟩ = some (.int .i64 (kk + 1 + 1 + 1)) ∧ w'.cell? ⟨b, m * 7 + 4, none⟩ = some (.int .i64 (kk + 1 + 1 + 1 + 1)) ∧ w'.cell? ⟨b, m * 7 + 5, none⟩ = some (.int .i64 (kk + 1 + 1 + 1 + 1 + 1)) ∧ w'.cell? ⟨b, m * 7 + 6, none⟩ = some (.int .i64 (kk + 1 + 1 + 1 + 1 + 1 + 1))))
        (first | exact heldK Hr.out g1 bz (bl_drew (Below.refl _ _)) | exact heldK Hr.out g1 bz (bl_trans (bl_drew (Below.refl _ _)) hx))
        (first | (go_at_call 31; refine (markText_any _ (by omega) _).mono ?_; rintro e w' ⟨rfl, hx⟩))
      have y1 : Below wr.heap.size wr w' := bl_trans (bl_drew (Below.refl _ _)) hx
      have g2 := g1.keep bz y1
      have bz2 : b < w'.heap.size := Nat.lt_of_lt_of_le bz y1.size
      have hB2 := bl_trans hB y1
      obtain ⟨c0, c1, c2, c3, c4, c5, c6⟩ := (heldK Hr.out g1 bz y1).2
      clear g1 bz hB y1 hx
      obtain ⟨w2, rfl⟩ : ∃ w2 : World, w2 = w' := ⟨_, rfl⟩
      go_wp2_with fail
      clear c0 c1 c2 c3 c4 c5 c6
      go_region_held3 (fun w' => Below w2.heap.size w2 w' ∧ (w'.cell? ⟨b, m * 7, none⟩ = some (.string (markB kk)) ∧ w'.cell? ⟨b, m * 7 + 1, none⟩ = some (.int .i64 (kk + 1)) ∧ w'.cell? ⟨b, m * 7 + 2, none⟩ = some (.string (markB (kk + 1 + 1))) ∧ w'.cell? ⟨b, m * 7 + 3, none⟩ = some (.int .i64 (kk + 1 + 1 + 1)) ∧ w'.cell? ⟨b, m * 7 + 4, none⟩ = some (.int .i64 (kk + 1 + 1 + 1 + 1)) ∧ w'.cell? ⟨b, m * 7 + 5, none⟩ = some (.int .i64 (kk + 1 + 1 + 1 + 1 + 1)) ∧ w'.cell? ⟨b, m * 7 + 6, none⟩ = some (.int .i64 (kk + 1 + 1 + 1 + 1 + 1 + 1))))
        (first | exact heldK Hr.out g2 bz2 (bl_drew (Below.refl _ _)) | exact heldK Hr.out g2 bz2 (bl_trans (bl_drew (Below.refl _ _)) hx))
        (first | (go_at_call 31; refine (markText_any _ (by omega) _).mono ?_; rintro e w' ⟨rfl, hx⟩))
      have y2 : Below w2.heap.size w2 w' := bl_trans (bl_drew (Below.refl _ _)) hx
      have hB3 := bl_trans hB2 y2
      obtain ⟨c0, c1, c2, c3, c4, c5, c6⟩ := (heldK Hr.out g2 bz2 y2).2
      clear g2 bz2 hB2 y2 hx
      go_wp2
      exact ⟨⟨m + 1, _, by omega, by go_num, rfl, by have := Hk.out; omega, hB3⟩, by simp [intOf]; omega⟩
    · go_wp2
      go_ret
      have hmn : m = n := by omega
      subst hmn
      exact ⟨by rw [← Hk.out]; rfl, hB⟩
end Go.Proofs.YtkkcfofhhgmbaaaGreatDoor.W
