import Derived.Test.YtkebokkckmgloaaJ06
import Derived.Laws.MakeOwn
import Derived.Test.YtkebokkckmgloaaJ01
import Derived.Laws.AppendOwn
import Derived.Deep.RegionHeld3
import Derived.Laws.Pointers
import Derived.StillTactics
import Derived.Deep.MidRow
/- A list of runs in a row that the call itself made. -/
namespace Go.Proofs.Ytkebokkckmgloaa.W
open Go.RowKit
set_option linter.unusedVariables false

def flatR (rs : List WantD) : List Value := rs.flatMap WantD.cells
theorem flatR_len : ∀ rs : List WantD, (flatR rs).length = rs.length * 7
  | [] => rfl
  | r :: rs => by
    have := flatR_len rs
    simp only [flatR, List.flatMap_cons, List.length_append] at this ⊢
    simp only [this, List.length_cons]
    show 7 + rs.length * 7 = _
    omega
theorem flatR_snoc (rs : List WantD) (r : WantD) : flatR (rs ++ [r]) = flatR rs ++ r.cells := by simp [flatR]
theorem flatR_at : ∀ (rs : List WantD) (k : Nat) (r : WantD), rs[k]? = some r → ∀ j, j < 7 → (flatR rs)[k * 7 + j]? = r.cells[j]?
  | [], k, r, h, j, hj => by simp at h
  | q :: rs, 0, r, h, j, hj => by
    simp at h; subst h
    rw [flatR, List.flatMap_cons, List.getElem?_append_left (by show _ < 7; omega)]
    simp
  | q :: rs, k + 1, r, h, j, hj => by
    have ih := flatR_at rs k r (by simpa using h) j hj
    rw [flatR, List.flatMap_cons, List.getElem?_append_right (by show 7 ≤ _; omega)]
    rw [← ih]
    show (flatR rs)[(k + 1) * 7 + j - 7]? = _
    rw [show (k + 1) * 7 + j - 7 = k * 7 + j from by omega]
theorem flatR_one (rs : List WantD) : ∀ u ∈ flatR rs, u.oneCell' = true := by
  intro u hu
  obtain ⟨r, -, h⟩ := List.mem_flatMap.1 hu
  simp [WantD.cells] at h
  rcases h with rfl | rfl | rfl | rfl | rfl | rfl | rfl <;> rfl

theorem rows_of_owns {w : World} {base : Nat} {v : Value} {rs : List WantD} (h : w.ownsRow base 36 7 v rs.length (flatR rs)) :
    (v = .slice none 0 0 ∧ rs = []) ∨ ∃ g cap, v = .slice (some ⟨g, 0, none⟩) rs.length cap ∧ base ≤ g ∧ g < w.heap.size ∧ RowsAt w g 0 rs ∧ w.there g 0 (rs.length * 7) := by
  obtain ⟨hl, ⟨rfl, hn⟩ | ⟨g, cap, cur, rfl, hb, hg, hnc, hcm, hcs, htk⟩⟩ := h
  · exact Or.inl ⟨rfl, List.length_eq_zero_iff.1 hn⟩
  · refine Or.inr ⟨g, cap, rfl, hb, (Array.getElem?_eq_some_iff.1 hg).1, ?_, ?_⟩
    · intro k r hk j u hj
      have hjn : j < 7 := by
        rcases Nat.lt_or_ge j 7 with h' | h'
        · exact h'
        · rw [List.getElem?_eq_none (by simpa [WantD.cells] using h')] at hj; cases hj
      have hf := flatR_at rs k r hk j hjn
      rw [hj, ← htk, List.getElem?_take] at hf
      split at hf
      · rw [cell_of_row w g _ cur _ (0, 0) hg, Nat.zero_add]
        simpa using hf
      · cases hf
    · intro j hj
      have hlt : j < cur.size := by
        have : rs.length * 7 ≤ cap * 7 := Nat.mul_le_mul_right 7 hnc
        omega
      refine ⟨?_, ?_⟩
      · rw [cell_of_row w g _ cur _ (0, 0) hg, Nat.zero_add]
        simp [Array.getElem?_eq_getElem hlt]
      · simp [World.frozen?, hg]

theorem owns_below {x y : World} {base : Nat} {e : TypeId} {size : Nat} {v : Value} {n : Nat} {xs : List Value} (h : x.ownsRow base e size v n xs) (hb : Below x.heap.size x y) : y.ownsRow base e size v n xs :=
  h.kept (row := none) ⟨hb.os, hb.tape, hb.output, hb.size, fun k hk _ => hb.block k hk⟩ (by cases hv : v.ownBlock <;> simp)
theorem owns_ge {x : World} {base : Nat} {e : TypeId} {size : Nat} {v : Value} {n : Nat} {xs : List Value} (h : x.ownsRow base e size v n xs) : ∀ k, v.ownBlock = some k → base ≤ k := fun k hk => (h.lt k hk).1
theorem new_cells (x : World) (N : Nat) (hN : N = x.heap.size) (arr : Array Value) (t : TypeId) (vs : List Value) (hv : arr.toList = vs) : ∀ j u, vs[j]? = some u → (x.alloc (.cells arr t)).cell? ((⟨N, 0, none⟩ : Addr).add j) = some u := by
  intro j u hj
  subst hN hv
  rw [Addr.add_mid, Nat.zero_add, World.cell?_alloc_new]
  simpa using hj
theorem cellsR_one (r : WantD) : ∀ u ∈ r.cells, u.oneCell' = true := fun u hu => flatR_one [r] u (by simpa [flatR] using hu)
theorem infoR : (Try.prog.info? 36).map (fun i => (i.zero, i.size, i.bytes)) = some (some (.agg #[.string ⟨#[]⟩, .int .i64 0, .string ⟨#[]⟩, .int .i64 0, .int .i64 0, .int .i64 0, .int .i64 0]), 7, 72) := by kernel_rfl
end Go.Proofs.Ytkebokkckmgloaa.W
/- A list in a row of the call's own, or nil. -/
namespace Go.Proofs.Ytkebokkckmgloaa.W
open Go.RowKit
set_option linter.unusedVariables false

/-- The value v shows the list l: it is nil and the list empty, or the list lies in a block from B on, which may be written. -/
def Sl (w : World) (v : Value) (l : List WantD) (B : Nat) : Prop := (v = .slice none 0 0 ∧ l = []) ∨ ∃ g cap, v = .slice (some ⟨g, 0, none⟩) l.length cap ∧ B ≤ g ∧ g < w.heap.size ∧ RowsAt w g 0 l ∧ w.there g 0 (l.length * 7)
theorem Sl.of_owns {w : World} {v : Value} {l : List WantD} {B : Nat} (h : w.ownsRow B 36 7 v l.length (flatR l)) : Sl w v l B := rows_of_owns h
theorem Sl.grown {w w' : World} {v : Value} {l : List WantD} {B : Nat} {row : Option Nat} (h : Sl w v l B) (hg : w.grownBy w' row) (hne : v.ownBlock = none ∨ v.ownBlock ≠ row) : Sl w' v l B := by
  rcases h with h | ⟨g, cap, rfl, h1, h2, h3, h4⟩
  · exact Or.inl h
  · have hn : some g ≠ row := by simpa [Value.ownBlock] using hne
    have hc : ∀ o, w'.cell? ⟨g, o, none⟩ = w.cell? ⟨g, o, none⟩ := fun o => World.cell?_of_block (w := w) (a := ⟨g, o, none⟩) (hg.block g h2 hn)
    have hfz : ∀ o, w'.frozen? ⟨g, o, none⟩ = w.frozen? ⟨g, o, none⟩ := fun o => World.frozen?_of_block (w := w) (a := ⟨g, o, none⟩) (hg.block g h2 hn)
    exact Or.inr ⟨g, cap, rfl, h1, Nat.lt_of_lt_of_le h2 hg.size, fun k r hk j v hj => (hc _).trans (h3 k r hk j v hj), fun j hj => ⟨by rw [hc]; exact (h4 j hj).1, by rw [hfz]; exact (h4 j hj).2⟩⟩
theorem Sl.keep {w w' : World} {v : Value} {l : List WantD} {B : Nat} (h : Sl w v l B) (hb : Below w.heap.size w w') : Sl w' v l B :=
  h.grown (row := none) ⟨hb.os, hb.tape, hb.output, hb.size, fun k hk _ => hb.block k hk⟩ (by cases hv : v.ownBlock <;> simp)
theorem Sl.lt {w : World} {v : Value} {l : List WantD} {B : Nat} (h : Sl w v l B) : ∀ g, v.ownBlock = some g → B ≤ g ∧ g < w.heap.size := by
  rcases h with ⟨rfl, -⟩ | ⟨g, cap, rfl, h1, h2, -⟩
  · intro g hg; simp [Value.ownBlock] at hg
  · intro g' hg; simp [Value.ownBlock] at hg; subst hg; exact ⟨h1, h2⟩
theorem ex_grown {w w' : World} {kr : Nat} (h : Ex kr w w') : w.grownBy w' (some kr) := ⟨h.os, h.tape, h.output, h.size, fun k hk hne => h.block k hk (fun e => hne (by rw [e]))⟩

theorem eq_zero (a1 a2 : Option Addr) (c1 c2 : Nat) (w : World) :
    Calls Try.prog 32 #[.slice a1 0 c1, .slice a2 0 c2] w fun e w' => e = .returned (.bool true) ∧ w' = w := by
  go_enter Try.func32, Try.ntmps32
  go_wp2
  refine wp_loop_rounds 1 ?_
  rw [rounds_succ]
  go_wp2
  go_ret
  exact ⟨rfl, rfl⟩
theorem eq_sl {w : World} {v1 v2 : Value} {l : List WantD} {B1 B2 : Nat} (h1 : Sl w v1 l B1) (h2 : Sl w v2 l B2) (hl : l.length ≤ 1048576) :
    Calls Try.prog 32 #[v1, v2] w fun e w' => e = .returned (.bool true) ∧ Below w.heap.size w w' := by
  have z : ∀ (a1 a2 : Option Addr) (c1 c2 : Nat), Calls Try.prog 32 #[.slice a1 0 c1, .slice a2 0 c2] w fun e w' => e = .returned (.bool true) ∧ Below w.heap.size w w' := fun a1 a2 c1 c2 => (eq_zero a1 a2 c1 c2 w).mono (by rintro e w' ⟨rfl, rfl⟩; exact ⟨rfl, Below.refl _ _⟩)
  rcases h1 with ⟨rfl, rfl⟩ | ⟨g1, cap1, rfl, -, k2, k3, -⟩
  · rcases h2 with ⟨rfl, -⟩ | ⟨g2, cap2, rfl, -, m2, m3, -⟩
    · exact z _ _ _ _
    · exact z _ _ _ _
  · rcases h2 with ⟨rfl, rfl⟩ | ⟨g2, cap2, rfl, -, m2, m3, -⟩
    · exact z _ _ _ _
    · exact eqWantS g1 0 cap1 g2 0 cap2 l w k3 m3 k2 m2 hl
theorem mark_zero (a : Option Addr) (c : Nat) (k : Int) (w : World) : Calls Try.prog 104 #[.slice a 0 c, .int .i64 k] w fun e w' => e = .returned (.int .i64 k) ∧ w' = w := by
  go_enter Try.func104, Try.ntmps104
  go_wp2
  refine wp_loop_rounds 1 ?_
  rw [rounds_succ]
  go_wp2
  go_ret
  exact ⟨rfl, rfl⟩
theorem held_zero (a : Option Addr) (c : Nat) (k : Int) (w : World) : Calls Try.prog 106 #[.slice a 0 c, .int .i64 k] w fun e w' => e = .returned (.int .i64 k) ∧ w' = w := by
  go_enter Try.func106, Try.ntmps106
  go_wp2
  refine wp_loop_rounds 1 ?_
  rw [rounds_succ]
  go_wp2
  go_ret
  exact ⟨rfl, rfl⟩
theorem mark_sl {w : World} {v : Value} {l : List WantD} {B : Nat} (h : Sl w v l B) (k0 : Int) (hl : l.length ≤ 1048576) (h0 : 0 ≤ k0) (h1 : k0 ≤ 1000000000) :
    Calls Try.prog 104 #[v, .int .i64 k0] w fun e w' => e = .returned (.int .i64 (k0 + 7 * (l.length : Int))) ∧ Sl w' v (marks k0 l.length) B ∧ w.grownBy w' v.ownBlock := by
  rcases h with ⟨rfl, rfl⟩ | ⟨g, cap, rfl, a1, a2, a3, a4⟩
  · refine (mark_zero none 0 k0 w).mono ?_
    rintro e w' ⟨rfl, rfl⟩
    exact ⟨by simp, Or.inl ⟨rfl, rfl⟩, ⟨rfl, rfl, rfl, Nat.le_refl _, fun _ _ _ => rfl⟩⟩
  · refine (markS g l.length cap k0 w a4 a2 hl h0 (by omega)).mono ?_
    rintro e w' ⟨rfl, b1, b2, b3⟩
    exact ⟨rfl, Or.inr ⟨g, cap, by rw [len_marks], a1, Nat.lt_of_lt_of_le a2 b3.size, b1, by rw [len_marks]; exact b2⟩, ex_grown b3⟩
theorem held_sl {w : World} {v : Value} {m : Nat} {B : Nat} (k0 : Int) (h : Sl w v (marks k0 m) B) (hl : m ≤ 1048576) (h0 : 0 ≤ k0) (h1 : k0 ≤ 1000000000) :
    Calls Try.prog 106 #[v, .int .i64 k0] w fun e w' => e = .returned (.int .i64 (k0 + 7 * (m : Int))) ∧ Below w.heap.size w w' := by
  rcases h with ⟨rfl, h⟩ | ⟨g, cap, rfl, a1, a2, a3, a4⟩
  · have hm : m = 0 := by have := congrArg List.length h; rw [len_marks] at this; simpa using this
    subst hm
    refine (held_zero none 0 k0 w).mono ?_
    rintro e w' ⟨rfl, rfl⟩
    exact ⟨by simp, Below.refl _ _⟩
  · rw [len_marks]
    exact heldS g m cap k0 w a3 a2 hl h0 (by omega)
end Go.Proofs.Ytkebokkckmgloaa.W
/- Lists of asks in memory. -/
namespace Go.Proofs.Ytkebokkckmgloaa.A
open Go.RowKit
set_option linter.unusedVariables false

theorem szAsk_yes (h c : ByteArray) (f t left : Int) (h0 : 0 ≤ left) (h1 : left ≤ 1048576) (k : (h.size : Int) + c.size ≤ left) (w : World) :
    Calls Try.prog 150 #[.agg #[.string h, .string c, .int .i64 f, .int .i64 t], .int .i64 left] w fun e w' => e = .returned (.int .i64 (left - h.size - c.size)) ∧ Below w.heap.size w w' := by
  go_enter Try.func150, Try.ntmps150
  go_wp2
  go_ret
  exact ⟨rfl, (Below.refl _ _).alloc (Nat.le_refl _) _⟩
theorem szAsk_no (h c : ByteArray) (f t left : Int) (h0 : 0 ≤ left) (h1 : left ≤ 1048576) (hh : h.size ≤ maxLen) (hc : c.size ≤ maxLen) (k : ¬ (h.size : Int) + c.size ≤ left) (w : World) :
    Calls Try.prog 150 #[.agg #[.string h, .string c, .int .i64 f, .int .i64 t], .int .i64 left] w fun e w' => e = .returned (.int .i64 (-1)) ∧ Below w.heap.size w w' := by
  unfold maxLen at hc hh
  by_cases k1 : (h.size : Int) ≤ left
  · go_enter Try.func150, Try.ntmps150
    go_wp2
    go_ret
    exact ⟨rfl, (Below.refl _ _).alloc (Nat.le_refl _) _⟩
  · go_enter Try.func150, Try.ntmps150
    go_wp2
    go_ret
    exact ⟨rfl, (Below.refl _ _).alloc (Nat.le_refl _) _⟩
theorem toAsk_b (h c : ByteArray) (f t : Int) (w : World) :
    Calls Try.prog 151 #[.agg #[.string h, .string c, .int .i64 f, .int .i64 t]] w fun e w' => e = .returned (.agg #[.string h, .string c, .int .i64 f, .int .i64 t]) ∧ Below w.heap.size w w' := by
  go_enter Try.func151, Try.ntmps151
  go_wp2
  exact bodyPost_ret (v := .agg #[.string h, .string c, .int .i64 f, .int .i64 t]) (by simp [results, Try.results151, go_sem]) rfl ⟨rfl, by repeat (first | exact Below.refl _ _ | refine bl_alloc ?_ _)⟩

structure AskD where
  h : ByteArray
  c : ByteArray
  f : Int
  t : Int
def AskD.cells (r : AskD) : List Value := [.string r.h, .string r.c, .int .i64 r.f, .int .i64 r.t]
/-- What a run's parts may be. -/
def AskD.fits (r : AskD) : Prop := r.h.size ≤ maxLen ∧ r.c.size ≤ maxLen
/-- The asks rs lie in block b from off on. -/
def RowsAt (w : World) (b off : Nat) (rs : List AskD) : Prop := ∀ k r, rs[k]? = some r → w.rangeAt b (off + k * 4) r.cells

theorem RowsAt.keep {w w' : World} {b off : Nat} {rs : List AskD} (h : RowsAt w b off rs) (hb : b < w.heap.size) (hB : Below w.heap.size w w') : RowsAt w' b off rs :=
  fun k r hk j v hj => (hB.cell (p := ⟨b, off + k * 4 + j, none⟩) hb).trans (h k r hk j v hj)
theorem RowsAt.at {w : World} {b off : Nat} {rs : List AskD} (h : RowsAt w b off rs) {k : Nat} {r : AskD} (hk : rs[k]? = some r) :
    w.cell? ⟨b, off + k * 4, none⟩ = some (.string r.h) ∧ w.cell? ⟨b, off + k * 4 + 1, none⟩ = some (.string r.c) ∧ w.cell? ⟨b, off + k * 4 + 2, none⟩ = some (.int .i64 r.f) ∧ w.cell? ⟨b, off + k * 4 + 3, none⟩ = some (.int .i64 r.t) :=
  ⟨h k r hk 0 _ rfl, h k r hk 1 _ rfl, h k r hk 2 _ rfl, h k r hk 3 _ rfl⟩

set_option maxHeartbeats 1000000 in
theorem szAskS (b off cap : Nat) (rs : List AskD) (left : Int) (w : World) (hR : RowsAt w b off rs) (hb : b < w.heap.size) (hf : ∀ r ∈ rs, r.fits) (h0 : 0 ≤ left) (h1 : left ≤ 1048576) (hl : rs.length ≤ maxLen) :
    Calls Try.prog 101 #[.slice (some ⟨b, off, none⟩) rs.length cap, .int .i64 left] w fun e w' => (e = .returned (.int .i64 (-1)) ∨ ∃ m : Int, e = .returned (.int .i64 m) ∧ 0 ≤ m ∧ (rs.length : Int) ≤ left) ∧ Below w.heap.size w w' := by
  unfold maxLen at hl
  by_cases hn : (rs.length : Int) ≤ left
  · go_enter Try.func101, Try.ntmps101
    go_wp2
    go_loopw [1, 5] (fun l i wx => ∃ (k : Nat) (lv : Int), k ≤ rs.length ∧ i = .int .i64 k ∧ l = .int .i64 lv ∧ 0 ≤ lv ∧ lv ≤ 1048576 ∧ Below w.heap.size w wx) (fun _ i _ => rs.length - (intOf i).toNat)
    case atStart => exact ⟨0, _, Nat.zero_le _, rfl, rfl, by omega, by omega, Below.refl _ _⟩
    case round =>
      obtain ⟨k, lv, hk, rfl, rfl, l0, l1, hB⟩ := hrel
      by_cases hlt : k < rs.length
      · obtain ⟨r, hr⟩ : ∃ r, rs[k]? = some r := ⟨rs[k], List.getElem?_eq_getElem hlt⟩
        obtain ⟨c0, c1, c2, c3⟩ := (hR.keep hb hB).at hr
        have hfr : r.fits := hf r (List.mem_of_getElem? hr)
        clear hr
        by_cases hsz : (r.h.size : Int) + r.c.size ≤ lv
        · go_wp2_with fail
          refine (szAsk_yes r.h r.c r.f r.t lv l0 l1 hsz _).mono ?_
          rintro e w1 ⟨rfl, hb1⟩
          go_wp2
          exact ⟨⟨k + 1, _, by omega, by go_num, rfl, by omega, by omega, bl_trans hB hb1⟩, by simp [intOf]; omega⟩
        · go_wp2_with fail
          refine (szAsk_no r.h r.c r.f r.t lv l0 l1 hfr.1 hfr.2 (by omega) _).mono ?_
          rintro e w1 ⟨rfl, hb1⟩
          go_wp2
          go_ret
          exact ⟨Or.inl rfl, bl_trans hB hb1⟩
      · go_wp2
        go_ret
        exact ⟨Or.inr ⟨_, rfl, l0, hn⟩, hB⟩
  · go_enter Try.func101, Try.ntmps101
    go_wp2
    go_ret
    exact ⟨Or.inl rfl, Below.refl _ _⟩
end Go.Proofs.Ytkebokkckmgloaa.A
/- A list of runs in a row that the call itself made. -/
namespace Go.Proofs.Ytkebokkckmgloaa.A
open Go.RowKit
set_option linter.unusedVariables false

def flatR (rs : List AskD) : List Value := rs.flatMap AskD.cells
theorem flatR_len : ∀ rs : List AskD, (flatR rs).length = rs.length * 4
  | [] => rfl
  | r :: rs => by
    have := flatR_len rs
    simp only [flatR, List.flatMap_cons, List.length_append] at this ⊢
    simp only [this, List.length_cons]
    show 4 + rs.length * 4 = _
    omega
theorem flatR_snoc (rs : List AskD) (r : AskD) : flatR (rs ++ [r]) = flatR rs ++ r.cells := by simp [flatR]
theorem flatR_at : ∀ (rs : List AskD) (k : Nat) (r : AskD), rs[k]? = some r → ∀ j, j < 4 → (flatR rs)[k * 4 + j]? = r.cells[j]?
  | [], k, r, h, j, hj => by simp at h
  | q :: rs, 0, r, h, j, hj => by
    simp at h; subst h
    rw [flatR, List.flatMap_cons, List.getElem?_append_left (by show _ < 4; omega)]
    simp
  | q :: rs, k + 1, r, h, j, hj => by
    have ih := flatR_at rs k r (by simpa using h) j hj
    rw [flatR, List.flatMap_cons, List.getElem?_append_right (by show 4 ≤ _; omega)]
    rw [← ih]
    show (flatR rs)[(k + 1) * 4 + j - 4]? = _
    rw [show (k + 1) * 4 + j - 4 = k * 4 + j from by omega]
theorem flatR_one (rs : List AskD) : ∀ u ∈ flatR rs, u.oneCell' = true := by
  intro u hu
  obtain ⟨r, -, h⟩ := List.mem_flatMap.1 hu
  simp [AskD.cells] at h
  rcases h with rfl | rfl | rfl | rfl <;> rfl

theorem rows_of_owns {w : World} {base : Nat} {v : Value} {rs : List AskD} (h : w.ownsRow base 99 4 v rs.length (flatR rs)) :
    (v = .slice none 0 0 ∧ rs = []) ∨ ∃ g cap, v = .slice (some ⟨g, 0, none⟩) rs.length cap ∧ base ≤ g ∧ g < w.heap.size ∧ RowsAt w g 0 rs ∧ w.there g 0 (rs.length * 4) := by
  obtain ⟨hl, ⟨rfl, hn⟩ | ⟨g, cap, cur, rfl, hb, hg, hnc, hcm, hcs, htk⟩⟩ := h
  · exact Or.inl ⟨rfl, List.length_eq_zero_iff.1 hn⟩
  · refine Or.inr ⟨g, cap, rfl, hb, (Array.getElem?_eq_some_iff.1 hg).1, ?_, ?_⟩
    · intro k r hk j u hj
      have hjn : j < 4 := by
        rcases Nat.lt_or_ge j 4 with h' | h'
        · exact h'
        · rw [List.getElem?_eq_none (by simpa [AskD.cells] using h')] at hj; cases hj
      have hf := flatR_at rs k r hk j hjn
      rw [hj, ← htk, List.getElem?_take] at hf
      split at hf
      · rw [cell_of_row w g _ cur _ (0, 0) hg, Nat.zero_add]
        simpa using hf
      · cases hf
    · intro j hj
      have hlt : j < cur.size := by
        have : rs.length * 4 ≤ cap * 4 := Nat.mul_le_mul_right 4 hnc
        omega
      refine ⟨?_, ?_⟩
      · rw [cell_of_row w g _ cur _ (0, 0) hg, Nat.zero_add]
        simp [Array.getElem?_eq_getElem hlt]
      · simp [World.frozen?, hg]

theorem owns_below {x y : World} {base : Nat} {e : TypeId} {size : Nat} {v : Value} {n : Nat} {xs : List Value} (h : x.ownsRow base e size v n xs) (hb : Below x.heap.size x y) : y.ownsRow base e size v n xs :=
  h.kept (row := none) ⟨hb.os, hb.tape, hb.output, hb.size, fun k hk _ => hb.block k hk⟩ (by cases hv : v.ownBlock <;> simp)
theorem owns_ge {x : World} {base : Nat} {e : TypeId} {size : Nat} {v : Value} {n : Nat} {xs : List Value} (h : x.ownsRow base e size v n xs) : ∀ k, v.ownBlock = some k → base ≤ k := fun k hk => (h.lt k hk).1
theorem new_cells (x : World) (N : Nat) (hN : N = x.heap.size) (arr : Array Value) (t : TypeId) (vs : List Value) (hv : arr.toList = vs) : ∀ j u, vs[j]? = some u → (x.alloc (.cells arr t)).cell? ((⟨N, 0, none⟩ : Addr).add j) = some u := by
  intro j u hj
  subst hN hv
  rw [Addr.add_mid, Nat.zero_add, World.cell?_alloc_new]
  simpa using hj
theorem cellsR_one (r : AskD) : ∀ u ∈ r.cells, u.oneCell' = true := fun u hu => flatR_one [r] u (by simpa [flatR] using hu)
theorem infoR : (Try.prog.info? 99).map (fun i => (i.zero, i.size, i.bytes)) = some (some (.agg #[.string ⟨#[]⟩, .string ⟨#[]⟩, .int .i64 0, .int .i64 0]), 4, 48) := by kernel_rfl
end Go.Proofs.Ytkebokkckmgloaa.A
/- A list in a row of the call's own, or nil. -/
namespace Go.Proofs.Ytkebokkckmgloaa.A
open Go.RowKit
set_option linter.unusedVariables false

/-- The value v shows the list l: it is nil and the list empty, or the list lies in a block from B on, which may be written. -/
def Sl (w : World) (v : Value) (l : List AskD) (B : Nat) : Prop := (v = .slice none 0 0 ∧ l = []) ∨ ∃ g cap, v = .slice (some ⟨g, 0, none⟩) l.length cap ∧ B ≤ g ∧ g < w.heap.size ∧ RowsAt w g 0 l ∧ w.there g 0 (l.length * 4)
theorem Sl.of_owns {w : World} {v : Value} {l : List AskD} {B : Nat} (h : w.ownsRow B 99 4 v l.length (flatR l)) : Sl w v l B := rows_of_owns h
theorem Sl.grown {w w' : World} {v : Value} {l : List AskD} {B : Nat} {row : Option Nat} (h : Sl w v l B) (hg : w.grownBy w' row) (hne : v.ownBlock = none ∨ v.ownBlock ≠ row) : Sl w' v l B := by
  rcases h with h | ⟨g, cap, rfl, h1, h2, h3, h4⟩
  · exact Or.inl h
  · have hn : some g ≠ row := by simpa [Value.ownBlock] using hne
    have hc : ∀ o, w'.cell? ⟨g, o, none⟩ = w.cell? ⟨g, o, none⟩ := fun o => World.cell?_of_block (w := w) (a := ⟨g, o, none⟩) (hg.block g h2 hn)
    have hfz : ∀ o, w'.frozen? ⟨g, o, none⟩ = w.frozen? ⟨g, o, none⟩ := fun o => World.frozen?_of_block (w := w) (a := ⟨g, o, none⟩) (hg.block g h2 hn)
    exact Or.inr ⟨g, cap, rfl, h1, Nat.lt_of_lt_of_le h2 hg.size, fun k r hk j v hj => (hc _).trans (h3 k r hk j v hj), fun j hj => ⟨by rw [hc]; exact (h4 j hj).1, by rw [hfz]; exact (h4 j hj).2⟩⟩
theorem Sl.keep {w w' : World} {v : Value} {l : List AskD} {B : Nat} (h : Sl w v l B) (hb : Below w.heap.size w w') : Sl w' v l B :=
  h.grown (row := none) ⟨hb.os, hb.tape, hb.output, hb.size, fun k hk _ => hb.block k hk⟩ (by cases hv : v.ownBlock <;> simp)
theorem Sl.lt {w : World} {v : Value} {l : List AskD} {B : Nat} (h : Sl w v l B) : ∀ g, v.ownBlock = some g → B ≤ g ∧ g < w.heap.size := by
  rcases h with ⟨rfl, -⟩ | ⟨g, cap, rfl, h1, h2, -⟩
  · intro g hg; simp [Value.ownBlock] at hg
  · intro g' hg; simp [Value.ownBlock] at hg; subst hg; exact ⟨h1, h2⟩
theorem ex_grown {w w' : World} {kr : Nat} (h : Ex kr w w') : w.grownBy w' (some kr) := ⟨h.os, h.tape, h.output, h.size, fun k hk hne => h.block k hk (fun e => hne (by rw [e]))⟩

theorem eq_zero (a1 a2 : Option Addr) (c1 c2 : Nat) (w : World) :
    Calls Try.prog 103 #[.slice a1 0 c1, .slice a2 0 c2] w fun e w' => e = .returned (.bool true) ∧ w' = w := by
  go_enter Try.func103, Try.ntmps103
  go_wp2
  refine wp_loop_rounds 1 ?_
  rw [rounds_succ]
  go_wp2
  go_ret
  exact ⟨rfl, rfl⟩
theorem eq_sl {w : World} {v1 v2 : Value} {l : List AskD} {B1 B2 : Nat} (h1 : Sl w v1 l B1) (h2 : Sl w v2 l B2) (hl : l.length ≤ 1048576) :
    Calls Try.prog 103 #[v1, v2] w fun e w' => e = .returned (.bool true) ∧ Below w.heap.size w w' := by
  have z : ∀ (a1 a2 : Option Addr) (c1 c2 : Nat), Calls Try.prog 103 #[.slice a1 0 c1, .slice a2 0 c2] w fun e w' => e = .returned (.bool true) ∧ Below w.heap.size w w' := fun a1 a2 c1 c2 => (eq_zero a1 a2 c1 c2 w).mono (by rintro e w' ⟨rfl, rfl⟩; exact ⟨rfl, Below.refl _ _⟩)
  rcases h1 with ⟨rfl, rfl⟩ | ⟨g1, cap1, rfl, -, k2, k3, -⟩
  · rcases h2 with ⟨rfl, -⟩ | ⟨g2, cap2, rfl, -, m2, m3, -⟩
    · exact z _ _ _ _
    · exact z _ _ _ _
  · rcases h2 with ⟨rfl, rfl⟩ | ⟨g2, cap2, rfl, -, m2, m3, -⟩
    · exact z _ _ _ _
    · exact eqAskS g1 0 cap1 g2 0 cap2 l w k3 m3 k2 m2 hl
theorem mark_zero (a : Option Addr) (c : Nat) (k : Int) (w : World) : Calls Try.prog 105 #[.slice a 0 c, .int .i64 k] w fun e w' => e = .returned (.int .i64 k) ∧ w' = w := by
  go_enter Try.func105, Try.ntmps105
  go_wp2
  refine wp_loop_rounds 1 ?_
  rw [rounds_succ]
  go_wp2
  go_ret
  exact ⟨rfl, rfl⟩
theorem held_zero (a : Option Addr) (c : Nat) (k : Int) (w : World) : Calls Try.prog 107 #[.slice a 0 c, .int .i64 k] w fun e w' => e = .returned (.int .i64 k) ∧ w' = w := by
  go_enter Try.func107, Try.ntmps107
  go_wp2
  refine wp_loop_rounds 1 ?_
  rw [rounds_succ]
  go_wp2
  go_ret
  exact ⟨rfl, rfl⟩
theorem mark_sl {w : World} {v : Value} {l : List AskD} {B : Nat} (h : Sl w v l B) (k0 : Int) (hl : l.length ≤ 1048576) (h0 : 0 ≤ k0) (h1 : k0 ≤ 1000000000) :
    Calls Try.prog 105 #[v, .int .i64 k0] w fun e w' => e = .returned (.int .i64 (k0 + 4 * (l.length : Int))) ∧ Sl w' v (marks k0 l.length) B ∧ w.grownBy w' v.ownBlock := by
  rcases h with ⟨rfl, rfl⟩ | ⟨g, cap, rfl, a1, a2, a3, a4⟩
  · refine (mark_zero none 0 k0 w).mono ?_
    rintro e w' ⟨rfl, rfl⟩
    exact ⟨by simp, Or.inl ⟨rfl, rfl⟩, ⟨rfl, rfl, rfl, Nat.le_refl _, fun _ _ _ => rfl⟩⟩
  · refine (markS g l.length cap k0 w a4 a2 hl h0 (by omega)).mono ?_
    rintro e w' ⟨rfl, b1, b2, b3⟩
    exact ⟨rfl, Or.inr ⟨g, cap, by rw [len_marks], a1, Nat.lt_of_lt_of_le a2 b3.size, b1, by rw [len_marks]; exact b2⟩, ex_grown b3⟩
theorem held_sl {w : World} {v : Value} {m : Nat} {B : Nat} (k0 : Int) (h : Sl w v (marks k0 m) B) (hl : m ≤ 1048576) (h0 : 0 ≤ k0) (h1 : k0 ≤ 1000000000) :
    Calls Try.prog 107 #[v, .int .i64 k0] w fun e w' => e = .returned (.int .i64 (k0 + 4 * (m : Int))) ∧ Below w.heap.size w w' := by
  rcases h with ⟨rfl, h⟩ | ⟨g, cap, rfl, a1, a2, a3, a4⟩
  · have hm : m = 0 := by have := congrArg List.length h; rw [len_marks] at this; simpa using this
    subst hm
    refine (held_zero none 0 k0 w).mono ?_
    rintro e w' ⟨rfl, rfl⟩
    exact ⟨by simp, Below.refl _ _⟩
  · rw [len_marks]
    exact heldS g m cap k0 w a3 a2 hl h0 (by omega)
end Go.Proofs.Ytkebokkckmgloaa.A
