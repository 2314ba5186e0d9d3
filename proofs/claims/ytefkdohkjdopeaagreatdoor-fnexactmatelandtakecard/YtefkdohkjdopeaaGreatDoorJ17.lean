import Derived.Test.YtefkdohkjdopeaaGreatDoorJ03
import Derived.Test.YtefkdohkjdopeaaGreatDoorJ02
import Derived.Laws.AppendOwn
namespace Go.Proofs.YtefkdohkjdopeaaGreatDoor.Pc
open Go.RowKit
set_option linter.unusedVariables false
structure PcRaw where
 k : Int
 b : ByteArray
 s : Int
 a : Option Addr
 n : Nat
 c : Nat
 h : ByteArray
 p : ByteArray
 t : Int
def PcRaw.cells (r : PcRaw) : List Value := [.int .i64 r.k, .string r.b, .int .i64 r.s, .slice r.a r.n r.c, .string r.h, .string r.p, .int .i64 r.t]
def RowsAt (w : World) (b off : Nat) (rs : List PcRaw) : Prop := ∀ k r, rs[k]? = some r → w.rangeAt b (off + k * 7) r.cells
end Go.Proofs.YtefkdohkjdopeaaGreatDoor.Pc
namespace Go.Proofs.YtefkdohkjdopeaaGreatDoor.Pc
open Go.RowKit
set_option linter.unusedVariables false
def flatR (rs : List PcRaw) : List Value := rs.flatMap PcRaw.cells
theorem flatR_at : ∀ (rs : List PcRaw) (k : Nat) (r : PcRaw), rs[k]? = some r → ∀ j, j < 7 → (flatR rs)[k * 7 + j]? = r.cells[j]?
 | [], k, r, h, j, hj => by simp at h
 | q :: rs, 0, r, h, j, hj => by
  simp at h; subst h
  rw [flatR, List.flatMap_cons, List.getElem?_append_left (by show _ < 7; omega)]
  simp
 | q :: rs, k + 1, r, h, j, hj => by
  have ih := flatR_at rs k r (by simpa using h) j hj
  rw [flatR, List.flatMap_cons, List.getElem?_append_right (by show 7 ≤ _; omega)]
  rw [← ih]
  show (flatR rs)[(k + 1) * 7 + j - 7]? = _
  rw [show (k + 1) * 7 + j - 7 = k * 7 + j from by omega]
theorem flatR_one (rs : List PcRaw) : ∀ u ∈ flatR rs, u.oneCell' = true := by
 intro u hu
 obtain ⟨r, -, h⟩ := List.mem_flatMap.1 hu
 simp [PcRaw.cells] at h
 rcases h with rfl | rfl | rfl | rfl | rfl | rfl | rfl <;> rfl
theorem rows_of_owns {w : World} {base : Nat} {v : Value} {rs : List PcRaw} (h : w.ownsRow base 41 7 v rs.length (flatR rs)) :
  (v = .slice none 0 0 ∧ rs = []) ∨ ∃ g cap, v = .slice (some ⟨g, 0, none⟩) rs.length cap ∧ base ≤ g ∧ g < w.heap.size ∧ RowsAt w g 0 rs ∧ w.there g 0 (rs.length * 7) := by
 obtain ⟨hl, ⟨rfl, hn⟩ | ⟨g, cap, cur, rfl, hb, hg, hnc, hcm, hcs, htk⟩⟩ := h
 ·
  exact Or.inl ⟨rfl, List.length_eq_zero_iff.1 hn⟩
 ·
  refine Or.inr ⟨g, cap, rfl, hb, (Array.getElem?_eq_some_iff.1 hg).1, ?_, ?_⟩
  ·
   intro k r hk j u hj
   have hjn : j < 7 := by
    rcases Nat.lt_or_ge j 7 with h' | h'
    ·
     exact h'
    ·
     rw [List.getElem?_eq_none (by simpa [PcRaw.cells] using h')] at hj; cases hj
   have hf := flatR_at rs k r hk j hjn
   rw [hj, ← htk, List.getElem?_take] at hf
   split at hf
   ·
    rw [cell_of_row w g _ cur _ (0, 0) hg, Nat.zero_add]
    simpa using hf
   ·
    cases hf
  ·
   intro j hj
   have hlt : j < cur.size := by
    have : rs.length * 7 ≤ cap * 7 := Nat.mul_le_mul_right 7 hnc
    omega
   refine ⟨?_, ?_⟩
   ·
    rw [cell_of_row w g _ cur _ (0, 0) hg, Nat.zero_add]
    simp [Array.getElem?_eq_getElem hlt]
   ·
    simp [World.frozen?, hg]
theorem cellsR_one (r : PcRaw) : ∀ u ∈ r.cells, u.oneCell' = true := fun u hu => flatR_one [r] u (by simpa [flatR] using hu)
theorem infoR : (Tryz.prog.info? 41).map (fun i => (i.zero, i.size, i.bytes)) = some (some (.agg #[.int .i64 0, .string ⟨#[]⟩, .int .i64 0, .slice none 0 0, .string ⟨#[]⟩, .string ⟨#[]⟩, .int .i64 0]), 7, 96) := by kernel_rfl
end Go.Proofs.YtefkdohkjdopeaaGreatDoor.Pc
namespace Go.Proofs.YtefkdohkjdopeaaGreatDoor.Pc
open Go.RowKit
set_option linter.unusedVariables false
def Sl (w : World) (v : Value) (l : List PcRaw) (B : Nat) : Prop := (v = .slice none 0 0 ∧ l = []) ∨ ∃ g cap, v = .slice (some ⟨g, 0, none⟩) l.length cap ∧ B ≤ g ∧ g < w.heap.size ∧ RowsAt w g 0 l ∧ w.there g 0 (l.length * 7)
theorem Sl.of_owns {w : World} {v : Value} {l : List PcRaw} {B : Nat} (h : w.ownsRow B 41 7 v l.length (flatR l)) : Sl w v l B := rows_of_owns h
theorem Sl.grown {w w' : World} {v : Value} {l : List PcRaw} {B : Nat} {row : Option Nat} (h : Sl w v l B) (hg : w.grownBy w' row) (hne : v.ownBlock = none ∨ v.ownBlock ≠ row) : Sl w' v l B := by
 rcases h with h | ⟨g, cap, rfl, h1, h2, h3, h4⟩
 ·
  exact Or.inl h
 ·
  have hn : some g ≠ row := by simpa [Value.ownBlock] using hne
  have hc : ∀ o, w'.cell? ⟨g, o, none⟩ = w.cell? ⟨g, o, none⟩ := fun o => World.cell?_of_block (w := w) (a := ⟨g, o, none⟩) (hg.block g h2 hn)
  have hfz : ∀ o, w'.frozen? ⟨g, o, none⟩ = w.frozen? ⟨g, o, none⟩ := fun o => World.frozen?_of_block (w := w) (a := ⟨g, o, none⟩) (hg.block g h2 hn)
  exact Or.inr ⟨g, cap, rfl, h1, Nat.lt_of_lt_of_le h2 hg.size, fun k r hk j v hj => (hc _).trans (h3 k r hk j v hj), fun j hj => ⟨by rw [hc]; exact (h4 j hj).1, by rw [hfz]; exact (h4 j hj).2⟩⟩
theorem Sl.keep {w w' : World} {v : Value} {l : List PcRaw} {B : Nat} (h : Sl w v l B) (hb : Below w.heap.size w w') : Sl w' v l B :=
 h.grown (row := none) ⟨hb.os, hb.tape, hb.output, hb.size, fun k hk _ => hb.block k hk⟩ (by cases hv : v.ownBlock <;> simp)
theorem Sl.lt {w : World} {v : Value} {l : List PcRaw} {B : Nat} (h : Sl w v l B) : ∀ g, v.ownBlock = some g → B ≤ g ∧ g < w.heap.size := by
 rcases h with ⟨rfl, -⟩ | ⟨g, cap, rfl, h1, h2, -⟩
 ·
  intro g hg; simp [Value.ownBlock] at hg
 ·
  intro g' hg; simp [Value.ownBlock] at hg; subst hg; exact ⟨h1, h2⟩
theorem Sl.shape {w : World} {v : Value} {l : List PcRaw} {B : Nat} (h : Sl w v l B) : ∃ a c, v = .slice a l.length c := by
 rcases h with ⟨rfl, rfl⟩ | ⟨g, cap, rfl, -⟩
 ·
  exact ⟨none, 0, rfl⟩
 ·
  exact ⟨_, _, rfl⟩
end Go.Proofs.YtefkdohkjdopeaaGreatDoor.Pc
