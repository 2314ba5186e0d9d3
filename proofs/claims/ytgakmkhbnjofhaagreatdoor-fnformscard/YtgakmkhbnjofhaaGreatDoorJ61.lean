import Derived.Test.YtgakmkhbnjofhaaGreatDoorJ59
import Derived.Test.YtgakmkhbnjofhaaGreatDoorJ60
/- The program reads a parcel: what stands while it does. -/
namespace Go.Proofs.YtgakmkhbnjofhaaGreatDoor
open Go.RowKit
set_option linter.unusedVariables false

theorem wd_inj {a b : List UInt8} (h : wd a = wd b) : a = b := by rw [← wd_list a, h, wd_list]
theorem wd_iff {a : List UInt8} {b : List UInt8} : (wd a = wd b) = (a = b) := propext ⟨wd_inj, fun h => by rw [h]⟩
theorem idxT_kind (w : List UInt8) : idxT (wd w) = kindL w - 1 := by
  have e1 : idxT (wd w) = if wd w = wd wTold then 0 else if wd w = wd wAsked then 1 else if wd w = wd wGiven then 2 else if wd w = wd wBack then 3 else if wd w = wd wGot then 4 else if wd w = wd wHere then 5 else -1 := rfl
  rw [e1]
  simp only [wd_iff]
  unfold kindL
  split
  · rfl
  · split
    · rfl
    · split
      · rfl
      · split
        · rfl
        · split
          · rfl
          · split
            · rfl
            · rfl
theorem kindL_cases (w : List UInt8) : kindL w = 1 ∨ kindL w = 2 ∨ kindL w = 3 ∨ kindL w = 4 ∨ kindL w = 5 ∨ kindL w = 6 ∨ kindL w = 0 := by
  unfold kindL
  split
  · simp
  · split
    · simp
    · split
      · simp
      · split
        · simp
        · split
          · simp
          · split
            · simp
            · simp
theorem readHead_at {W : World} {b : Nat} {l : List UInt8} {y : World} (h : At W b l 0 y) (hE : Env W) (hl : l.length ≤ 1048576) :
    Calls Tryz.prog 56 #[.iface 97 (.pointer (some ⟨b, 0, none⟩))] y fun e y' => e = .returned (.agg (pcells (headI (kindL (nxS l).1) l []) (.slice none 0 0))) ∧ Ex b y y' := by
  have hi : idxT (wdI l 0) = kindL (nxS l).1 - 1 := idxT_kind _
  rcases kindL_cases (nxS l).1 with e | e | e | e | e | e | e
  · rw [e] at hi ⊢; exact readHead1 h hE hl hi
  · rw [e] at hi ⊢; exact readHead2 h hE hl hi
  · rw [e] at hi ⊢; exact readHead3 h hE hl hi
  · rw [e] at hi ⊢; exact readHead4 h hE hl hi
  · rw [e] at hi ⊢; exact readHead5 h hE hl hi
  · rw [e] at hi ⊢; exact readHead6 h hE hl hi
  · rw [e] at hi ⊢; exact readHead7 h hE hl hi
def Z7 : Array Value := #[.int .i64 0, .string { data := #[] }, .int .i64 0, .slice none 0 0, .string { data := #[] }, .string { data := #[] }, .int .i64 0]
/-- While a parcel is read: its block bp, the answer's block, the text's block be. -/
structure Pl (Y : World) (be bp : Nat) (O : Array Value) (y : World) : Prop where
  x : Ex be Y y
  b : ∀ k, y.cell? ⟨bp, k, none⟩ = O[k]?
  c : ∀ k, y.frozen? ⟨bp, k, none⟩ = false
  f : bp < y.heap.size
  r : y.heap[Y.heap.size]? = some (.cells Z7 25 (0, 0))
  n : Y.heap.size < bp
  e : be < Y.heap.size
theorem Pl.lt {Y : World} {be bp : Nat} {O : Array Value} {y : World} (h : Pl Y be bp O y) : Y.heap.size < y.heap.size := Nat.lt_trans h.n h.f
theorem Pl.grow {Y : World} {be bp : Nat} {O : Array Value} {y y' : World} {row : Option Nat} (h : Pl Y be bp O y) (hg : y.grownBy y' row) (hr : ∀ g, row = some g → Y.heap.size < g ∧ g ≠ bp) : Pl Y be bp O y' := by
  have hne : ∀ k, k ≤ Y.heap.size ∨ k = bp → some k ≠ row := fun k hk e => by
    have := hr k e.symm
    omega
  have hf := h.f
  have hl := h.lt
  refine ⟨⟨hg.os.trans h.x.os, hg.tape.trans h.x.tape, hg.output.trans h.x.output, Nat.le_trans h.x.size hg.size, fun k hk hk2 => (hg.block k (by omega) (hne k (by omega))).trans (h.x.block k hk hk2)⟩, fun k => ?_, fun k => ?_, Nat.lt_of_lt_of_le hf hg.size, ?_, h.n, h.e⟩
  · rw [← h.b k]
    exact World.cell?_of_block (w := y) (a := ⟨bp, k, none⟩) (hg.block bp hf (hne bp (Or.inr rfl)))
  · rw [← h.c k]
    exact World.frozen?_of_block (w := y) (a := ⟨bp, k, none⟩) (hg.block bp hf (hne bp (Or.inr rfl)))
  · rw [← h.r]
    exact hg.block _ hl (hne _ (by omega))
theorem Pl.below {Y : World} {be bp : Nat} {O : Array Value} {y y' : World} (h : Pl Y be bp O y) (hb : Below y.heap.size y y') : Pl Y be bp O y' :=
  h.grow (row := none) ⟨hb.os, hb.tape, hb.output, hb.size, fun k hk _ => hb.block k hk⟩ (fun g hg => by cases hg)
theorem Pl.text {Y : World} {be bp : Nat} {O : Array Value} {y y' : World} (h : Pl Y be bp O y) (hx : Ex be y y') : Pl Y be bp O y' := by
  have hf := h.f
  have hl := h.lt
  have hn := h.n
  have he := h.e
  refine ⟨h.x.trans hx, fun k => ?_, fun k => ?_, Nat.lt_of_lt_of_le hf hx.size, ?_, h.n, h.e⟩
  · rw [← h.b k]
    exact hx.cell (p := ⟨bp, k, none⟩) hf (by show bp ≠ be; omega)
  · rw [← h.c k]
    exact hx.frozen (p := ⟨bp, k, none⟩) hf (by show bp ≠ be; omega)
  · rw [← h.r]
    exact hx.block _ hl (by omega)
theorem Pl.set {Y : World} {be bp : Nat} {O : Array Value} {y : World} (h : Pl Y be bp O y) (j : Nat) (hj : j < O.size) (u : Value) : Pl Y be bp (O.setIfInBounds j u) (y.setCell ⟨bp, j, none⟩ u) := by
  have hn := h.n
  refine ⟨h.x.setAny (by omega) u, fun k => ?_, fun k => ?_, by have := h.f; simpa using this, ?_, h.n, h.e⟩
  · by_cases e : k = j
    · subst e
      have h1 := h.b k
      rw [Array.getElem?_eq_getElem hj] at h1
      rw [Array.getElem?_setIfInBounds_self_of_lt hj]
      exact World.cell?_setCell_same _ _ _ h1
    · rw [Array.getElem?_setIfInBounds_ne (fun h' => e h'.symm), ← h.b k]
      exact World.cell?_setCell_other _ _ _ _ (fun h' => e (by have := congrArg Addr.off h'; exact this.symm))
  · rw [World.frozen?_setCell]; exact h.c k
  · rw [← h.r]
    exact heap_setCell_other y ⟨bp, j, none⟩ _ u (fun e => by have e2 : Y.heap.size = bp := e; omega)
/-- A row of wants, read so far. -/
def Rw (bp : Nat) (ws : List W.WantD) (v : Value) (y : World) : Prop := y.ownsRow (bp + 1) 46 7 v ws.length (W.flatR ws)
theorem Rw.below {bp : Nat} {ws : List W.WantD} {v : Value} {y y' : World} (h : Rw bp ws v y) (hb : Below y.heap.size y y') : Rw bp ws v y' := W.owns_below h hb
theorem Rw.ge {bp : Nat} {ws : List W.WantD} {v : Value} {y : World} (h : Rw bp ws v y) : ∀ k, v.ownBlock = some k → bp + 1 ≤ k := W.owns_ge h
theorem Rw.ex {bp kr : Nat} {ws : List W.WantD} {v : Value} {y y' : World} (h : Rw bp ws v y) (hx : Ex kr y y') (hk : kr ≤ bp) : Rw bp ws v y' := by
  refine World.ownsRow.kept h (W.ex_grown hx) ?_
  cases hv : v.ownBlock with
  | none => exact Or.inl rfl
  | some k =>
    right
    intro e
    have := h.ge k hv
    have e2 := Option.some.inj e
    omega
theorem Rw.shape {bp : Nat} {ws : List W.WantD} {v : Value} {y : World} (h : Rw bp ws v y) : ∃ a c, v = .slice a ws.length c := by
  obtain ⟨-, ⟨rfl, hn⟩ | ⟨g, cap, cur, rfl, -⟩⟩ := h
  · rw [hn]; exact ⟨none, 0, rfl⟩
  · exact ⟨_, cap, rfl⟩
theorem Rw.nil (bp : Nat) (y : World) : Rw bp [] (.slice none 0 0) y := ⟨rfl, Or.inl ⟨rfl, rfl⟩⟩
theorem Rw.sl {bp : Nat} {ws : List W.WantD} {v : Value} {y : World} (h : Rw bp ws v y) : W.Sl y v ws (bp + 1) := W.Sl.of_owns h
theorem Rw.cap {bp : Nat} {ws : List W.WantD} {v : Value} {y : World} (h : Rw bp ws v y) : ∀ g n c, v = .slice (some ⟨g, 0, none⟩) n c → n ≤ c := by
  intro g n c e
  obtain ⟨-, ⟨rfl, hn⟩ | ⟨g', cap, cur, rfl, -, -, h1, -⟩⟩ := h
  · cases e
  · cases e; exact h1
/-- How many wants stand in the parcel. -/
def cntW (bp : Nat) (w : World) : Nat := match w.cell? ⟨bp, 3, none⟩ with
  | some (.slice _ n _) => n
  | _ => 0
end Go.Proofs.YtgakmkhbnjofhaaGreatDoor
