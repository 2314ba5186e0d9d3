import Derived.Test.YtefkdohkjdopeaaGreatDoorJ11
import Derived.Test.YtefkdohkjdopeaaGreatDoorJ02
import Derived.Test.YtefkdohkjdopeaaGreatDoorJ04
import Derived.Test.YtefkdohkjdopeaaGreatDoorJ17
namespace Go.Proofs.YtefkdohkjdopeaaGreatDoor
open Go.RowKit
set_option linter.unusedVariables false
def foldK {α : Type} (st : Int → α → Int) (k0 : Int) (l : List α) : Nat → Int
 | 0 => k0
 | m + 1 => match l[m]? with
  | some a => st (foldK st k0 l m) a
  | none => foldK st k0 l m
def markL {α : Type} (st : Int → α → Int) (mk : Int → α → α) (k0 : Int) (l : List α) : Nat → List α
 | 0 => l
 | m + 1 => match l[m]? with
  | some a => (markL st mk k0 l m).set m (mk (foldK st k0 l m) a)
  | none => markL st mk k0 l m
theorem foldK_succ {α : Type} {st : Int → α → Int} {k0 : Int} {l : List α} {m : Nat} {a : α} (h : l[m]? = some a) : foldK st k0 l (m + 1) = st (foldK st k0 l m) a := by
 show (match l[m]? with | some a => st (foldK st k0 l m) a | none => foldK st k0 l m) = _
 rw [h]
theorem markL_succ {α : Type} {st : Int → α → Int} {mk : Int → α → α} {k0 : Int} {l : List α} {m : Nat} {a : α} (h : l[m]? = some a) : markL st mk k0 l (m + 1) = (markL st mk k0 l m).set m (mk (foldK st k0 l m) a) := by
 show (match l[m]? with | some a => (markL st mk k0 l m).set m (mk (foldK st k0 l m) a) | none => markL st mk k0 l m) = _
 rw [h]
theorem markL_none {α : Type} {st : Int → α → Int} {mk : Int → α → α} {k0 : Int} {l : List α} {m : Nat} (h : l[m]? = none) : markL st mk k0 l (m + 1) = markL st mk k0 l m := by
 show (match l[m]? with | some a => (markL st mk k0 l m).set m (mk (foldK st k0 l m) a) | none => markL st mk k0 l m) = _
 rw [h]
theorem markL_len {α : Type} (st : Int → α → Int) (mk : Int → α → α) (k0 : Int) (l : List α) : ∀ m, (markL st mk k0 l m).length = l.length
 | 0 => rfl
 | m + 1 => by
  have ih := markL_len st mk k0 l m
  show (match l[m]? with | some a => (markL st mk k0 l m).set m (mk (foldK st k0 l m) a) | none => markL st mk k0 l m).length = _
  cases l[m]? with
  | none => exact ih
  | some a => simpa using ih
theorem markL_old {α : Type} (st : Int → α → Int) (mk : Int → α → α) (k0 : Int) (l : List α) : ∀ m j, m ≤ j → (markL st mk k0 l m)[j]? = l[j]?
 | 0, j, _ => rfl
 | m + 1, j, hj => by
  have ih := markL_old st mk k0 l m j (by omega)
  cases hm : l[m]? with
  | none => rw [show markL st mk k0 l (m + 1) = markL st mk k0 l m by (show (match l[m]? with | some a => (markL st mk k0 l m).set m (mk (foldK st k0 l m) a) | none => markL st mk k0 l m) = _); rw [hm]]; exact ih
  | some a => rw [markL_succ hm, List.getElem?_set_ne (by omega)]; exact ih
theorem markL_new {α : Type} (st : Int → α → Int) (mk : Int → α → α) (k0 : Int) (l : List α) : ∀ m j a, j < m → l[j]? = some a → (markL st mk k0 l m)[j]? = some (mk (foldK st k0 l j) a)
 | 0, j, a, hj, _ => absurd hj (by omega)
 | m + 1, j, a, hj, ha => by
  have hlen := markL_len st mk k0 l m
  have hjl : j < l.length := (List.getElem?_eq_some_iff.1 ha).1
  by_cases e : j = m
  ·
   subst e
   rw [markL_succ ha, List.getElem?_set_self (by rw [hlen]; exact hjl)]
  ·
   have ih := markL_new st mk k0 l m j a (by omega) ha
   cases hm : l[m]? with
   | none => rw [show markL st mk k0 l (m + 1) = markL st mk k0 l m by (show (match l[m]? with | some a => (markL st mk k0 l m).set m (mk (foldK st k0 l m) a) | none => markL st mk k0 l m) = _); rw [hm]]; exact ih
   | some b => rw [markL_succ hm, List.getElem?_set_ne (by omega)]; exact ih
theorem foldK_bound {α : Type} (st : Int → α → Int) (k0 : Int) (l : List α) (c : Int) (hc : ∀ k a, a ∈ l → k ≤ st k a ∧ st k a ≤ k + c) (c0 : 0 ≤ c) : ∀ m : Nat, k0 ≤ foldK st k0 l m ∧ foldK st k0 l m ≤ k0 + c * (m : Int)
 | 0 => by constructor <;> simp [foldK]
 | m + 1 => by
  have ih := foldK_bound st k0 l c hc c0 m
  have e : c * ((m + 1 : Nat) : Int) = c * (m : Int) + c := by rw [Int.natCast_add, Int.mul_add]; simp
  cases hm : l[m]? with
  | none =>
   have h1 : foldK st k0 l (m + 1) = foldK st k0 l m := by
    show (match l[m]? with | some a => st (foldK st k0 l m) a | none => foldK st k0 l m) = _
    rw [hm]
   rw [h1, e]; omega
  | some a =>
   rw [foldK_succ hm, e]
   have := hc (foldK st k0 l m) a (List.mem_of_getElem? hm)
   omega
theorem G.Sl.setc {w : World} {g n p B m j : Nat} {l : List G.GrantD} {r r' : G.GrantD} {u : Value} (h : G.Sl w (.slice (some ⟨g, 0, none⟩) n p) l B) (hr : l[m]? = some r) (hj : j < 5) (hc : r'.cells = r.cells.set j u) :
  G.Sl (w.setCell ⟨g, m * 5 + j, none⟩ u) (.slice (some ⟨g, 0, none⟩) n p) (l.set m r') B := by
 have hlt : m < l.length := (List.getElem?_eq_some_iff.1 hr).1
 rcases h with ⟨h1, h2⟩ | ⟨g', cap, h1, h2, h3, h4, h5⟩
 ·
  rw [h2] at hlt; simp at hlt
 ·
  injection h1 with e1 e2 e3
  injection e1 with e1
  injection e1 with e1
  subst e1 e2 e3
  have he : Ex g w (w.setCell ⟨g, m * 5 + j, none⟩ u) := (Ex.refl _ _).set _ _
  refine Or.inr ⟨g, _, by rw [List.length_set], h2, Nat.lt_of_lt_of_le h3 he.size, ?_, by rw [List.length_set]; exact World.there_setCells h5 g (m * 5 + j) [u]⟩
  intro k q hk i v hi
  have hin : i < 5 := by
   rcases Nat.lt_or_ge i 5 with h' | h'
   ·
    exact h'
   ·
    rw [List.getElem?_eq_none (by show 5 ≤ i; exact h')] at hi; cases hi
  rw [Nat.zero_add]
  by_cases e : m = k
  ·
   subst e
   rw [List.getElem?_set_self hlt] at hk
   injection hk with hk
   subst hk
   rw [hc] at hi
   by_cases e2 : i = j
   ·
    subst e2
    rw [List.getElem?_set_self (by show i < 5; exact hj)] at hi
    injection hi with hi
    subst hi
    have hz : i < r.cells.length := by show i < 5; exact hj
    have h0 := h4 m r hr i _ (List.getElem?_eq_getElem hz)
    rw [Nat.zero_add] at h0
    exact World.cell?_setCell_same _ _ _ h0
   ·
    rw [List.getElem?_set_ne (fun h' => e2 h'.symm)] at hi
    rw [World.cell?_setCell_other _ _ _ _ (fun h' => e2 (by have := congrArg Addr.off h'; simp only at this; omega))]
    have h0 := h4 m r hr i v hi
    rwa [Nat.zero_add] at h0
  ·
   rw [List.getElem?_set_ne e] at hk
   rw [World.cell?_setCell_other _ _ _ _ (fun h' => e (by have := congrArg Addr.off h'; simp only at this; omega))]
   have h0 := h4 k q hk i v hi
   rwa [Nat.zero_add] at h0
theorem G.Sl.off {P : Nat → Prop} {w w' : World} {v : Value} {l : List G.GrantD} {B : Nat} (h : G.Sl w v l B) (ho : Off P w w') (hn : ∀ g, v.ownBlock = some g → ¬ P g) : G.Sl w' v l B := by
 rcases h with h | ⟨g, cap, rfl, h1, h2, h3, h4⟩
 ·
  exact Or.inl h
 ·
  have hg : ¬ P g := hn g rfl
  have hc : ∀ o, w'.cell? ⟨g, o, none⟩ = w.cell? ⟨g, o, none⟩ := fun o => World.cell?_of_block (w := w) (a := ⟨g, o, none⟩) (ho.block g h2 hg)
  have hfz : ∀ o, w'.frozen? ⟨g, o, none⟩ = w.frozen? ⟨g, o, none⟩ := fun o => World.frozen?_of_block (w := w) (a := ⟨g, o, none⟩) (ho.block g h2 hg)
  exact Or.inr ⟨g, cap, rfl, h1, Nat.lt_of_lt_of_le h2 ho.size, fun k r hk j v hj => (hc _).trans (h3 k r hk j v hj), fun j hj => ⟨by rw [hc]; exact (h4 j hj).1, by rw [hfz]; exact (h4 j hj).2⟩⟩
theorem G.Sl.low {w : World} {v : Value} {l : List G.GrantD} {B B' : Nat} (h : G.Sl w v l B) (hB : B' ≤ B) : G.Sl w v l B' := by
 rcases h with h | ⟨g, cap, h0, h1, h2, h3, h4⟩
 ·
  exact Or.inl h
 ·
  exact Or.inr ⟨g, cap, h0, Nat.le_trans hB h1, h2, h3, h4⟩
theorem G.Sl.row {w : World} {v : Value} {B m : Nat} {l : List G.GrantD} {r : G.GrantD} (h : G.Sl w v l B) (hr : l[m]? = some r) :
  ∃ g cap, v = .slice (some ⟨g, 0, none⟩) l.length cap ∧ g < w.heap.size ∧ G.RowsAt w g 0 l ∧ ∀ j, j < 5 → w.frozen? ⟨g, m * 5 + j, none⟩ = false := by
 have hlt : m < l.length := (List.getElem?_eq_some_iff.1 hr).1
 rcases h with ⟨h1, h2⟩ | ⟨g, cap, h1, h2, h3, h4, h5⟩
 ·
  rw [h2] at hlt; simp at hlt
 ·
  refine ⟨g, cap, h1, h3, h4, fun j hj => ?_⟩
  have := (h5 (m * 5 + j) (by omega)).2
  rwa [Nat.zero_add] at this
theorem Pr.Sl.setc {w : World} {g n p B m j : Nat} {l : List Pr.PlRaw} {r r' : Pr.PlRaw} {u : Value} (h : Pr.Sl w (.slice (some ⟨g, 0, none⟩) n p) l B) (hr : l[m]? = some r) (hj : j < 3) (hc : r'.cells = r.cells.set j u) :
  Pr.Sl (w.setCell ⟨g, m * 3 + j, none⟩ u) (.slice (some ⟨g, 0, none⟩) n p) (l.set m r') B := by
 have hlt : m < l.length := (List.getElem?_eq_some_iff.1 hr).1
 rcases h with ⟨h1, h2⟩ | ⟨g', cap, h1, h2, h3, h4, h5⟩
 ·
  rw [h2] at hlt; simp at hlt
 ·
  injection h1 with e1 e2 e3
  injection e1 with e1
  injection e1 with e1
  subst e1 e2 e3
  have he : Ex g w (w.setCell ⟨g, m * 3 + j, none⟩ u) := (Ex.refl _ _).set _ _
  refine Or.inr ⟨g, _, by rw [List.length_set], h2, Nat.lt_of_lt_of_le h3 he.size, ?_, by rw [List.length_set]; exact World.there_setCells h5 g (m * 3 + j) [u]⟩
  intro k q hk i v hi
  have hin : i < 3 := by
   rcases Nat.lt_or_ge i 3 with h' | h'
   ·
    exact h'
   ·
    rw [List.getElem?_eq_none (by show 3 ≤ i; exact h')] at hi; cases hi
  rw [Nat.zero_add]
  by_cases e : m = k
  ·
   subst e
   rw [List.getElem?_set_self hlt] at hk
   injection hk with hk
   subst hk
   rw [hc] at hi
   by_cases e2 : i = j
   ·
    subst e2
    rw [List.getElem?_set_self (by show i < 3; exact hj)] at hi
    injection hi with hi
    subst hi
    have hz : i < r.cells.length := by show i < 3; exact hj
    have h0 := h4 m r hr i _ (List.getElem?_eq_getElem hz)
    rw [Nat.zero_add] at h0
    exact World.cell?_setCell_same _ _ _ h0
   ·
    rw [List.getElem?_set_ne (fun h' => e2 h'.symm)] at hi
    rw [World.cell?_setCell_other _ _ _ _ (fun h' => e2 (by have := congrArg Addr.off h'; simp only at this; omega))]
    have h0 := h4 m r hr i v hi
    rwa [Nat.zero_add] at h0
  ·
   rw [List.getElem?_set_ne e] at hk
   rw [World.cell?_setCell_other _ _ _ _ (fun h' => e (by have := congrArg Addr.off h'; simp only at this; omega))]
   have h0 := h4 k q hk i v hi
   rwa [Nat.zero_add] at h0
theorem Pr.Sl.off {P : Nat → Prop} {w w' : World} {v : Value} {l : List Pr.PlRaw} {B : Nat} (h : Pr.Sl w v l B) (ho : Off P w w') (hn : ∀ g, v.ownBlock = some g → ¬ P g) : Pr.Sl w' v l B := by
 rcases h with h | ⟨g, cap, rfl, h1, h2, h3, h4⟩
 ·
  exact Or.inl h
 ·
  have hg : ¬ P g := hn g rfl
  have hc : ∀ o, w'.cell? ⟨g, o, none⟩ = w.cell? ⟨g, o, none⟩ := fun o => World.cell?_of_block (w := w) (a := ⟨g, o, none⟩) (ho.block g h2 hg)
  have hfz : ∀ o, w'.frozen? ⟨g, o, none⟩ = w.frozen? ⟨g, o, none⟩ := fun o => World.frozen?_of_block (w := w) (a := ⟨g, o, none⟩) (ho.block g h2 hg)
  exact Or.inr ⟨g, cap, rfl, h1, Nat.lt_of_lt_of_le h2 ho.size, fun k r hk j v hj => (hc _).trans (h3 k r hk j v hj), fun j hj => ⟨by rw [hc]; exact (h4 j hj).1, by rw [hfz]; exact (h4 j hj).2⟩⟩
theorem Pr.Sl.low {w : World} {v : Value} {l : List Pr.PlRaw} {B B' : Nat} (h : Pr.Sl w v l B) (hB : B' ≤ B) : Pr.Sl w v l B' := by
 rcases h with h | ⟨g, cap, h0, h1, h2, h3, h4⟩
 ·
  exact Or.inl h
 ·
  exact Or.inr ⟨g, cap, h0, Nat.le_trans hB h1, h2, h3, h4⟩
theorem Pr.Sl.row {w : World} {v : Value} {B m : Nat} {l : List Pr.PlRaw} {r : Pr.PlRaw} (h : Pr.Sl w v l B) (hr : l[m]? = some r) :
  ∃ g cap, v = .slice (some ⟨g, 0, none⟩) l.length cap ∧ g < w.heap.size ∧ Pr.RowsAt w g 0 l ∧ ∀ j, j < 3 → w.frozen? ⟨g, m * 3 + j, none⟩ = false := by
 have hlt : m < l.length := (List.getElem?_eq_some_iff.1 hr).1
 rcases h with ⟨h1, h2⟩ | ⟨g, cap, h1, h2, h3, h4, h5⟩
 ·
  rw [h2] at hlt; simp at hlt
 ·
  refine ⟨g, cap, h1, h3, h4, fun j hj => ?_⟩
  have := (h5 (m * 3 + j) (by omega)).2
  rwa [Nat.zero_add] at this
theorem Pc.Sl.setc {w : World} {g n p B m j : Nat} {l : List Pc.PcRaw} {r r' : Pc.PcRaw} {u : Value} (h : Pc.Sl w (.slice (some ⟨g, 0, none⟩) n p) l B) (hr : l[m]? = some r) (hj : j < 7) (hc : r'.cells = r.cells.set j u) :
  Pc.Sl (w.setCell ⟨g, m * 7 + j, none⟩ u) (.slice (some ⟨g, 0, none⟩) n p) (l.set m r') B := by
 have hlt : m < l.length := (List.getElem?_eq_some_iff.1 hr).1
 rcases h with ⟨h1, h2⟩ | ⟨g', cap, h1, h2, h3, h4, h5⟩
 ·
  rw [h2] at hlt; simp at hlt
 ·
  injection h1 with e1 e2 e3
  injection e1 with e1
  injection e1 with e1
  subst e1 e2 e3
  have he : Ex g w (w.setCell ⟨g, m * 7 + j, none⟩ u) := (Ex.refl _ _).set _ _
  refine Or.inr ⟨g, _, by rw [List.length_set], h2, Nat.lt_of_lt_of_le h3 he.size, ?_, by rw [List.length_set]; exact World.there_setCells h5 g (m * 7 + j) [u]⟩
  intro k q hk i v hi
  have hin : i < 7 := by
   rcases Nat.lt_or_ge i 7 with h' | h'
   ·
    exact h'
   ·
    rw [List.getElem?_eq_none (by show 7 ≤ i; exact h')] at hi; cases hi
  rw [Nat.zero_add]
  by_cases e : m = k
  ·
   subst e
   rw [List.getElem?_set_self hlt] at hk
   injection hk with hk
   subst hk
   rw [hc] at hi
   by_cases e2 : i = j
   ·
    subst e2
    rw [List.getElem?_set_self (by show i < 7; exact hj)] at hi
    injection hi with hi
    subst hi
    have hz : i < r.cells.length := by show i < 7; exact hj
    have h0 := h4 m r hr i _ (List.getElem?_eq_getElem hz)
    rw [Nat.zero_add] at h0
    exact World.cell?_setCell_same _ _ _ h0
   ·
    rw [List.getElem?_set_ne (fun h' => e2 h'.symm)] at hi
    rw [World.cell?_setCell_other _ _ _ _ (fun h' => e2 (by have := congrArg Addr.off h'; simp only at this; omega))]
    have h0 := h4 m r hr i v hi
    rwa [Nat.zero_add] at h0
  ·
   rw [List.getElem?_set_ne e] at hk
   rw [World.cell?_setCell_other _ _ _ _ (fun h' => e (by have := congrArg Addr.off h'; simp only at this; omega))]
   have h0 := h4 k q hk i v hi
   rwa [Nat.zero_add] at h0
theorem Pc.Sl.off {P : Nat → Prop} {w w' : World} {v : Value} {l : List Pc.PcRaw} {B : Nat} (h : Pc.Sl w v l B) (ho : Off P w w') (hn : ∀ g, v.ownBlock = some g → ¬ P g) : Pc.Sl w' v l B := by
 rcases h with h | ⟨g, cap, rfl, h1, h2, h3, h4⟩
 ·
  exact Or.inl h
 ·
  have hg : ¬ P g := hn g rfl
  have hc : ∀ o, w'.cell? ⟨g, o, none⟩ = w.cell? ⟨g, o, none⟩ := fun o => World.cell?_of_block (w := w) (a := ⟨g, o, none⟩) (ho.block g h2 hg)
  have hfz : ∀ o, w'.frozen? ⟨g, o, none⟩ = w.frozen? ⟨g, o, none⟩ := fun o => World.frozen?_of_block (w := w) (a := ⟨g, o, none⟩) (ho.block g h2 hg)
  exact Or.inr ⟨g, cap, rfl, h1, Nat.lt_of_lt_of_le h2 ho.size, fun k r hk j v hj => (hc _).trans (h3 k r hk j v hj), fun j hj => ⟨by rw [hc]; exact (h4 j hj).1, by rw [hfz]; exact (h4 j hj).2⟩⟩
theorem Pc.Sl.low {w : World} {v : Value} {l : List Pc.PcRaw} {B B' : Nat} (h : Pc.Sl w v l B) (hB : B' ≤ B) : Pc.Sl w v l B' := by
 rcases h with h | ⟨g, cap, h0, h1, h2, h3, h4⟩
 ·
  exact Or.inl h
 ·
  exact Or.inr ⟨g, cap, h0, Nat.le_trans hB h1, h2, h3, h4⟩
theorem Pc.Sl.row {w : World} {v : Value} {B m : Nat} {l : List Pc.PcRaw} {r : Pc.PcRaw} (h : Pc.Sl w v l B) (hr : l[m]? = some r) :
  ∃ g cap, v = .slice (some ⟨g, 0, none⟩) l.length cap ∧ g < w.heap.size ∧ Pc.RowsAt w g 0 l ∧ ∀ j, j < 7 → w.frozen? ⟨g, m * 7 + j, none⟩ = false := by
 have hlt : m < l.length := (List.getElem?_eq_some_iff.1 hr).1
 rcases h with ⟨h1, h2⟩ | ⟨g, cap, h1, h2, h3, h4, h5⟩
 ·
  rw [h2] at hlt; simp at hlt
 ·
  refine ⟨g, cap, h1, h3, h4, fun j hj => ?_⟩
  have := (h5 (m * 7 + j) (by omega)).2
  rwa [Nat.zero_add] at this
structure Pc.PcD where
 k : Int
 b : ByteArray
 s : Int
 a : Option Addr
 c : Nat
 ws : List W.WantD
 h : ByteArray
 p : ByteArray
 t : Int
def Pc.raw (r : Pc.PcD) : Pc.PcRaw := ⟨r.k, r.b, r.s, r.a, r.ws.length, r.c, r.h, r.p, r.t⟩
structure PlO (w : World) (B : Nat) (qs : List P.PlaceD) (v : Value) : Prop where
 o : Pr.Sl w v (qs.map Pr.raw) B
 k : ∀ (j : Nat) q, qs[j]? = some q → W.Sl w (.slice q.a q.ws.length q.c) q.ws B
 nr : ∀ (j : Nat) q g, qs[j]? = some q → (Value.slice q.a q.ws.length q.c).ownBlock = some g → v.ownBlock ≠ some g
 dif : ∀ (i j : Nat) q r g, i < j → qs[i]? = some q → qs[j]? = some r → (Value.slice q.a q.ws.length q.c).ownBlock = some g → (Value.slice r.a r.ws.length r.c).ownBlock ≠ some g
def PlO.bs (qs : List P.PlaceD) (v : Value) (g : Nat) : Prop := v.ownBlock = some g ∨ ∃ (j : Nat) (q : P.PlaceD), qs[j]? = some q ∧ (Value.slice q.a q.ws.length q.c).ownBlock = some g
theorem PlO.lt {w : World} {B : Nat} {qs : List P.PlaceD} {v : Value} (h : PlO w B qs v) : ∀ g, PlO.bs qs v g → B ≤ g ∧ g < w.heap.size := by
 rintro g (hg | ⟨j, q, hq, hg⟩)
 ·
  exact h.o.lt g hg
 ·
  exact (h.k j q hq).lt g hg
theorem PlO.keep {w w' : World} {B : Nat} {qs : List P.PlaceD} {v : Value} (h : PlO w B qs v) (hb : Below w.heap.size w w') : PlO w' B qs v :=
 ⟨h.o.keep hb, fun j q hq => (h.k j q hq).keep hb, h.nr, h.dif⟩
theorem PlO.off {X : Nat → Prop} {w w' : World} {B : Nat} {qs : List P.PlaceD} {v : Value} (h : PlO w B qs v) (ho : Off X w w') (hn : ∀ g, PlO.bs qs v g → ¬ X g) : PlO w' B qs v :=
 ⟨h.o.off ho (fun g hg => hn g (Or.inl hg)), fun j q hq => (h.k j q hq).off ho (fun g hg => hn g (Or.inr ⟨j, q, hq, hg⟩)), h.nr, h.dif⟩
theorem PlO.low {w : World} {B B' : Nat} {qs : List P.PlaceD} {v : Value} (h : PlO w B qs v) (hB : B' ≤ B) : PlO w B' qs v :=
 ⟨h.o.low hB, fun j q hq => by
  rcases h.k j q hq with h | ⟨g, cap, h0, h1, h2, h3, h4⟩
  ·
   exact Or.inl h
  ·
   exact Or.inr ⟨g, cap, h0, Nat.le_trans hB h1, h2, h3, h4⟩, h.nr, h.dif⟩
theorem PlO.nil (w : World) (B : Nat) : PlO w B [] (.slice none 0 0) := ⟨Or.inl ⟨rfl, rfl⟩, fun j q hq => by simp at hq, fun j q g hq => by simp at hq, fun i j q r g _ hq => by simp at hq⟩
theorem PlO.bs_set {qs : List P.PlaceD} {v : Value} {m : Nat} {q q' : P.PlaceD} (hq : qs[m]? = some q) (e1 : q'.a = q.a) (e2 : q'.ws.length = q.ws.length) (e3 : q'.c = q.c) (g : Nat) : PlO.bs (qs.set m q') v g ↔ PlO.bs qs v g := by
 have hm : m < qs.length := (List.getElem?_eq_some_iff.1 hq).1
 have e : (Value.slice q'.a q'.ws.length q'.c) = (Value.slice q.a q.ws.length q.c) := by rw [e1, e2, e3]
 constructor
 ·
  rintro (h | ⟨j, r, hr, h⟩)
  ·
   exact Or.inl h
  ·
   by_cases ej : m = j
   ·
    subst ej
    rw [List.getElem?_set_self hm] at hr
    cases hr
    exact Or.inr ⟨m, q, hq, by rw [← e]; exact h⟩
   ·
    rw [List.getElem?_set_ne ej] at hr
    exact Or.inr ⟨j, r, hr, h⟩
 ·
  rintro (h | ⟨j, r, hr, h⟩)
  ·
   exact Or.inl h
  ·
   by_cases ej : m = j
   ·
    subst ej
    rw [hq] at hr
    cases hr
    exact Or.inr ⟨m, q', List.getElem?_set_self hm, by rw [e]; exact h⟩
   ·
    exact Or.inr ⟨j, r, by rw [List.getElem?_set_ne ej]; exact hr, h⟩
theorem PlO.apart {qs : List P.PlaceD} {v : Value} {m : Nat} {q q' : P.PlaceD} (hq : qs[m]? = some q) (e1 : q'.a = q.a) (e2 : q'.ws.length = q.ws.length) (e3 : q'.c = q.c)
  (nr : ∀ (j : Nat) q g, qs[j]? = some q → (Value.slice q.a q.ws.length q.c).ownBlock = some g → v.ownBlock ≠ some g) (dif : ∀ (i j : Nat) q r g, i < j → qs[i]? = some q → qs[j]? = some r → (Value.slice q.a q.ws.length q.c).ownBlock = some g → (Value.slice r.a r.ws.length r.c).ownBlock ≠ some g) :
  (∀ (j : Nat) q g, (qs.set m q')[j]? = some q → (Value.slice q.a q.ws.length q.c).ownBlock = some g → v.ownBlock ≠ some g) ∧ (∀ (i j : Nat) q r g, i < j → (qs.set m q')[i]? = some q → (qs.set m q')[j]? = some r → (Value.slice q.a q.ws.length q.c).ownBlock = some g → (Value.slice r.a r.ws.length r.c).ownBlock ≠ some g) := by
 have hm : m < qs.length := (List.getElem?_eq_some_iff.1 hq).1
 have e : (Value.slice q'.a q'.ws.length q'.c) = (Value.slice q.a q.ws.length q.c) := by rw [e1, e2, e3]
 have back : ∀ (j : Nat) r, (qs.set m q')[j]? = some r → ∃ r0, qs[j]? = some r0 ∧ (Value.slice r.a r.ws.length r.c) = (Value.slice r0.a r0.ws.length r0.c) := by
  intro j r hr
  by_cases ej : m = j
  ·
   subst ej
   rw [List.getElem?_set_self hm] at hr
   cases hr
   exact ⟨q, hq, e⟩
  ·
   rw [List.getElem?_set_ne ej] at hr
   exact ⟨r, hr, rfl⟩
 constructor
 ·
  intro j r g hr hg
  obtain ⟨r0, h0, e0⟩ := back j r hr
  rw [e0] at hg
  exact nr j r0 g h0 hg
 ·
  intro i j r s g hij hr hs hg
  obtain ⟨r0, h0, e0⟩ := back i r hr
  obtain ⟨s0, h1, e1⟩ := back j s hs
  rw [e0] at hg
  rw [e1]
  exact dif i j r0 s0 g hij h0 h1 hg
theorem PlO.setc {w : World} {g n p B m j : Nat} {qs : List P.PlaceD} {q q' : P.PlaceD} {u : Value} (h : PlO w B qs (.slice (some ⟨g, 0, none⟩) n p)) (hq : qs[m]? = some q) (hj : j < 3) (e1 : q'.a = q.a) (e2 : q'.ws = q.ws) (e3 : q'.c = q.c) (hc : (Pr.raw q').cells = (Pr.raw q).cells.set j u) :
  PlO (w.setCell ⟨g, m * 3 + j, none⟩ u) B (qs.set m q') (.slice (some ⟨g, 0, none⟩) n p) := by
 have hm : m < qs.length := (List.getElem?_eq_some_iff.1 hq).1
 have he : Ex g w (w.setCell ⟨g, m * 3 + j, none⟩ u) := (Ex.refl _ _).set _ _
 have hgr : w.grownBy (w.setCell ⟨g, m * 3 + j, none⟩ u) (some g) := W.ex_grown he
 obtain ⟨a1, a2⟩ := PlO.apart hq e1 (by rw [e2]) e3 h.nr h.dif
 refine ⟨?_, ?_, a1, a2⟩
 ·
  rw [List.map_set]
  exact h.o.setc (by rw [List.getElem?_map, hq]; rfl) hj hc
 ·
  intro i r hr
  have hold : ∀ r0, qs[i]? = some r0 → W.Sl (w.setCell ⟨g, m * 3 + j, none⟩ u) (.slice r0.a r0.ws.length r0.c) r0.ws B := fun r0 h0 => (h.k i r0 h0).grown hgr (by
   cases hx : (Value.slice r0.a r0.ws.length r0.c).ownBlock with
   | none => exact Or.inl rfl
   | some x => exact Or.inr (fun e => h.nr i r0 x h0 hx (by rw [e]; rfl)))
  by_cases ej : m = i
  ·
   subst ej
   rw [List.getElem?_set_self hm] at hr
   cases hr
   rw [e1, e2, e3]
   exact hold q hq
  ·
   rw [List.getElem?_set_ne ej] at hr
   exact hold r hr
theorem PlO.wants {w w' : World} {B m : Nat} {v : Value} {qs : List P.PlaceD} {q q' : P.PlaceD} (h : PlO w B qs v) (hq : qs[m]? = some q) (e1 : q'.a = q.a) (e2 : q'.ws.length = q.ws.length) (e3 : q'.c = q.c) (er : Pr.raw q' = Pr.raw q) (hw : W.Sl w' (.slice q.a q.ws.length q.c) q'.ws B) (hg : w.grownBy w' (Value.slice q.a q.ws.length q.c).ownBlock) :
  PlO w' B (qs.set m q') v := by
 have hm : m < qs.length := (List.getElem?_eq_some_iff.1 hq).1
 obtain ⟨a1, a2⟩ := PlO.apart hq e1 e2 e3 h.nr h.dif
 refine ⟨?_, ?_, a1, a2⟩
 ·
  rw [List.map_set, er]
  have : (qs.map Pr.raw).set m (Pr.raw q) = qs.map Pr.raw := by
   apply List.ext_getElem?
   intro i
   by_cases ei : m = i
   ·
    subst ei
    rw [List.getElem?_set_self (by rw [List.length_map]; exact hm), List.getElem?_map, hq]
    rfl
   ·
    rw [List.getElem?_set_ne ei]
  rw [this]
  refine h.o.grown hg ?_
  cases hv : v.ownBlock with
  | none => exact Or.inl rfl
  | some x => exact Or.inr (fun e => h.nr m q x hq e.symm hv)
 ·
  intro i r hr
  by_cases ej : m = i
  ·
   subst ej
   rw [List.getElem?_set_self hm] at hr
   cases hr
   rw [e1, e2, e3]
   exact hw
  ·
   rw [List.getElem?_set_ne ej] at hr
   refine (h.k i r hr).grown hg ?_
   cases hx : (Value.slice r.a r.ws.length r.c).ownBlock with
   | none => exact Or.inl rfl
   | some x =>
    refine Or.inr (fun e => ?_)
    rcases Nat.lt_or_gt_of_ne ej with hlt | hgt
    ·
     exact h.dif m i q r x hlt hq hr e.symm hx
    ·
     exact h.dif i m r q x hgt hr hq hx e.symm
structure PcO (w : World) (B : Nat) (qs : List Pc.PcD) (v : Value) : Prop where
 o : Pc.Sl w v (qs.map Pc.raw) B
 k : ∀ (j : Nat) q, qs[j]? = some q → W.Sl w (.slice q.a q.ws.length q.c) q.ws B
 nr : ∀ (j : Nat) q g, qs[j]? = some q → (Value.slice q.a q.ws.length q.c).ownBlock = some g → v.ownBlock ≠ some g
 dif : ∀ (i j : Nat) q r g, i < j → qs[i]? = some q → qs[j]? = some r → (Value.slice q.a q.ws.length q.c).ownBlock = some g → (Value.slice r.a r.ws.length r.c).ownBlock ≠ some g
def PcO.bs (qs : List Pc.PcD) (v : Value) (g : Nat) : Prop := v.ownBlock = some g ∨ ∃ (j : Nat) (q : Pc.PcD), qs[j]? = some q ∧ (Value.slice q.a q.ws.length q.c).ownBlock = some g
theorem PcO.lt {w : World} {B : Nat} {qs : List Pc.PcD} {v : Value} (h : PcO w B qs v) : ∀ g, PcO.bs qs v g → B ≤ g ∧ g < w.heap.size := by
 rintro g (hg | ⟨j, q, hq, hg⟩)
 ·
  exact h.o.lt g hg
 ·
  exact (h.k j q hq).lt g hg
theorem PcO.keep {w w' : World} {B : Nat} {qs : List Pc.PcD} {v : Value} (h : PcO w B qs v) (hb : Below w.heap.size w w') : PcO w' B qs v :=
 ⟨h.o.keep hb, fun j q hq => (h.k j q hq).keep hb, h.nr, h.dif⟩
theorem PcO.off {X : Nat → Prop} {w w' : World} {B : Nat} {qs : List Pc.PcD} {v : Value} (h : PcO w B qs v) (ho : Off X w w') (hn : ∀ g, PcO.bs qs v g → ¬ X g) : PcO w' B qs v :=
 ⟨h.o.off ho (fun g hg => hn g (Or.inl hg)), fun j q hq => (h.k j q hq).off ho (fun g hg => hn g (Or.inr ⟨j, q, hq, hg⟩)), h.nr, h.dif⟩
theorem PcO.low {w : World} {B B' : Nat} {qs : List Pc.PcD} {v : Value} (h : PcO w B qs v) (hB : B' ≤ B) : PcO w B' qs v :=
 ⟨h.o.low hB, fun j q hq => by
  rcases h.k j q hq with h | ⟨g, cap, h0, h1, h2, h3, h4⟩
  ·
   exact Or.inl h
  ·
   exact Or.inr ⟨g, cap, h0, Nat.le_trans hB h1, h2, h3, h4⟩, h.nr, h.dif⟩
theorem PcO.nil (w : World) (B : Nat) : PcO w B [] (.slice none 0 0) := ⟨Or.inl ⟨rfl, rfl⟩, fun j q hq => by simp at hq, fun j q g hq => by simp at hq, fun i j q r g _ hq => by simp at hq⟩
theorem PcO.apart {qs : List Pc.PcD} {v : Value} {m : Nat} {q q' : Pc.PcD} (hq : qs[m]? = some q) (e1 : q'.a = q.a) (e2 : q'.ws.length = q.ws.length) (e3 : q'.c = q.c)
  (nr : ∀ (j : Nat) q g, qs[j]? = some q → (Value.slice q.a q.ws.length q.c).ownBlock = some g → v.ownBlock ≠ some g) (dif : ∀ (i j : Nat) q r g, i < j → qs[i]? = some q → qs[j]? = some r → (Value.slice q.a q.ws.length q.c).ownBlock = some g → (Value.slice r.a r.ws.length r.c).ownBlock ≠ some g) :
  (∀ (j : Nat) q g, (qs.set m q')[j]? = some q → (Value.slice q.a q.ws.length q.c).ownBlock = some g → v.ownBlock ≠ some g) ∧ (∀ (i j : Nat) q r g, i < j → (qs.set m q')[i]? = some q → (qs.set m q')[j]? = some r → (Value.slice q.a q.ws.length q.c).ownBlock = some g → (Value.slice r.a r.ws.length r.c).ownBlock ≠ some g) := by
 have hm : m < qs.length := (List.getElem?_eq_some_iff.1 hq).1
 have e : (Value.slice q'.a q'.ws.length q'.c) = (Value.slice q.a q.ws.length q.c) := by rw [e1, e2, e3]
 have back : ∀ (j : Nat) r, (qs.set m q')[j]? = some r → ∃ r0, qs[j]? = some r0 ∧ (Value.slice r.a r.ws.length r.c) = (Value.slice r0.a r0.ws.length r0.c) := by
  intro j r hr
  by_cases ej : m = j
  ·
   subst ej
   rw [List.getElem?_set_self hm] at hr
   cases hr
   exact ⟨q, hq, e⟩
  ·
   rw [List.getElem?_set_ne ej] at hr
   exact ⟨r, hr, rfl⟩
 constructor
 ·
  intro j r g hr hg
  obtain ⟨r0, h0, e0⟩ := back j r hr
  rw [e0] at hg
  exact nr j r0 g h0 hg
 ·
  intro i j r s g hij hr hs hg
  obtain ⟨r0, h0, e0⟩ := back i r hr
  obtain ⟨s0, h1, e1⟩ := back j s hs
  rw [e0] at hg
  rw [e1]
  exact dif i j r0 s0 g hij h0 h1 hg
theorem PcO.setc {w : World} {g n p B m j : Nat} {qs : List Pc.PcD} {q q' : Pc.PcD} {u : Value} (h : PcO w B qs (.slice (some ⟨g, 0, none⟩) n p)) (hq : qs[m]? = some q) (hj : j < 7) (e1 : q'.a = q.a) (e2 : q'.ws = q.ws) (e3 : q'.c = q.c) (hc : (Pc.raw q').cells = (Pc.raw q).cells.set j u) :
  PcO (w.setCell ⟨g, m * 7 + j, none⟩ u) B (qs.set m q') (.slice (some ⟨g, 0, none⟩) n p) := by
 have hm : m < qs.length := (List.getElem?_eq_some_iff.1 hq).1
 have he : Ex g w (w.setCell ⟨g, m * 7 + j, none⟩ u) := (Ex.refl _ _).set _ _
 have hgr : w.grownBy (w.setCell ⟨g, m * 7 + j, none⟩ u) (some g) := W.ex_grown he
 obtain ⟨a1, a2⟩ := PcO.apart hq e1 (by rw [e2]) e3 h.nr h.dif
 refine ⟨?_, ?_, a1, a2⟩
 ·
  rw [List.map_set]
  exact h.o.setc (by rw [List.getElem?_map, hq]; rfl) hj hc
 ·
  intro i r hr
  have hold : ∀ r0, qs[i]? = some r0 → W.Sl (w.setCell ⟨g, m * 7 + j, none⟩ u) (.slice r0.a r0.ws.length r0.c) r0.ws B := fun r0 h0 => (h.k i r0 h0).grown hgr (by
   cases hx : (Value.slice r0.a r0.ws.length r0.c).ownBlock with
   | none => exact Or.inl rfl
   | some x => exact Or.inr (fun e => h.nr i r0 x h0 hx (by rw [e]; rfl)))
  by_cases ej : m = i
  ·
   subst ej
   rw [List.getElem?_set_self hm] at hr
   cases hr
   rw [e1, e2, e3]
   exact hold q hq
  ·
   rw [List.getElem?_set_ne ej] at hr
   exact hold r hr
theorem PcO.wants {w w' : World} {B m : Nat} {v : Value} {qs : List Pc.PcD} {q q' : Pc.PcD} (h : PcO w B qs v) (hq : qs[m]? = some q) (e1 : q'.a = q.a) (e2 : q'.ws.length = q.ws.length) (e3 : q'.c = q.c) (er : Pc.raw q' = Pc.raw q) (hw : W.Sl w' (.slice q.a q.ws.length q.c) q'.ws B) (hg : w.grownBy w' (Value.slice q.a q.ws.length q.c).ownBlock) :
  PcO w' B (qs.set m q') v := by
 have hm : m < qs.length := (List.getElem?_eq_some_iff.1 hq).1
 obtain ⟨a1, a2⟩ := PcO.apart hq e1 e2 e3 h.nr h.dif
 refine ⟨?_, ?_, a1, a2⟩
 ·
  rw [List.map_set, er]
  have : (qs.map Pc.raw).set m (Pc.raw q) = qs.map Pc.raw := by
   apply List.ext_getElem?
   intro i
   by_cases ei : m = i
   ·
    subst ei
    rw [List.getElem?_set_self (by rw [List.length_map]; exact hm), List.getElem?_map, hq]
    rfl
   ·
    rw [List.getElem?_set_ne ei]
  rw [this]
  refine h.o.grown hg ?_
  cases hv : v.ownBlock with
  | none => exact Or.inl rfl
  | some x => exact Or.inr (fun e => h.nr m q x hq e.symm hv)
 ·
  intro i r hr
  by_cases ej : m = i
  ·
   subst ej
   rw [List.getElem?_set_self hm] at hr
   cases hr
   rw [e1, e2, e3]
   exact hw
  ·
   rw [List.getElem?_set_ne ej] at hr
   refine (h.k i r hr).grown hg ?_
   cases hx : (Value.slice r.a r.ws.length r.c).ownBlock with
   | none => exact Or.inl rfl
   | some x =>
    refine Or.inr (fun e => ?_)
    rcases Nat.lt_or_gt_of_ne ej with hlt | hgt
    ·
     exact h.dif m i q r x hlt hq hr e.symm hx
    ·
     exact h.dif i m r q x hgt hr hq hx e.symm
end Go.Proofs.YtefkdohkjdopeaaGreatDoor
