import Derived.Test.YtgakmkhbnjofhaaGreatDoorJ11
namespace Go.Proofs.YtgakmkhbnjofhaaGreatDoor
open Go.RowKit
set_option linter.unusedVariables false
structure In (sl : Nat → Nat) (n : Nat) (a0 : Act) (G : World → Nat → Value → Prop) (D : Int → World → Prop) (q : Int) (listed : Array Bool) (a : Act) (w : World) : Prop where
 df : a.defers = a0.defers
 sz : a.tmps.size = a0.tmps.size
 out : ∀ k, (∀ i, i < n → sl i ≠ k) → a.tmps.getD k undef = a0.tmps.getD k undef
 lz : listed.size = n
 good : ∀ i, i < n → listed.getD i false = true → G w i (a.tmps.getD (sl i) undef)
 d : ∃ p, D p w ∧ p + (openOf listed : Int) ≤ q + (n : Int)
section
variable {sl : Nat → Nat} {n : Nat} {md : Region.Mode} {ops : Array Oper} {a0 : Act} {G : World → Nat → Value → Prop} {D : Int → World → Prop} {q p' : Int} {listed : Array Bool} {a : Act} {w w' : World} {i : Nat} {v : Value}
theorem In.put (h : In sl n a0 G D q listed a w) (ho : listed.getD i true = false) (hi : i < n) (hlt : sl i < a0.tmps.size) (hinj : ∀ j, j < n → sl j = sl i → j = i) (hg : G w' i v)
  (hk : ∀ j u, j < n → G w j u → G w' j u) (hd : ∀ p, D p w → p + (openOf listed : Int) ≤ q + (n : Int) → ∃ p', D p' w' ∧ p' ≤ p + 1) : In sl n a0 G D q (listed.setIfInBounds i true) (a.put (some (sl i)) v) w' := by
 have hsz := h.sz
 have hlz := h.lz
 have hop := openOf_set ho
 obtain ⟨p, hp, hpq⟩ := h.d
 obtain ⟨p2, hp2, hle⟩ := hd p hp hpq
 refine ⟨h.df, by simpa [Act.put] using hsz, ?_, by simpa using hlz, ?_, p2, hp2, by omega⟩
 ·
  intro k hko
  rw [← h.out k hko]
  simp only [Act.put, Array.getD_eq_getD_getElem?]
  rw [Array.getElem?_setIfInBounds_ne (hko i hi)]
 ·
  intro j hj hl
  by_cases e : j = i
  ·
   subst e
   simp only [Act.put, Array.getD_eq_getD_getElem?]
   rw [Array.getElem?_setIfInBounds_self_of_lt (by omega)]
   exact hg
  ·
   have hl' : listed.getD j false = true := by
    simp only [Array.getD_eq_getD_getElem?] at hl ⊢
    rwa [Array.getElem?_setIfInBounds_ne (fun x => e x.symm)] at hl
   have h1 := hk j _ hj (h.good j hj hl')
   simp only [Act.put, Array.getD_eq_getD_getElem?] at h1 ⊢
   rw [Array.getElem?_setIfInBounds_ne (fun e' => e (hinj j hj e'.symm))]
   exact h1
theorem In.putP (h : In sl n a0 G D q listed a w) (ho : listed.getD i true = false) (hi : i < n) (hlt : sl i < a0.tmps.size) (hinj : ∀ j, j < n → sl j = sl i → j = i) (hg : G w' i v)
  (hk : ∀ j u, j < n → G w j u → G w' j u) {p : Int} (hpq : p + (openOf listed : Int) ≤ q + (n : Int)) (hp2 : D p' w') (hle : p' ≤ p + 1) : In sl n a0 G D q (listed.setIfInBounds i true) (a.put (some (sl i)) v) w' := by
 have hsz := h.sz
 have hlz := h.lz
 have hop := openOf_set ho
 refine ⟨h.df, by simpa [Act.put] using hsz, ?_, by simpa using hlz, ?_, p', hp2, by omega⟩
 ·
  intro k hko
  rw [← h.out k hko]
  simp only [Act.put, Array.getD_eq_getD_getElem?]
  rw [Array.getElem?_setIfInBounds_ne (hko i hi)]
 ·
  intro j hj hl
  by_cases e : j = i
  ·
   subst e
   simp only [Act.put, Array.getD_eq_getD_getElem?]
   rw [Array.getElem?_setIfInBounds_self_of_lt (by omega)]
   exact hg
  ·
   have hl' : listed.getD j false = true := by
    simp only [Array.getD_eq_getD_getElem?] at hl ⊢
    rwa [Array.getElem?_setIfInBounds_ne (fun x => e x.symm)] at hl
   have h1 := hk j _ hj (h.good j hj hl')
   simp only [Act.put, Array.getD_eq_getD_getElem?] at h1 ⊢
   rw [Array.getElem?_setIfInBounds_ne (fun e' => e (hinj j hj e'.symm))]
   exact h1
theorem In.same (h : In sl n a0 G D q listed a w) (ho : listed.getD i true = false) (hi : i < n) (hlt : sl i < a0.tmps.size) (hinj : ∀ j, j < n → sl j = sl i → j = i) (hg : G w i v) : In sl n a0 G D q (listed.setIfInBounds i true) (a.put (some (sl i)) v) w :=
 h.put ho hi hlt hinj hg (fun _ _ _ h => h) (fun p hp _ => ⟨p, hp, by omega⟩)
end
theorem reg_invN {P : Program} {ops : Array Oper} {Q : Exit → Act → World → Prop} {a0 : Act} {w0 : World} (sl : Nat → Nat) (n : Nat) (G : World → Nat → Value → Prop) (D : Int → World → Prop) (q : Int)
  (hd : depsOk ops = true) (hops : ops.size = n) (hD : D q w0)
  (done : ∀ a y p, In sl n a0 G D q (Array.replicate n true) a y → D p y → p ≤ q + n → Q .normal a y)
  (step : ∀ listed x y i, In sl n a0 G D q listed x y → i ∈ Region.ready .any ops listed → i < n → wpOp P ops Q i (In sl n a0 G D q (listed.setIfInBounds i true)) x y) :
  wpAny P .any ops Q ops.size (Array.replicate ops.size false) a0 w0 := by
 have hrep : openOf (Array.replicate ops.size false) ≤ ops.size := by
  unfold openOf
  exact Nat.le_trans List.countP_le_length (by simp)
 refine wpAny_inv (In sl n a0 G D q) (fun listed x y i hI hi => step listed x y i hI hi (by have := List.mem_range.1 (List.mem_filter.1 hi).1; omega)) ?_ _ _ _ _ hrep ?_
 ·
  intro listed x y hI hr
  have hall := all_listed hd hr (by rw [hI.lz, hops])
  obtain ⟨p, hp, hpq⟩ := hI.d
  have ht : openOf (Array.replicate n true) = 0 := by simp [openOf, List.countP_replicate]
  refine done x y p ⟨hI.df, hI.sz, hI.out, by simp, fun i hi _ => hI.good i hi (hall i (by omega)), p, hp, ?_⟩ hp (by omega)
  rw [ht]
  omega
 ·
  refine ⟨rfl, rfl, fun _ _ => rfl, by simp [hops], ?_, q, hD, by omega⟩
  intro i _ h
  simp only [Array.getD_eq_getD_getElem?, Array.getElem?_replicate] at h
  split at h <;> cases h
theorem In.all {sl : Nat → Nat} {n : Nat} {a0 : Act} {G : World → Nat → Value → Prop} {D : Int → World → Prop} {q : Int} {a : Act} {w : World} (h : In sl n a0 G D q (Array.replicate n true) a w) (i : Nat) (hi : i < n) : G w i (a.tmps.getD (sl i) undef) :=
 h.good i hi (by simp only [Array.getD_eq_getD_getElem?, Array.getElem?_replicate, if_pos hi, Option.getD_some])
end Go.Proofs.YtgakmkhbnjofhaaGreatDoor
