/- A region by an invariant, where each operation has a slot. -/
import Derived.Test.YteebdpnpeglimaaDoorInv0
import Derived.Lib.ItoaNum
namespace Go.Proofs.YteebdpnpeglimaaDoor
open Go.RowKit
set_option linter.unusedVariables false

def waits (md : Region.Mode) (ops : Array Oper) (i j : Nat) : Bool := match ops[i]? with
  | some o => o.after.toList.any (fun e => Region.binds md e && e.on == j)
  | none => false
theorem waits_of {md : Region.Mode} {ops : Array Oper} {listed : Array Bool} {i j : Nat} (hi : i ∈ Region.ready md ops listed) (hd : waits md ops i j = true) : listed.getD j false = true := by
  unfold waits at hd
  split at hd
  · rename_i o ho; exact dep_listed hi ho hd
  · cases hd
structure Ip (sl : Nat → Nat) (n : Nat) (a0 : Act) (G : World → Nat → Value → Prop) (D : World → Prop) (listed : Array Bool) (a : Act) (w : World) : Prop where
  df : a.defers = a0.defers
  sz : a.tmps.size = a0.tmps.size
  out : ∀ k, (∀ i, i < n → sl i ≠ k) → a.tmps.getD k undef = a0.tmps.getD k undef
  lz : listed.size = n
  good : ∀ i, i < n → listed.getD i false = true → G w i (a.tmps.getD (sl i) undef)
  d : D w
section
variable {sl : Nat → Nat} {n : Nat} {md : Region.Mode} {ops : Array Oper} {a0 : Act} {G : World → Nat → Value → Prop} {D : World → Prop} {listed : Array Bool} {a : Act} {w w' : World} {i : Nat} {v : Value}
theorem Ip.put (h : Ip sl n a0 G D listed a w) (hi : i < n) (hlt : sl i < a0.tmps.size) (hinj : ∀ j, j < n → sl j = sl i → j = i) (hg : G w' i v)
    (hk : ∀ j u, j < n → G w j u → G w' j u) (hd : D w') : Ip sl n a0 G D (listed.setIfInBounds i true) (a.put (some (sl i)) v) w' := by
  have hsz := h.sz
  have hlz := h.lz
  refine ⟨h.df, by simpa [Act.put] using hsz, ?_, by simpa using hlz, ?_, hd⟩
  · intro k hko
    rw [← h.out k hko]
    simp only [Act.put, Array.getD_eq_getD_getElem?]
    rw [Array.getElem?_setIfInBounds_ne (hko i hi)]
  · intro j hj hl
    by_cases e : j = i
    · subst e
      simp only [Act.put, Array.getD_eq_getD_getElem?]
      rw [Array.getElem?_setIfInBounds_self_of_lt (by omega)]
      exact hg
    · have hl' : listed.getD j false = true := by
        simp only [Array.getD_eq_getD_getElem?] at hl ⊢
        rwa [Array.getElem?_setIfInBounds_ne (fun x => e x.symm)] at hl
      have h1 := hk j _ hj (h.good j hj hl')
      simp only [Act.put, Array.getD_eq_getD_getElem?] at h1 ⊢
      rw [Array.getElem?_setIfInBounds_ne (fun e' => e (hinj j hj e'.symm))]
      exact h1
end
theorem reg_invP {P : Program} {ops : Array Oper} {Q : Exit → Act → World → Prop} {a0 : Act} {w0 : World} (sl : Nat → Nat) (n : Nat) (G : World → Nat → Value → Prop) (D : World → Prop)
    (hd : depsOk ops = true) (hops : ops.size = n) (hD : D w0)
    (done : ∀ a y, Ip sl n a0 G D (Array.replicate n true) a y → Q .normal a y)
    (step : ∀ listed x y i, Ip sl n a0 G D listed x y → i ∈ Region.ready .any ops listed → i < n → wpOp P ops Q i (Ip sl n a0 G D (listed.setIfInBounds i true)) x y) :
    wpAny P .any ops Q ops.size (Array.replicate ops.size false) a0 w0 := by
  refine wpAny_inv (Ip sl n a0 G D) (fun listed x y i hI hi => step listed x y i hI hi (by have := List.mem_range.1 (List.mem_filter.1 hi).1; omega)) ?_ _ _ _ _ ?_ ?_
  · intro listed x y hI hr
    have hall := all_listed hd hr (by rw [hI.lz, hops])
    exact done x y ⟨hI.df, hI.sz, hI.out, by simp, fun i hi _ => hI.good i hi (hall i (by omega)), hI.d⟩
  · unfold openOf
    exact Nat.le_trans List.countP_le_length (by simp)
  · refine ⟨rfl, rfl, fun _ _ => rfl, by simp [hops], ?_, hD⟩
    intro i _ h
    simp only [Array.getD_eq_getD_getElem?, Array.getElem?_replicate] at h
    split at h <;> cases h
theorem Ip.all {sl : Nat → Nat} {n : Nat} {a0 : Act} {G : World → Nat → Value → Prop} {D : World → Prop} {a : Act} {w : World} (h : Ip sl n a0 G D (Array.replicate n true) a w) (i : Nat) (hi : i < n) : G w i (a.tmps.getD (sl i) undef) :=
  h.good i hi (by simp only [Array.getD_eq_getD_getElem?, Array.getElem?_replicate, if_pos hi, Option.getD_some])
theorem wp_cover {P : Program} {o : Oper} {a : Act} {w : World} {I : Act → World → Prop} {Q : Exit → Act → World → Prop} (h : ∀ K : Act → World → Prop, Hid (∀ a w, I a w → K a w) → o.wp P a w K Q) : o.wp P a w I Q := h I (fun _ _ h => h)
theorem frameP_of {a a0 : Act} {lo n : Nat} (df : a.defers = a0.defers) (sz : a.tmps.size = a0.tmps.size) (out : ∀ k, k < lo ∨ lo + n ≤ k → a.tmps.getD k undef = a0.tmps.getD k undef) (hn : lo + n ≤ a0.tmps.size) :
    ∃ l : List Value, l.length = n ∧ a = ⟨(a0.tmps.toList.take lo ++ (l ++ a0.tmps.toList.drop (lo + n))).toArray, a0.defers⟩ := by
  obtain ⟨⟨t⟩, d⟩ := a
  obtain ⟨⟨t0⟩, d0⟩ := a0
  simp only at df
  subst df
  have sz : t.length = t0.length := sz
  have hn : lo + n ≤ t0.length := hn
  refine ⟨(t.drop lo).take n, by simp; omega, ?_⟩
  have e : t = t0.take lo ++ ((t.drop lo).take n ++ t0.drop (lo + n)) := by
    apply List.ext_getElem?
    intro k
    rcases Nat.lt_or_ge k lo with h1 | h1
    · have h2 := out k (Or.inl h1)
      rw [List.getElem?_append_left (by simp; omega), List.getElem?_take_of_lt h1]
      simp only [Array.getD_eq_getD_getElem?, List.getElem?_toArray] at h2
      rw [List.getElem?_eq_getElem (by omega), List.getElem?_eq_getElem (by omega)] at h2 ⊢
      simpa using h2
    · rw [List.getElem?_append_right (by simp; omega)]
      have hl : (t0.take lo).length = lo := by simp; omega
      rw [hl]
      rcases Nat.lt_or_ge k (lo + n) with h3 | h3
      · rw [List.getElem?_append_left (by simp; omega), List.getElem?_take_of_lt (by omega), List.getElem?_drop]
        congr 1; omega
      · rw [List.getElem?_append_right (by simp; omega)]
        have hl2 : ((t.drop lo).take n).length = n := by simp; omega
        rw [hl2, List.getElem?_drop]
        have e2 : lo + n + (k - lo - n) = k := by omega
        rw [e2]
        have h2 := out k (Or.inr h3)
        simp only [Array.getD_eq_getD_getElem?, List.getElem?_toArray] at h2
        rcases Nat.lt_or_ge k t.length with h4 | h4
        · rw [List.getElem?_eq_getElem (by omega), List.getElem?_eq_getElem (by omega)] at h2 ⊢
          simpa using h2
        · rw [List.getElem?_eq_none h4, List.getElem?_eq_none (by omega)]
  show Act.mk ⟨t⟩ d = Act.mk ⟨_⟩ d
  exact congrArg (fun l => Act.mk ⟨l⟩ d) e
theorem lenP_succ {l : List Value} {k : Nat} (h : l.length = k + 1) : ∃ x t, l = x :: t ∧ t.length = k := by
  cases l with
  | nil => cases h
  | cons x t => exact ⟨x, t, rfl, by simpa using h⟩
theorem lenP_zero {l : List Value} (h : l.length = 0) : l = [] := List.eq_nil_of_length_eq_zero h
theorem frameP_two {a a0 : Act} {lo n se : Nat} (df : a.defers = a0.defers) (sz : a.tmps.size = a0.tmps.size) (hse : se < a0.tmps.size) (hn : lo + n ≤ a0.tmps.size) (out : ∀ k, k ≠ se → k < lo ∨ lo + n ≤ k → a.tmps.getD k undef = a0.tmps.getD k undef) :
    ∃ l : List Value, l.length = n ∧ a = ⟨((a0.tmps.setIfInBounds se (a.tmps.getD se undef)).toList.take lo ++ (l ++ (a0.tmps.setIfInBounds se (a.tmps.getD se undef)).toList.drop (lo + n))).toArray, a0.defers⟩ := by
  refine frameP_of (a := a) (a0 := ⟨a0.tmps.setIfInBounds se (a.tmps.getD se undef), a0.defers⟩) df (by simpa using sz) ?_ (by simpa using hn)
  intro k hk
  by_cases e : k = se
  · subst e
    simp only [Array.getD_eq_getD_getElem?]
    rw [Array.getElem?_setIfInBounds_self_of_lt hse, Option.getD_some]
  · rw [out k e hk]
    simp only [Array.getD_eq_getD_getElem?]
    rw [Array.getElem?_setIfInBounds_ne (fun e' => e e'.symm)]
end Go.Proofs.YteebdpnpeglimaaDoor
