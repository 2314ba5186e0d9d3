/- A region by an invariant. -/
import Derived.Test.YteebdpnpeglimaaDoorConv
namespace Go.Proofs.YteebdpnpeglimaaDoor
open Go.RowKit
section
variable {P : Program} {ops : Array Oper} {Q : Exit → Act → World → Prop} {md : Region.Mode}

/-- How many have not come up. -/
def openOf (listed : Array Bool) : Nat := listed.toList.countP (fun b => !b)

theorem openOf_set {listed : Array Bool} {i : Nat} (h : listed.getD i true = false) : openOf (listed.setIfInBounds i true) + 1 = openOf listed := by
  obtain ⟨l⟩ := listed
  simp only [openOf, List.setIfInBounds_toArray]
  have : l[i]? = some false := by
    simp only [Array.getD] at h
    split at h
    · rename_i hlt; simp at h hlt; rw [List.getElem?_eq_getElem hlt, h]
    · cases h
  clear h
  induction l generalizing i with
  | nil => simp at this
  | cons x l ih =>
    cases i with
    | zero => simp at this; subst this; simp
    | succ i =>
      simp at this
      have := ih this
      simp only [List.set_cons_succ, List.countP_cons]
      omega

theorem ready_open {listed : Array Bool} {i : Nat} (h : i ∈ Region.ready md ops listed) : listed.getD i true = false := by
  simp only [Region.ready, List.mem_filter, Bool.and_eq_true, Bool.not_eq_true'] at h
  exact h.2.1

theorem openOf_pos {listed : Array Bool} {i : Nat} (h : listed.getD i true = false) : 0 < openOf listed := by
  have := openOf_set h; omega

/-- A region by an invariant. -/
theorem wpAny_inv (I : Array Bool → Act → World → Prop)
    (step : ∀ listed a w i, I listed a w → i ∈ Region.ready md ops listed → wpOp P ops Q i (I (listed.setIfInBounds i true)) a w)
    (done : ∀ listed a w, I listed a w → Region.ready md ops listed = [] → Q .normal a w) :
    ∀ fuel listed a w, openOf listed ≤ fuel → I listed a w → wpAny P md ops Q fuel listed a w := by
  intro fuel
  induction fuel with
  | zero =>
    intro listed a w hf hI
    have hr : Region.ready md ops listed = [] := by
      cases h : Region.ready md ops listed with
      | nil => rfl
      | cons i rs =>
        have hi : i ∈ Region.ready md ops listed := by rw [h]; exact List.mem_cons_self ..
        have := openOf_pos (ready_open hi)
        omega
    exact ⟨hr, done _ _ _ hI hr⟩
  | succ fuel ih =>
    intro listed a w hf hI
    refine ⟨done _ _ _ hI, fun i hi => wpOp_mono (fun a' w' h => ih _ a' w' ?_ h) (step _ _ _ i hI hi)⟩
    have := openOf_set (ready_open hi)
    omega

def depsOk (ops : Array Oper) : Bool := (List.range ops.size).all fun i => match ops[i]? with | some o => o.after.toList.all (fun e => decide (e.on < i)) | none => true
theorem all_listed {listed : Array Bool} (hd : depsOk ops = true) (hr : Region.ready md ops listed = []) (hz : listed.size = ops.size) : ∀ i, i < ops.size → listed.getD i false = true := by
  intro i
  induction i using Nat.strongRecOn with
  | ind i ih =>
    intro hi
    have hl : listed.getD i false = listed[i]'(by omega) := by simp [Array.getD, show i < listed.size from by omega]
    have hl' : listed.getD i true = listed[i]'(by omega) := by simp [Array.getD, show i < listed.size from by omega]
    cases hb : listed[i]'(by omega) with
    | true => rw [hl, hb]
    | false =>
      exfalso
      have hmem : i ∈ Region.ready md ops listed := by
        simp only [Region.ready, List.mem_filter, List.mem_range, hi, true_and, hl', hb, Bool.not_false, Bool.true_and]
        have ho : ops[i]? = some ops[i] := Array.getElem?_eq_getElem hi
        rw [ho]
        simp only [Option.map_some, Option.getD_some]
        have h1 := List.all_eq_true.1 hd i (List.mem_range.2 hi)
        rw [ho] at h1
        simp only at h1
        rw [← Array.all_toList]
        refine List.all_eq_true.2 fun e he => ?_
        have h2 := of_decide_eq_true (List.all_eq_true.1 h1 e he)
        rw [ih e.on h2 (by omega)]
        simp
      rw [hr] at hmem
      cases hmem
theorem dep_listed {listed : Array Bool} {i j : Nat} {o : Oper} (hi : i ∈ Region.ready md ops listed) (ho : ops[i]? = some o) (he : o.after.toList.any (fun e => Region.binds md e && e.on == j) = true) : listed.getD j false = true := by
  have h := (List.mem_filter.1 hi).2
  rw [ho] at h
  simp only [Option.map_some, Option.getD_some, Bool.and_eq_true] at h
  obtain ⟨e, hm, hb⟩ := List.any_eq_true.1 he
  simp only [Bool.and_eq_true, beq_iff_eq] at hb
  have h2 := h.2
  rw [← Array.all_toList] at h2
  have h3 := List.all_eq_true.1 h2 e hm
  rw [hb.1, hb.2] at h3
  simpa using h3
end
theorem wpOp_plain {P : Program} {ops : Array Oper} {Q : Exit → Act → World → Prop} {i : Nat} {o : Oper} {K : Act → World → Prop} {a : Act} {w : World} (ho : ops[i]? = some o) (hg : o.guard = none) (h : o.wp P a w K Q) : wpOp P ops Q i K a w := by
  unfold wpOp
  simp only [ho]
  have hw : Region.wanted o (yielded ops a.tmps) = true := by simp [Region.wanted, hg]
  rw [if_pos hw]
  exact Or.inl h
theorem ev_tmp {a : Act} {k : Nat} {v : Value} (h : a.tmps.getD k undef = v) : a.tmps[k]?.getD undef = v := by rwa [Array.getD_eq_getD_getElem?] at h
end Go.Proofs.YteebdpnpeglimaaDoor
