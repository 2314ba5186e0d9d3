import Derived.Test.YtkkcfofhhgmbaaaGreatDoorRows
import Derived.WalkKit
import Derived.WalkSpells
import Derived.WalkLawsBesides
import Derived.Below
import Derived.Outline
import Derived.Laws.BytesString
import Derived.Lib.ItoaNum
/- The contracts of what the exact laws are made of: sizes, copies of a want and of a run. -/
namespace Go.Proofs.YtkkcfofhhgmbaaaGreatDoor
open Go.RowKit

/-- Old cells and old marks, behind a call that only lays new blocks. -/
theorem bcell {W w1 : World} (hb : Below W.heap.size W w1) : (∀ b o, b < W.heap.size → w1.cell? ⟨b, o, none⟩ = W.cell? ⟨b, o, none⟩) ∧ (∀ b o, b < W.heap.size → w1.frozen? ⟨b, o, none⟩ = W.frozen? ⟨b, o, none⟩) :=
  ⟨fun b o h => hb.cell (p := ⟨b, o, none⟩) h, fun b o h => hb.frozen (p := ⟨b, o, none⟩) h⟩

theorem bl_alloc {w w' : World} (h : Below w.heap.size w w') (o : Obj) : Below w.heap.size w (w'.alloc o) := h.alloc h.size o
theorem bl_drew {w w' : World} (h : Below w.heap.size w w') : Below w.heap.size w w'.drew := h.drew
theorem bl_trans {w w1 w2 : World} (h : Below w.heap.size w w1) (k : Below w1.heap.size w1 w2) : Below w.heap.size w w2 := h.trans (k.mono h.size)
theorem bl_set {w w' : World} (h : Below w.heap.size w w') {p : Addr} (hp : w.heap.size ≤ p.block) (u : Value) : Below w.heap.size w (w'.setCell p u) := h.setCell hp u

/-- The box of a call's own parameter, behind later blocks. -/
theorem box_keep {w w1 : World} {o : Obj} (h : Below (w.alloc o).heap.size (w.alloc o) w1) : ∀ k, w1.cell? ⟨w.heap.size, k, none⟩ = (w.alloc o).cell? ⟨w.heap.size, k, none⟩ :=
  fun k => h.cell (p := ⟨w.heap.size, k, none⟩) (by simp)

end Go.Proofs.YtkkcfofhhgmbaaaGreatDoor
/- Marks: the text of a number. -/
namespace Go.Proofs.YtkkcfofhhgmbaaaGreatDoor
open Go.RowKit
set_option linter.unusedVariables false

def mkGo : Nat → Int → ByteArray → ByteArray
  | 0, _, s => s
  | f + 1, k, s => if 0 < k then mkGo f (k / 10) ({ data := #[UInt8.ofNat (48 + k % 10).toNat] } ++ s) else s
/-- The text of a mark. -/
def markB (k : Int) : ByteArray := if k ≤ 0 then { data := #[109, 48] } else { data := #[109] } ++ mkGo 13 k { data := #[] }
theorem mkGo_end (f : Nat) (k : Int) (s : ByteArray) (h : k ≤ 0) : mkGo f k s = s := by
  cases f with
  | zero => rfl
  | succ f => exact if_neg (by omega)
theorem mkGo_step (f : Nat) (k : Int) (s : ByteArray) (h : 0 < k) : mkGo (f + 1) k s = mkGo f (k / 10) ({ data := #[UInt8.ofNat (48 + k % 10).toNat] } ++ s) := if_pos h

theorem size_front (c : UInt8) (t : ByteArray) : (({ data := #[c] } : ByteArray) ++ t).size = 1 + t.size := by rw [ByteArray.size_append']; rfl

theorem build_byte (n : Int) (w : World) : Sem.run Tryz.prog (Instr.buildSlice 63 1 #[(0, .int .u8 n)]) w = .ok (.slice (some ⟨w.heap.size, 0, none⟩) 1 1) (w.alloc (.cells #[.int .u8 n] 5)) := by kernel_rfl
theorem conv_byte (n : Int) (w : World) : Sem.run Tryz.prog (convert 63 9 (.slice (some ⟨w.heap.size, 0, none⟩) 1 1)) (w.alloc (.cells #[.int .u8 n] 5)) = .ok (.string ⟨#[UInt8.ofNat n.toNat]⟩) (w.alloc (.cells #[.int .u8 n] 5)) := by
  rw [run_convert_bytes_string _ _ _ 5 _ _ _ Tryz.underlying63 Tryz.underlying5 Tryz.underlying9]
  rw [run_bytesToString _ _ _ _ [n] (by simp [loadCells, go_sem])]
  rfl

theorem markText_any (k : Int) (hk : k ≤ 1000000000000) (w : World) : Calls Tryz.prog 31 #[.int .i64 k] w fun e w' => e = .returned (.string (markB k)) ∧ Below w.heap.size w w' := by
  by_cases h0 : k ≤ 0
  · have Hm : Hid (markB k = { data := #[109, 48] }) := if_pos h0
    go_enter Tryz.func31, Tryz.ntmps31
    go_wp2
    go_ret
    exact ⟨by rw [Hm.out]; rfl, Below.refl _ _⟩
  · have Hm : Hid (markB k = { data := #[109] } ++ mkGo 13 k { data := #[] }) := if_neg h0
    have hb := build_byte
    have hc := conv_byte
    go_enter Tryz.func31, Tryz.ntmps31
    go_wp2
    go_loopw [0, 3] (fun i s wx => ∃ (n : Int) (t : ByteArray), 0 ≤ n ∧ n ≤ 1000000000000 ∧ t.size ≤ 20 ∧ i = .int .i64 n ∧ s = .string t ∧ Hid (∃ f : Nat, n < (10 : Int) ^ f ∧ t.size + f ≤ 20 ∧ mkGo f n t = mkGo 13 k { data := #[] }) ∧ Below w.heap.size w wx) (fun i _ _ => (intOf i).toNat)
    case atStart => exact ⟨k, _, by omega, hk, by decide, rfl, rfl, ⟨13, by omega, by decide, rfl⟩, Below.refl _ _⟩
    case round =>
      obtain ⟨n, t, n0, n1, t1, rfl, rfl, Hf, hB⟩ := hrel
      by_cases hlt : 0 < n
      · go_wp2
        have hs : ∃ f : Nat, n / 10 < (10 : Int) ^ f ∧ 1 + t.size + f ≤ 20 ∧ mkGo f (n / 10) ({ data := #[UInt8.ofNat (48 + n % 10).toNat] } ++ t) = mkGo 13 k { data := #[] } := by
          obtain ⟨f, f1, f2, f3⟩ := Hf.out
          cases f with
          | zero => simp at f1; omega
          | succ f => exact ⟨f, by rw [Int.pow_succ] at f1; omega, by omega, by rw [← mkGo_step f n t hlt]; exact f3⟩
        obtain ⟨f, f1, f2, f3⟩ := hs
        exact ⟨⟨n / 10, _, by omega, by omega, by rw [size_front]; omega, rfl, rfl, ⟨f, f1, by rw [size_front]; omega, f3⟩, bl_alloc hB _⟩, by simp [intOf]; omega⟩
      · go_wp2
        go_ret
        obtain ⟨f, f1, f2, f3⟩ := Hf.out
        rw [mkGo_end f n t (by omega)] at f3
        exact ⟨by rw [Hm.out, ← f3]; rfl, hB⟩
end Go.Proofs.YtkkcfofhhgmbaaaGreatDoor
/- A region by an invariant. -/
namespace Go.Proofs.YtkkcfofhhgmbaaaGreatDoor
open Go.RowKit
section
variable {P : Program} {ops : Array Oper} {Q : Exit → Act → World → Prop} {md : Region.Mode}

/-- How many have not come up. -/
def openOf (listed : Array Bool) : Nat := listed.toList.countP (fun b => !b)

theorem openOf_set {listed : Array Bool} {i : Nat} (h : listed.getD i true = false) : openOf (listed.setIfInBounds i true) + 1 = openOf listed := by
  obtain ⟨l⟩ := listed
  simp only [openOf, List.setIfInBounds_toArray]
  have : l[i]? = some false := by
    simp only [Array.getD] at h
    split at h
    · rename_i hlt; simp at h hlt; rw [List.getElem?_eq_getElem hlt, h]
    · cases h
  clear h
  induction l generalizing i with
  | nil => simp at this
  | cons x l ih =>
    cases i with
    | zero => simp at this; subst this; simp
    | succ i =>
      simp at this
      have := ih this
      simp only [List.set_cons_succ, List.countP_cons]
      omega

theorem ready_open {listed : Array Bool} {i : Nat} (h : i ∈ Region.ready md ops listed) : listed.getD i true = false := by
  simp only [Region.ready, List.mem_filter, Bool.and_eq_true, Bool.not_eq_true'] at h
  exact h.2.1

theorem openOf_pos {listed : Array Bool} {i : Nat} (h : listed.getD i true = false) : 0 < openOf listed := by
  have := openOf_set h; omega

/-- A region by an invariant. -/
theorem wpAny_inv (I : Array Bool → Act → World → Prop)
    (step : ∀ listed a w i, I listed a w → i ∈ Region.ready md ops listed → wpOp P ops Q i (I (listed.setIfInBounds i true)) a w)
    (done : ∀ listed a w, I listed a w → Region.ready md ops listed = [] → Q .normal a w) :
    ∀ fuel listed a w, openOf listed ≤ fuel → I listed a w → wpAny P md ops Q fuel listed a w := by
  intro fuel
  induction fuel with
  | zero =>
    intro listed a w hf hI
    have hr : Region.ready md ops listed = [] := by
      cases h : Region.ready md ops listed with
      | nil => rfl
      | cons i rs =>
        have hi : i ∈ Region.ready md ops listed := by rw [h]; exact List.mem_cons_self ..
        have := openOf_pos (ready_open hi)
        omega
    exact ⟨hr, done _ _ _ hI hr⟩
  | succ fuel ih =>
    intro listed a w hf hI
    refine ⟨done _ _ _ hI, fun i hi => wpOp_mono (fun a' w' h => ih _ a' w' ?_ h) (step _ _ _ i hI hi)⟩
    have := openOf_set (ready_open hi)
    omega

def depsOk (ops : Array Oper) : Bool := (List.range ops.size).all fun i => match ops[i]? with | some o => o.after.toList.all (fun e => decide (e.on < i)) | none => true
theorem all_listed {listed : Array Bool} (hd : depsOk ops = true) (hr : Region.ready md ops listed = []) (hz : listed.size = ops.size) : ∀ i, i < ops.size → listed.getD i false = true := by
  intro i
  induction i using Nat.strongRecOn with
  | ind i ih =>
    intro hi
    have hl : listed.getD i false = listed[i]'(by omega) := by simp [Array.getD, show i < listed.size from by omega]
    have hl' : listed.getD i true = listed[i]'(by omega) := by simp [Array.getD, show i < listed.size from by omega]
    cases hb : listed[i]'(by omega) with
    | true => rw [hl, hb]
    | false =>
      exfalso
      have hmem : i ∈ Region.ready md ops listed := by
        simp only [Region.ready, List.mem_filter, List.mem_range, hi, true_and, hl', hb, Bool.not_false, Bool.true_and]
        have ho : ops[i]? = some ops[i] := Array.getElem?_eq_getElem hi
        rw [ho]
        simp only [Option.map_some, Option.getD_some]
        have h1 := List.all_eq_true.1 hd i (List.mem_range.2 hi)
        rw [ho] at h1
        simp only at h1
        rw [← Array.all_toList]
        refine List.all_eq_true.2 fun e he => ?_
        have h2 := of_decide_eq_true (List.all_eq_true.1 h1 e he)
        rw [ih e.on h2 (by omega)]
        simp
      rw [hr] at hmem
      cases hmem
theorem dep_listed {listed : Array Bool} {i j : Nat} {o : Oper} (hi : i ∈ Region.ready md ops listed) (ho : ops[i]? = some o) (he : o.after.toList.any (fun e => Region.binds md e && e.on == j) = true) : listed.getD j false = true := by
  have h := (List.mem_filter.1 hi).2
  rw [ho] at h
  simp only [Option.map_some, Option.getD_some, Bool.and_eq_true] at h
  obtain ⟨e, hm, hb⟩ := List.any_eq_true.1 he
  simp only [Bool.and_eq_true, beq_iff_eq] at hb
  have h2 := h.2
  rw [← Array.all_toList] at h2
  have h3 := List.all_eq_true.1 h2 e hm
  rw [hb.1, hb.2] at h3
  simpa using h3
end
theorem wpOp_plain {P : Program} {ops : Array Oper} {Q : Exit → Act → World → Prop} {i : Nat} {o : Oper} {K : Act → World → Prop} {a : Act} {w : World} (ho : ops[i]? = some o) (hg : o.guard = none) (h : o.wp P a w K Q) : wpOp P ops Q i K a w := by
  unfold wpOp
  simp only [ho]
  have hw : Region.wanted o (yielded ops a.tmps) = true := by simp [Region.wanted, hg]
  rw [if_pos hw]
  exact Or.inl h
theorem ev_tmp {a : Act} {k : Nat} {v : Value} (h : a.tmps.getD k undef = v) : a.tmps[k]?.getD undef = v := by rwa [Array.getD_eq_getD_getElem?] at h
end Go.Proofs.YtkkcfofhhgmbaaaGreatDoor
/- A region by an invariant, where each operation has a slot. -/
namespace Go.Proofs.YtkkcfofhhgmbaaaGreatDoor
open Go.RowKit
set_option linter.unusedVariables false

def waits (md : Region.Mode) (ops : Array Oper) (i j : Nat) : Bool := match ops[i]? with
  | some o => o.after.toList.any (fun e => Region.binds md e && e.on == j)
  | none => false
theorem waits_of {md : Region.Mode} {ops : Array Oper} {listed : Array Bool} {i j : Nat} (hi : i ∈ Region.ready md ops listed) (hd : waits md ops i j = true) : listed.getD j false = true := by
  unfold waits at hd
  split at hd
  · rename_i o ho; exact dep_listed hi ho hd
  · cases hd
structure Ip (sl : Nat → Nat) (n : Nat) (a0 : Act) (G : World → Nat → Value → Prop) (D : World → Prop) (listed : Array Bool) (a : Act) (w : World) : Prop where
  df : a.defers = a0.defers
  sz : a.tmps.size = a0.tmps.size
  out : ∀ k, (∀ i, i < n → sl i ≠ k) → a.tmps.getD k undef = a0.tmps.getD k undef
  lz : listed.size = n
  good : ∀ i, i < n → listed.getD i false = true → G w i (a.tmps.getD (sl i) undef)
  d : D w
section
variable {sl : Nat → Nat} {n : Nat} {md : Region.Mode} {ops : Array Oper} {a0 : Act} {G : World → Nat → Value → Prop} {D : World → Prop} {listed : Array Bool} {a : Act} {w w' : World} {i : Nat} {v : Value}
theorem Ip.put (h : Ip sl n a0 G D listed a w) (hi : i < n) (hlt : sl i < a0.tmps.size) (hinj : ∀ j, j < n → sl j = sl i → j = i) (hg : G w' i v)
    (hk : ∀ j u, j < n → G w j u → G w' j u) (hd : D w') : Ip sl n a0 G D (listed.setIfInBounds i true) (a.put (some (sl i)) v) w' := by
  have hsz := h.sz
  have hlz := h.lz
  refine ⟨h.df, by simpa [Act.put] using hsz, ?_, by simpa using hlz, ?_, hd⟩
  · intro k hko
    rw [← h.out k hko]
    simp only [Act.put, Array.getD_eq_getD_getElem?]
    rw [Array.getElem?_setIfInBounds_ne (hko i hi)]
  · intro j hj hl
    by_cases e : j = i
    · subst e
      simp only [Act.put, Array.getD_eq_getD_getElem?]
      rw [Array.getElem?_setIfInBounds_self_of_lt (by omega)]
      exact hg
    · have hl' : listed.getD j false = true := by
        simp only [Array.getD_eq_getD_getElem?] at hl ⊢
        rwa [Array.getElem?_setIfInBounds_ne (fun x => e x.symm)] at hl
      have h1 := hk j _ hj (h.good j hj hl')
      simp only [Act.put, Array.getD_eq_getD_getElem?] at h1 ⊢
      rw [Array.getElem?_setIfInBounds_ne (fun e' => e (hinj j hj e'.symm))]
      exact h1
end
theorem reg_invP {P : Program} {ops : Array Oper} {Q : Exit → Act → World → Prop} {a0 : Act} {w0 : World} (sl : Nat → Nat) (n : Nat) (G : World → Nat → Value → Prop) (D : World → Prop)
    (hd : depsOk ops = true) (hops : ops.size = n) (hD : D w0)
    (done : ∀ a y, Ip sl n a0 G D (Array.replicate n true) a y → Q .normal a y)
    (step : ∀ listed x y i, Ip sl n a0 G D listed x y → i ∈ Region.ready .any ops listed → i < n → wpOp P ops Q i (Ip sl n a0 G D (listed.setIfInBounds i true)) x y) :
    wpAny P .any ops Q ops.size (Array.replicate ops.size false) a0 w0 := by
  refine wpAny_inv (Ip sl n a0 G D) (fun listed x y i hI hi => step listed x y i hI hi (by have := List.mem_range.1 (List.mem_filter.1 hi).1; omega)) ?_ _ _ _ _ ?_ ?_
  · intro listed x y hI hr
    have hall := all_listed hd hr (by rw [hI.lz, hops])
    exact done x y ⟨hI.df, hI.sz, hI.out, by simp, fun i hi _ => hI.good i hi (hall i (by omega)), hI.d⟩
  · unfold openOf
    exact Nat.le_trans List.countP_le_length (by simp)
  · refine ⟨rfl, rfl, fun _ _ => rfl, by simp [hops], ?_, hD⟩
    intro i _ h
    simp only [Array.getD_eq_getD_getElem?, Array.getElem?_replicate] at h
    split at h <;> cases h
theorem Ip.all {sl : Nat → Nat} {n : Nat} {a0 : Act} {G : World → Nat → Value → Prop} {D : World → Prop} {a : Act} {w : World} (h : Ip sl n a0 G D (Array.replicate n true) a w) (i : Nat) (hi : i < n) : G w i (a.tmps.getD (sl i) undef) :=
  h.good i hi (by simp only [Array.getD_eq_getD_getElem?, Array.getElem?_replicate, if_pos hi, Option.getD_some])
theorem wp_cover {P : Program} {o : Oper} {a : Act} {w : World} {I : Act → World → Prop} {Q : Exit → Act → World → Prop} (h : ∀ K : Act → World → Prop, Hid (∀ a w, I a w → K a w) → o.wp P a w K Q) : o.wp P a w I Q := h I (fun _ _ h => h)
theorem frameP_of {a a0 : Act} {lo n : Nat} (df : a.defers = a0.defers) (sz : a.tmps.size = a0.tmps.size) (out : ∀ k, k < lo ∨ lo + n ≤ k → a.tmps.getD k undef = a0.tmps.getD k undef) (hn : lo + n ≤ a0.tmps.size) :
    ∃ l : List Value, l.length = n ∧ a = ⟨(a0.tmps.toList.take lo ++ (l ++ a0.tmps.toList.drop (lo + n))).toArray, a0.defers⟩ := by
  obtain ⟨⟨t⟩, d⟩ := a
  obtain ⟨⟨t0⟩, d0⟩ := a0
  simp only at df
  subst df
  have sz : t.length = t0.length := sz
  have hn : lo + n ≤ t0.length := hn
  refine ⟨(t.drop lo).take n, by simp; omega, ?_⟩
  have e : t = t0.take lo ++ ((t.drop lo).take n ++ t0.drop (lo + n)) := by
    apply List.ext_getElem?
    intro k
    rcases Nat.lt_or_ge k lo with h1 | h1
    · have h2 := out k (Or.inl h1)
      rw [List.getElem?_append_left (by simp; omega), List.getElem?_take_of_lt h1]
      simp only [Array.getD_eq_getD_getElem?, List.getElem?_toArray] at h2
      rw [List.getElem?_eq_getElem (by omega), List.getElem?_eq_getElem (by omega)] at h2 ⊢
      simpa using h2
    · rw [List.getElem?_append_right (by simp; omega)]
      have hl : (t0.take lo).length = lo := by simp; omega
      rw [hl]
      rcases Nat.lt_or_ge k (lo + n) with h3 | h3
      · rw [List.getElem?_append_left (by simp; omega), List.getElem?_take_of_lt (by omega), List.getElem?_drop]
        congr 1; omega
      · rw [List.getElem?_append_right (by simp; omega)]
        have hl2 : ((t.drop lo).take n).length = n := by simp; omega
        rw [hl2, List.getElem?_drop]
        have e2 : lo + n + (k - lo - n) = k := by omega
        rw [e2]
        have h2 := out k (Or.inr h3)
        simp only [Array.getD_eq_getD_getElem?, List.getElem?_toArray] at h2
        rcases Nat.lt_or_ge k t.length with h4 | h4
        · rw [List.getElem?_eq_getElem (by omega), List.getElem?_eq_getElem (by omega)] at h2 ⊢
          simpa using h2
        · rw [List.getElem?_eq_none h4, List.getElem?_eq_none (by omega)]
  show Act.mk ⟨t⟩ d = Act.mk ⟨_⟩ d
  exact congrArg (fun l => Act.mk ⟨l⟩ d) e
theorem lenP_succ {l : List Value} {k : Nat} (h : l.length = k + 1) : ∃ x t, l = x :: t ∧ t.length = k := by
  cases l with
  | nil => cases h
  | cons x t => exact ⟨x, t, rfl, by simpa using h⟩
theorem lenP_zero {l : List Value} (h : l.length = 0) : l = [] := List.eq_nil_of_length_eq_zero h
theorem frameP_two {a a0 : Act} {lo n se : Nat} (df : a.defers = a0.defers) (sz : a.tmps.size = a0.tmps.size) (hse : se < a0.tmps.size) (hn : lo + n ≤ a0.tmps.size) (out : ∀ k, k ≠ se → k < lo ∨ lo + n ≤ k → a.tmps.getD k undef = a0.tmps.getD k undef) :
    ∃ l : List Value, l.length = n ∧ a = ⟨((a0.tmps.setIfInBounds se (a.tmps.getD se undef)).toList.take lo ++ (l ++ (a0.tmps.setIfInBounds se (a.tmps.getD se undef)).toList.drop (lo + n))).toArray, a0.defers⟩ := by
  refine frameP_of (a := a) (a0 := ⟨a0.tmps.setIfInBounds se (a.tmps.getD se undef), a0.defers⟩) df (by simpa using sz) ?_ (by simpa using hn)
  intro k hk
  by_cases e : k = se
  · subst e
    simp only [Array.getD_eq_getD_getElem?]
    rw [Array.getElem?_setIfInBounds_self_of_lt hse, Option.getD_some]
  · rw [out k e hk]
    simp only [Array.getD_eq_getD_getElem?]
    rw [Array.getElem?_setIfInBounds_ne (fun e' => e e'.symm)]
end Go.Proofs.YtkkcfofhhgmbaaaGreatDoor
