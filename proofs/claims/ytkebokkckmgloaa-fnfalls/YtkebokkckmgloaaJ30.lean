import Derived.Test.YtkebokkckmgloaaJ02
import Derived.Test.YtkebokkckmgloaaJ24
import Derived.Maps.AppendAt
/- A region by an invariant, in the midst of a function. -/
namespace Go.Proofs.Ytkebokkckmgloaa
open Go.RowKit
set_option linter.unusedVariables false

/-- Does the operation i wait for j? -/
def depOf (md : Region.Mode) (ops : Array Oper) (i j : Nat) : Bool := match ops[i]? with
  | some o => o.after.toList.any (fun e => Region.binds md e && e.on == j)
  | none => false
theorem dep_of {md : Region.Mode} {ops : Array Oper} {listed : Array Bool} {i j : Nat} (hi : i ∈ Region.ready md ops listed) (hd : depOf md ops i j = true) : listed.getD j false = true := by
  unfold depOf at hd
  split at hd
  · rename_i o ho; exact dep_listed hi ho hd
  · cases hd
theorem open_not {listed : Array Bool} {i : Nat} (ho : listed.getD i true = false) (h : listed.getD i false = true) : False := by
  simp only [Array.getD_eq_getD_getElem?] at ho h
  cases hb : listed[i]? with
  | none => rw [hb] at ho; cases ho
  | some b => rw [hb] at ho h; simp only [Option.getD_some] at ho h; rw [ho] at h; cases h
theorem set_ne {listed : Array Bool} {i j : Nat} (hne : j ≠ i) : (listed.setIfInBounds i true).getD j false = listed.getD j false := by
  simp only [Array.getD_eq_getD_getElem?]
  rw [Array.getElem?_setIfInBounds_ne (fun x => hne x.symm)]
theorem set_same {listed : Array Bool} {i : Nat} (hi : i < listed.size) : (listed.setIfInBounds i true).getD i false = true := by
  simp only [Array.getD_eq_getD_getElem?]
  rw [Array.getElem?_setIfInBounds_self_of_lt hi, Option.getD_some]
theorem not_true {b : Bool} (h : b = true → False) : b = false := by
  cases b
  · rfl
  · exact (h rfl).elim
/-- What holds while a region's operations come up: its slots from lo on, n of them; the last operation is place n and has no slot; A: the first that turns what was. -/
structure Ir (lo n A : Nat) (md : Region.Mode) (ops : Array Oper) (a0 : Act) (G : World → Nat → Value → Prop) (V : Array Bool → World → Prop) (listed : Array Bool) (a : Act) (w : World) : Prop where
  df : a.defers = a0.defers
  sz : a.tmps.size = a0.tmps.size
  out : ∀ k, k < lo ∨ lo + n ≤ k → a.tmps.getD k undef = a0.tmps.getD k undef
  lz : listed.size = n + 1
  tr : ∀ i j, depOf md ops i j = true → listed.getD i false = true → listed.getD j false = true
  good : ∀ i, i < n → listed.getD i false = true → (listed.getD A false = false ∨ (A ≤ i ∧ listed.getD n false = false)) → G w i (a.tmps.getD (lo + i) undef)
  v : V listed w
section
variable {lo n A : Nat} {md : Region.Mode} {ops : Array Oper} {a0 : Act} {G : World → Nat → Value → Prop} {V : Array Bool → World → Prop} {listed : Array Bool} {a : Act} {w w' : World} {i : Nat} {v : Value}
theorem tr_set (hr : i ∈ Region.ready md ops listed) (hz : i < listed.size) (tr : ∀ i j, depOf md ops i j = true → listed.getD i false = true → listed.getD j false = true) : ∀ k j, depOf md ops k j = true → (listed.setIfInBounds i true).getD k false = true → (listed.setIfInBounds i true).getD j false = true := by
  intro k j hd hk
  by_cases ej : j = i
  · subst ej; exact set_same hz
  rw [set_ne ej]
  by_cases ek : k = i
  · subst ek; exact dep_of hr hd
  · rw [set_ne ek] at hk; exact tr k j hd hk
theorem Ir.put (h : Ir lo n A md ops a0 G V listed a w) (hr : i ∈ Region.ready md ops listed) (hi : i < n) (hn : lo + n ≤ a0.tmps.size) (hg : G w' i v)
    (hk : ∀ j u, j < n → j ≠ i → listed.getD j false = true → ((listed.setIfInBounds i true).getD A false = false ∨ A ≤ j) → G w j u → G w' j u) (hv : V (listed.setIfInBounds i true) w') :
    Ir lo n A md ops a0 G V (listed.setIfInBounds i true) (a.put (some (lo + i)) v) w' := by
  have hsz := h.sz
  have hlz := h.lz
  refine ⟨h.df, by simpa [Act.put] using hsz, ?_, by simpa using hlz, tr_set hr (by omega) h.tr, ?_, hv⟩
  · intro k hko
    rw [← h.out k hko]
    simp only [Act.put, Array.getD_eq_getD_getElem?]
    rw [Array.getElem?_setIfInBounds_ne (by omega)]
  · intro j hj hl hc
    by_cases e : j = i
    · subst e
      simp only [Act.put, Array.getD_eq_getD_getElem?]
      rw [Array.getElem?_setIfInBounds_self_of_lt (by omega)]
      exact hg
    · rw [set_ne e] at hl
      have hc' : listed.getD A false = false ∨ (A ≤ j ∧ listed.getD n false = false) := by
        rcases hc with hc | ⟨hc, hc2⟩
        · left
          by_cases eA : A = i
          · subst eA
            by_cases hA : A < listed.size
            · rw [set_same hA] at hc; cases hc
            · exact absurd hi (by omega)
          · rwa [set_ne eA] at hc
        · right
          rw [set_ne (by omega)] at hc2
          exact ⟨hc, hc2⟩
      have h1 := hk j _ hj e hl (hc.imp id (fun h => h.1)) (h.good j hj hl hc')
      simp only [Act.put, Array.getD_eq_getD_getElem?] at h1 ⊢
      rw [Array.getElem?_setIfInBounds_ne (by omega)]
      exact h1
theorem Ir.last (h : Ir lo n A md ops a0 G V listed a w) (hr : n ∈ Region.ready md ops listed) (hA : A = n ∨ listed.getD A false = true) (hv : V (listed.setIfInBounds n true) w') {u : Value} :
    Ir lo n A md ops a0 G V (listed.setIfInBounds n true) (a.put none u) w' := by
  have hlz := h.lz
  refine ⟨h.df, h.sz, h.out, by simpa using hlz, tr_set hr (by omega) h.tr, ?_, hv⟩
  intro j hj hl hc
  have hsn : (listed.setIfInBounds n true).getD n false = true := set_same (by omega)
  rcases hc with hc | ⟨hc, hc2⟩
  · rcases hA with rfl | hA
    · rw [hsn] at hc; cases hc
    · by_cases e : A = n
      · subst e; rw [hsn] at hc; cases hc
      · rw [set_ne e, hA] at hc; cases hc
  · rw [hsn] at hc2; cases hc2
theorem frame_of (df : a.defers = a0.defers) (sz : a.tmps.size = a0.tmps.size) (out : ∀ k, k < lo ∨ lo + n ≤ k → a.tmps.getD k undef = a0.tmps.getD k undef) (hn : lo + n ≤ a0.tmps.size) :
    ∃ l : List Value, l.length = n ∧ a = ⟨(a0.tmps.toList.take lo ++ (l ++ a0.tmps.toList.drop (lo + n))).toArray, a0.defers⟩ := by
  obtain ⟨⟨t⟩, d⟩ := a
  obtain ⟨⟨t0⟩, d0⟩ := a0
  simp only at df
  subst df
  have sz : t.length = t0.length := sz
  have hn : lo + n ≤ t0.length := hn
  refine ⟨(t.drop lo).take n, by simp; omega, ?_⟩
  have e : t = t0.take lo ++ ((t.drop lo).take n ++ t0.drop (lo + n)) := by
    apply List.ext_getElem?
    intro k
    rcases Nat.lt_or_ge k lo with h1 | h1
    · have h2 := out k (Or.inl h1)
      rw [List.getElem?_append_left (by simp; omega), List.getElem?_take_of_lt h1]
      simp only [Array.getD_eq_getD_getElem?, List.getElem?_toArray] at h2
      rw [List.getElem?_eq_getElem (by omega), List.getElem?_eq_getElem (by omega)] at h2 ⊢
      simpa using h2
    · rw [List.getElem?_append_right (by simp; omega)]
      have hl : (t0.take lo).length = lo := by simp; omega
      rw [hl]
      rcases Nat.lt_or_ge k (lo + n) with h3 | h3
      · rw [List.getElem?_append_left (by simp; omega), List.getElem?_take_of_lt (by omega), List.getElem?_drop]
        congr 1; omega
      · rw [List.getElem?_append_right (by simp; omega)]
        have hl2 : ((t.drop lo).take n).length = n := by simp; omega
        rw [hl2, List.getElem?_drop]
        have e2 : lo + n + (k - lo - n) = k := by omega
        rw [e2]
        have h2 := out k (Or.inr h3)
        simp only [Array.getD_eq_getD_getElem?, List.getElem?_toArray] at h2
        rcases Nat.lt_or_ge k t.length with h4 | h4
        · rw [List.getElem?_eq_getElem (by omega), List.getElem?_eq_getElem (by omega)] at h2 ⊢
          simpa using h2
        · rw [List.getElem?_eq_none h4, List.getElem?_eq_none (by omega)]
  show Act.mk ⟨t⟩ d = Act.mk ⟨_⟩ d
  exact congrArg (fun l => Act.mk ⟨l⟩ d) e
end
theorem len_succ {l : List Value} {k : Nat} (h : l.length = k + 1) : ∃ x t, l = x :: t ∧ t.length = k := by
  cases l with
  | nil => cases h
  | cons x t => exact ⟨x, t, rfl, by simpa using h⟩
theorem len_zero {l : List Value} (h : l.length = 0) : l = [] := List.eq_nil_of_length_eq_zero h
/-- The world while the operations come up. -/
def Vr (A n : Nat) (D : Int → World → Prop) (E : World → Prop) (q : Int) (listed : Array Bool) (w : World) : Prop :=
  (listed.getD A false = false → ∃ p, D p w ∧ p + 200 * (openOf listed : Int) ≤ q + 200 * ((n : Int) + 1)) ∧ (listed.getD n false = true → E w)
theorem Vr.mk {A n : Nat} {D : Int → World → Prop} {E : World → Prop} {q p : Int} {listed : Array Bool} {w : World} (hD : D p w) (hp : p + 200 * (openOf listed : Int) ≤ q + 200 * ((n : Int) + 1)) (hn : listed.getD n false = false) : Vr A n D E q listed w :=
  ⟨fun _ => ⟨p, hD, hp⟩, fun h => by rw [hn] at h; cases h⟩
theorem Vr.past {A n : Nat} {D : Int → World → Prop} {E : World → Prop} {q : Int} {listed : Array Bool} {w : World} (hA : listed.getD A false = true) (hn : listed.getD n false = false) : Vr A n D E q listed w :=
  ⟨fun h => (by rw [hA] at h; cases h), fun h => (by rw [hn] at h; cases h)⟩
theorem Vr.fin {A n : Nat} {D : Int → World → Prop} {E : World → Prop} {q : Int} {listed : Array Bool} {w : World} (hA : listed.getD A false = true) (hE : E w) : Vr A n D E q listed w :=
  ⟨fun h => (by rw [hA] at h; cases h), fun _ => hE⟩
theorem wp_append_own_at {P : Program} {w : World} {o : Oper} {a : Act} {K : Act → World → Prop} {Q : Exit → Act → World → Prop} (s x : Operand) (t : TypeId)
    (ho : o.op = .call { callee := .builtin .append, args := #[s, x], argTypes := #[t, t] })
    (base : Nat) (e : TypeId) (i : TypeInfo) (z : Value) (size bytes : Nat) (ht : P.underlying t = some (.slice e)) (hi : P.info? e = some i) (hz : i.zero = some z)
    (hsize : i.size = size) (hby : i.bytes = bytes) (hzs : z.cells.size = size) (hsz : 0 < size)
    (v : Value) (n : Nat) (xs : List Value) (hs : a.eval s = v) (hown : w.ownsRow base e size v n xs)
    (ad : Addr) (m c : Nat) (news : List Value) (hx : a.eval x = .slice (some ad) m c) (hl : news.length = m * size) (hnews : ∀ j u, news[j]? = some u → w.cell? (ad.add j) = some u) (h1 : ∀ u ∈ news, u.oneCell' = true)
    (h63 : n + m ≤ maxLen) (hbytes : (n + m) * bytes ≤ 140737488355328) (hbase : base ≤ w.heap.size)
    (h : ∀ v' w', w'.ownsRow base e size v' (n + m) (xs ++ news) → w.grownBy w' v.ownBlock → (v'.ownBlock = v.ownBlock ∨ v'.ownBlock = some w.heap.size) → K (a.put o.dst v') w') : o.wp P a w K Q := by
  obtain ⟨v', w', hr, h2, h3, h4, h5⟩ := run_append_own_at (P := P) w base t o.type e i z size bytes ht hi hz hsize hby hzs hsz v n xs hown ad m c news hl hnews h1 h63 hbytes hbase
  unfold Oper.wp execOp
  simp only [ho, resolve, invoke, builtin, Sem.run_bind, Sem.run_pure, Result.andThen_ok, List.map_toArray, List.map_cons, List.map_nil, hs, hx, hr]
  exact h v' w' h2 h3 h5
end Go.Proofs.Ytkebokkckmgloaa
