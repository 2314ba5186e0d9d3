import Derived.Test.YtgakmkhbnjofhaaGreatDoorJ02
import Derived.Test.YtgakmkhbnjofhaaGreatDoorJ12
import Derived.Maps.AppendAt
import Derived.Test.YtgakmkhbnjofhaaGreatDoorJ46
/- A region by an invariant, in the midst of a function. -/
namespace Go.Proofs.YtgakmkhbnjofhaaGreatDoor
open Go.RowKit
set_option linter.unusedVariables false

/-- Does the operation i wait for j? -/
def depOf (md : Region.Mode) (ops : Array Oper) (i j : Nat) : Bool := match ops[i]? with
  | some o => o.after.toList.any (fun e => Region.binds md e && e.on == j)
  | none => false
theorem dep_of {md : Region.Mode} {ops : Array Oper} {listed : Array Bool} {i j : Nat} (hi : i ∈ Region.ready md ops listed) (hd : depOf md ops i j = true) : listed.getD j false = true := by
  unfold depOf at hd
  split at hd
  · rename_i o ho; exact dep_listed hi ho hd
  · cases hd
theorem open_not {listed : Array Bool} {i : Nat} (ho : listed.getD i true = false) (h : listed.getD i false = true) : False := by
  simp only [Array.getD_eq_getD_getElem?] at ho h
  cases hb : listed[i]? with
  | none => rw [hb] at ho; cases ho
  | some b => rw [hb] at ho h; simp only [Option.getD_some] at ho h; rw [ho] at h; cases h
theorem set_ne {listed : Array Bool} {i j : Nat} (hne : j ≠ i) : (listed.setIfInBounds i true).getD j false = listed.getD j false := by
  simp only [Array.getD_eq_getD_getElem?]
  rw [Array.getElem?_setIfInBounds_ne (fun x => hne x.symm)]
theorem set_same {listed : Array Bool} {i : Nat} (hi : i < listed.size) : (listed.setIfInBounds i true).getD i false = true := by
  simp only [Array.getD_eq_getD_getElem?]
  rw [Array.getElem?_setIfInBounds_self_of_lt hi, Option.getD_some]
theorem not_true {b : Bool} (h : b = true → False) : b = false := by
  cases b
  · rfl
  · exact (h rfl).elim
/-- What holds while a region's operations come up: its slots from lo on, n of them; the last operation is place n and has no slot; A: the first that turns what was. -/
structure Ir (lo n A : Nat) (md : Region.Mode) (ops : Array Oper) (a0 : Act) (G : World → Nat → Value → Prop) (V : Array Bool → World → Prop) (listed : Array Bool) (a : Act) (w : World) : Prop where
  df : a.defers = a0.defers
  sz : a.tmps.size = a0.tmps.size
  out : ∀ k, k < lo ∨ lo + n ≤ k → a.tmps.getD k undef = a0.tmps.getD k undef
  lz : listed.size = n + 1
  tr : ∀ i j, depOf md ops i j = true → listed.getD i false = true → listed.getD j false = true
  good : ∀ i, i < n → listed.getD i false = true → (listed.getD A false = false ∨ (A ≤ i ∧ listed.getD n false = false)) → G w i (a.tmps.getD (lo + i) undef)
  v : V listed w
section
variable {lo n A : Nat} {md : Region.Mode} {ops : Array Oper} {a0 : Act} {G : World → Nat → Value → Prop} {V : Array Bool → World → Prop} {listed : Array Bool} {a : Act} {w w' : World} {i : Nat} {v : Value}
theorem tr_set (hr : i ∈ Region.ready md ops listed) (hz : i < listed.size) (tr : ∀ i j, depOf md ops i j = true → listed.getD i false = true → listed.getD j false = true) : ∀ k j, depOf md ops k j = true → (listed.setIfInBounds i true).getD k false = true → (listed.setIfInBounds i true).getD j false = true := by
  intro k j hd hk
  by_cases ej : j = i
  · subst ej; exact set_same hz
  rw [set_ne ej]
  by_cases ek : k = i
  · subst ek; exact dep_of hr hd
  · rw [set_ne ek] at hk; exact tr k j hd hk
theorem Ir.put (h : Ir lo n A md ops a0 G V listed a w) (hr : i ∈ Region.ready md ops listed) (hi : i < n) (hn : lo + n ≤ a0.tmps.size) (hg : G w' i v)
    (hk : ∀ j u, j < n → j ≠ i → listed.getD j false = true → ((listed.setIfInBounds i true).getD A false = false ∨ A ≤ j) → G w j u → G w' j u) (hv : V (listed.setIfInBounds i true) w') :
    Ir lo n A md ops a0 G V (listed.setIfInBounds i true) (a.put (some (lo + i)) v) w' := by
  have hsz := h.sz
  have hlz := h.lz
  refine ⟨h.df, by simpa [Act.put] using hsz, ?_, by simpa using hlz, tr_set hr (by omega) h.tr, ?_, hv⟩
  · intro k hko
    rw [← h.out k hko]
    simp only [Act.put, Array.getD_eq_getD_getElem?]
    rw [Array.getElem?_setIfInBounds_ne (by omega)]
  · intro j hj hl hc
    by_cases e : j = i
    · subst e
      simp only [Act.put, Array.getD_eq_getD_getElem?]
      rw [Array.getElem?_setIfInBounds_self_of_lt (by omega)]
      exact hg
    · rw [set_ne e] at hl
      have hc' : listed.getD A false = false ∨ (A ≤ j ∧ listed.getD n false = false) := by
        rcases hc with hc | ⟨hc, hc2⟩
        · left
          by_cases eA : A = i
          · subst eA
            by_cases hA : A < listed.size
            · rw [set_same hA] at hc; cases hc
            · exact absurd hi (by omega)
          · rwa [set_ne eA] at hc
        · right
          rw [set_ne (by omega)] at hc2
          exact ⟨hc, hc2⟩
      have h1 := hk j _ hj e hl (hc.imp id (fun h => h.1)) (h.good j hj hl hc')
      simp only [Act.put, Array.getD_eq_getD_getElem?] at h1 ⊢
      rw [Array.getElem?_setIfInBounds_ne (by omega)]
      exact h1
theorem Ir.last (h : Ir lo n A md ops a0 G V listed a w) (hr : n ∈ Region.ready md ops listed) (hA : A = n ∨ listed.getD A false = true) (hv : V (listed.setIfInBounds n true) w') {u : Value} :
    Ir lo n A md ops a0 G V (listed.setIfInBounds n true) (a.put none u) w' := by
  have hlz := h.lz
  refine ⟨h.df, h.sz, h.out, by simpa using hlz, tr_set hr (by omega) h.tr, ?_, hv⟩
  intro j hj hl hc
  have hsn : (listed.setIfInBounds n true).getD n false = true := set_same (by omega)
  rcases hc with hc | ⟨hc, hc2⟩
  · rcases hA with rfl | hA
    · rw [hsn] at hc; cases hc
    · by_cases e : A = n
      · subst e; rw [hsn] at hc; cases hc
      · rw [set_ne e, hA] at hc; cases hc
  · rw [hsn] at hc2; cases hc2
theorem frame_of (df : a.defers = a0.defers) (sz : a.tmps.size = a0.tmps.size) (out : ∀ k, k < lo ∨ lo + n ≤ k → a.tmps.getD k undef = a0.tmps.getD k undef) (hn : lo + n ≤ a0.tmps.size) :
    ∃ l : List Value, l.length = n ∧ a = ⟨(a0.tmps.toList.take lo ++ (l ++ a0.tmps.toList.drop (lo + n))).toArray, a0.defers⟩ := by
  obtain ⟨⟨t⟩, d⟩ := a
  obtain ⟨⟨t0⟩, d0⟩ := a0
  simp only at df
  subst df
  have sz : t.length = t0.length := sz
  have hn : lo + n ≤ t0.length := hn
  refine ⟨(t.drop lo).take n, by simp; omega, ?_⟩
  have e : t = t0.take lo ++ ((t.drop lo).take n ++ t0.drop (lo + n)) := by
    apply List.ext_getElem?
    intro k
    rcases Nat.lt_or_ge k lo with h1 | h1
    · have h2 := out k (Or.inl h1)
      rw [List.getElem?_append_left (by simp; omega), List.getElem?_take_of_lt h1]
      simp only [Array.getD_eq_getD_getElem?, List.getElem?_toArray] at h2
      rw [List.getElem?_eq_getElem (by omega), List.getElem?_eq_getElem (by omega)] at h2 ⊢
      simpa using h2
    · rw [List.getElem?_append_right (by simp; omega)]
      have hl : (t0.take lo).length = lo := by simp; omega
      rw [hl]
      rcases Nat.lt_or_ge k (lo + n) with h3 | h3
      · rw [List.getElem?_append_left (by simp; omega), List.getElem?_take_of_lt (by omega), List.getElem?_drop]
        congr 1; omega
      · rw [List.getElem?_append_right (by simp; omega)]
        have hl2 : ((t.drop lo).take n).length = n := by simp; omega
        rw [hl2, List.getElem?_drop]
        have e2 : lo + n + (k - lo - n) = k := by omega
        rw [e2]
        have h2 := out k (Or.inr h3)
        simp only [Array.getD_eq_getD_getElem?, List.getElem?_toArray] at h2
        rcases Nat.lt_or_ge k t.length with h4 | h4
        · rw [List.getElem?_eq_getElem (by omega), List.getElem?_eq_getElem (by omega)] at h2 ⊢
          simpa using h2
        · rw [List.getElem?_eq_none h4, List.getElem?_eq_none (by omega)]
  show Act.mk ⟨t⟩ d = Act.mk ⟨_⟩ d
  exact congrArg (fun l => Act.mk ⟨l⟩ d) e
end
theorem len_succ {l : List Value} {k : Nat} (h : l.length = k + 1) : ∃ x t, l = x :: t ∧ t.length = k := by
  cases l with
  | nil => cases h
  | cons x t => exact ⟨x, t, rfl, by simpa using h⟩
theorem len_zero {l : List Value} (h : l.length = 0) : l = [] := List.eq_nil_of_length_eq_zero h
/-- The world while the operations come up. -/
def Vr (A n : Nat) (D : Int → World → Prop) (E : World → Prop) (q : Int) (listed : Array Bool) (w : World) : Prop :=
  (listed.getD A false = false → ∃ p, D p w ∧ p + 200 * (openOf listed : Int) ≤ q + 200 * ((n : Int) + 1)) ∧ (listed.getD n false = true → E w)
theorem Vr.mk {A n : Nat} {D : Int → World → Prop} {E : World → Prop} {q p : Int} {listed : Array Bool} {w : World} (hD : D p w) (hp : p + 200 * (openOf listed : Int) ≤ q + 200 * ((n : Int) + 1)) (hn : listed.getD n false = false) : Vr A n D E q listed w :=
  ⟨fun _ => ⟨p, hD, hp⟩, fun h => by rw [hn] at h; cases h⟩
theorem Vr.past {A n : Nat} {D : Int → World → Prop} {E : World → Prop} {q : Int} {listed : Array Bool} {w : World} (hA : listed.getD A false = true) (hn : listed.getD n false = false) : Vr A n D E q listed w :=
  ⟨fun h => (by rw [hA] at h; cases h), fun h => (by rw [hn] at h; cases h)⟩
theorem Vr.fin {A n : Nat} {D : Int → World → Prop} {E : World → Prop} {q : Int} {listed : Array Bool} {w : World} (hA : listed.getD A false = true) (hE : E w) : Vr A n D E q listed w :=
  ⟨fun h => (by rw [hA] at h; cases h), fun _ => hE⟩
theorem wp_append_own_at {P : Program} {w : World} {o : Oper} {a : Act} {K : Act → World → Prop} {Q : Exit → Act → World → Prop} (s x : Operand) (t : TypeId)
    (ho : o.op = .call { callee := .builtin .append, args := #[s, x], argTypes := #[t, t] })
    (base : Nat) (e : TypeId) (i : TypeInfo) (z : Value) (size bytes : Nat) (ht : P.underlying t = some (.slice e)) (hi : P.info? e = some i) (hz : i.zero = some z)
    (hsize : i.size = size) (hby : i.bytes = bytes) (hzs : z.cells.size = size) (hsz : 0 < size)
    (v : Value) (n : Nat) (xs : List Value) (hs : a.eval s = v) (hown : w.ownsRow base e size v n xs)
    (ad : Addr) (m c : Nat) (news : List Value) (hx : a.eval x = .slice (some ad) m c) (hl : news.length = m * size) (hnews : ∀ j u, news[j]? = some u → w.cell? (ad.add j) = some u) (h1 : ∀ u ∈ news, u.oneCell' = true)
    (h63 : n + m ≤ maxLen) (hbytes : (n + m) * bytes ≤ 140737488355328) (hbase : base ≤ w.heap.size)
    (h : ∀ v' w', w'.ownsRow base e size v' (n + m) (xs ++ news) → w.grownBy w' v.ownBlock → (v'.ownBlock = v.ownBlock ∨ v'.ownBlock = some w.heap.size) → K (a.put o.dst v') w') : o.wp P a w K Q := by
  obtain ⟨v', w', hr, h2, h3, h4, h5⟩ := run_append_own_at (P := P) w base t o.type e i z size bytes ht hi hz hsize hby hzs hsz v n xs hown ad m c news hl hnews h1 h63 hbytes hbase
  unfold Oper.wp execOp
  simp only [ho, resolve, invoke, builtin, Sem.run_bind, Sem.run_pure, Result.andThen_ok, List.map_toArray, List.map_cons, List.map_nil, hs, hx, hr]
  exact h v' w' h2 h3 h5
end Go.Proofs.YtgakmkhbnjofhaaGreatDoor
/- A drawn region by an invariant: its rule. -/
namespace Go.Proofs.YtgakmkhbnjofhaaGreatDoor
open Go.RowKit
set_option linter.unusedVariables false

theorem rep_false (k i : Nat) : (Array.replicate k false).getD i false = false := by
  simp only [Array.getD_eq_getD_getElem?, Array.getElem?_replicate]
  split <;> rfl
theorem open_rep (k : Nat) : openOf (Array.replicate k false) ≤ k := by
  unfold openOf
  exact Nat.le_trans List.countP_le_length (by simp)
theorem Vr.same {A n : Nat} {D : Int → World → Prop} {E : World → Prop} {q : Int} {listed : Array Bool} {w : World} {i : Nat} (h : Vr A n D E q listed w) (ho : listed.getD i true = false) (hA : i ≠ A) (hn : i ≠ n) : Vr A n D E q (listed.setIfInBounds i true) w := by
  have hop := openOf_set ho
  refine ⟨fun h1 => ?_, fun h1 => ?_⟩
  · rw [set_ne (fun e => hA e.symm)] at h1
    obtain ⟨p, hD, hp⟩ := h.1 h1
    exact ⟨p, hD, by omega⟩
  · rw [set_ne (fun e => hn e.symm)] at h1
    exact h.2 h1
/-- The reader went on, or blocks were made. -/
theorem Vr.turn {A n : Nat} {D : Int → World → Prop} {E : World → Prop} {q p : Int} {listed : Array Bool} {w : World} {i : Nat} (ho : listed.getD i true = false) (hn : listed.getD n false = false) (hin : i ≠ n) (hD : D p w) (hp : p + 200 * (openOf listed : Int) ≤ q + 200 * ((n : Int) + 1) + 200) : Vr A n D E q (listed.setIfInBounds i true) w := by
  have hop := openOf_set ho
  exact Vr.mk hD (by omega) (by rw [set_ne (fun e => hin e.symm)]; exact hn)
theorem reg_inv {P : Program} {ops : Array Oper} {Q : Exit → Act → World → Prop} {a0 : Act} {w0 : World} (lo n A : Nat) (G : World → Nat → Value → Prop) (D : Int → World → Prop) (E : World → Prop) (q : Int)
    (hd : depsOk ops = true) (hops : ops.size = n + 1) (hsz : lo + n ≤ a0.tmps.size) (hD : D q w0)
    (done : ∀ l y, l.length = n → E y → Q .normal ⟨(a0.tmps.toList.take lo ++ (l ++ a0.tmps.toList.drop (lo + n))).toArray, a0.defers⟩ y)
    (step : ∀ listed x y i, Ir lo n A .any ops a0 G (Vr A n D E q) listed x y → i ∈ Region.ready .any ops listed → i < n + 1 → wpOp P ops Q i (Ir lo n A .any ops a0 G (Vr A n D E q) (listed.setIfInBounds i true)) x y) :
    wpAny P .any ops Q ops.size (Array.replicate ops.size false) a0 w0 := by
  refine wpAny_inv (Ir lo n A .any ops a0 G (Vr A n D E q)) (fun listed x y i hI hi => step listed x y i hI hi (by have := List.mem_range.1 (List.mem_filter.1 hi).1; omega)) ?_ _ _ _ _ (open_rep _) ?_
  · intro listed x y hI hr
    have hall := all_listed hd hr (by rw [hI.lz, hops])
    obtain ⟨l, hl, rfl⟩ := frame_of hI.df hI.sz hI.out hsz
    exact done l y hl (hI.v.2 (hall n (by omega)))
  · refine ⟨rfl, rfl, fun _ _ => rfl, by simp [hops], ?_, ?_, ?_⟩
    · intro i j _ h
      rw [rep_false] at h; cases h
    · intro i _ h
      rw [rep_false] at h; cases h
    · have h1 := open_rep ops.size
      exact Vr.mk hD (by omega) (rep_false _ _)
theorem wp_hide {P : Program} {o : Oper} {a : Act} {w : World} {I : Act → World → Prop} {Q : Exit → Act → World → Prop} (h : ∀ K : Act → World → Prop, Hid (∀ a w, I a w → K a w) → o.wp P a w K Q) : o.wp P a w I Q := h I (fun _ _ h => h)
end Go.Proofs.YtgakmkhbnjofhaaGreatDoor
/- A parcel that is being spoilt. -/
namespace Go.Proofs.YtgakmkhbnjofhaaGreatDoor
open Go.RowKit
set_option linter.unusedVariables false

/-- While a parcel is turned: its box bm, its list from B on, the reader kr, room for the answer. -/
structure Dp (w : World) (kr bm B : Nat) (P : ParD) (s : Value) (q : Int) (x : World) : Prop where
  b : ∀ k, x.cell? ⟨bm, k, none⟩ = (#[.int .i64 P.k, .string P.b, .int .i64 P.se, s, .string P.h, .string P.c, .int .i64 P.t] : Array Value)[k]?
  c : ∀ k, x.frozen? ⟨bm, k, none⟩ = false
  d : x.there w.heap.size 0 7
  l : W.Ow x s P.ws B
  nb : s.ownBlock ≠ some bm
  r : Rq x kr q
  e : Below w.heap.size w x
  z : bm < x.heap.size
  zw : w.heap.size < kr
  zk : kr < bm
  zb : kr < B
theorem dp_rest {w : World} {kr bm B : Nat} {P : ParD} {s : Value} {q : Int} {x y : World} {row : Option Nat} (h : Dp w kr bm B P s q x) (hg : x.grownBy y row) (hr : ∀ k, row = some k → kr < k ∧ k ≠ bm) :
    (∀ k, y.cell? ⟨bm, k, none⟩ = (#[.int .i64 P.k, .string P.b, .int .i64 P.se, s, .string P.h, .string P.c, .int .i64 P.t] : Array Value)[k]?) ∧ (∀ k, y.frozen? ⟨bm, k, none⟩ = false) ∧ y.there w.heap.size 0 7 ∧ Rq y kr q ∧ Below w.heap.size w y ∧ bm < y.heap.size := by
  have z := h.z
  have zw := h.zw
  have zk := h.zk
  have kb : y.heap[bm]? = x.heap[bm]? := hg.block bm z (fun e => by have := hr _ e.symm; omega)
  have kw : y.heap[w.heap.size]? = x.heap[w.heap.size]? := hg.block _ (by omega) (fun e => by have := hr _ e.symm; omega)
  exact ⟨fun k => (World.cell?_of_block (w := x) (a := ⟨bm, k, none⟩) kb).trans (h.b k), fun k => (World.frozen?_of_block (w := x) (a := ⟨bm, k, none⟩) kb).trans (h.c k), fun j hj => ⟨by rw [World.cell?_of_block (w := x) (a := ⟨w.heap.size, 0 + j, none⟩) kw]; exact (h.d j hj).1, by rw [World.frozen?_of_block (w := x) (a := ⟨w.heap.size, 0 + j, none⟩) kw]; exact (h.d j hj).2⟩, h.r.grown hg (fun k hk => (hr k hk).1), Below.grown (row := row) h.e hg h.e.size (fun k hk => by have := hr k hk; omega), Nat.lt_of_lt_of_le z hg.size⟩
theorem Dp.below {w : World} {kr bm B : Nat} {P : ParD} {s : Value} {q : Int} {x y : World} (h : Dp w kr bm B P s q x) (hb : Below x.heap.size x y) : Dp w kr bm B P s q y := by
  obtain ⟨hb', hc, hd, hr', he, z⟩ := dp_rest h (grown_below hb) (fun k hk => by cases hk)
  exact ⟨hb', hc, hd, h.l.keep hb, h.nb, hr', he, z, h.zw, h.zk, h.zb⟩
theorem Dp.pick {w : World} {kr bm B : Nat} {P : ParD} {s : Value} {q : Int} {x y : World} {q' : Int} (h : Dp w kr bm B P s q x) (he : Ex kr x y) (hr : Rq y kr q') : Dp w kr bm B P s q' y := by
  have z := h.z
  have zw := h.zw
  have zk := h.zk
  have zb := h.zb
  exact ⟨fun k => (he.cell (p := ⟨bm, k, none⟩) z (by show bm ≠ kr; omega)).trans (h.b k), fun k => (he.frozen (p := ⟨bm, k, none⟩) z (by show bm ≠ kr; omega)).trans (h.c k), there_ex h.d (by omega) he (by omega), h.l.ex he (by omega), h.nb, hr, Ex.mono h.e he (by omega), Nat.lt_of_lt_of_le z he.size, zw, zk, zb⟩
theorem Dp.up {w : World} {kr bm B : Nat} {P : ParD} {s : Value} {q : Int} {x : World} {q' : Int} (h : Dp w kr bm B P s q x) (hq : q ≤ q') : Dp w kr bm B P s q' x := ⟨h.b, h.c, h.d, h.l, h.nb, h.r.up hq, h.e, h.z, h.zw, h.zk, h.zb⟩
/-- A field is written. -/
theorem dp_set {w : World} {kr bm B : Nat} {P P' : ParD} {s s' : Value} {q : Int} {x : World} (hb : ∀ k, x.cell? ⟨bm, k, none⟩ = (#[.int .i64 P.k, .string P.b, .int .i64 P.se, s, .string P.h, .string P.c, .int .i64 P.t] : Array Value)[k]?) (hc : ∀ k, x.frozen? ⟨bm, k, none⟩ = false) (hd : x.there w.heap.size 0 7) (hr : Rq x kr q) (he0 : Below w.heap.size w x) (z : bm < x.heap.size) (zw : w.heap.size < kr) (zk : kr < bm) (zb : kr < B) (j : Nat) (u : Value) (hj : j < 7) (hO : (#[.int .i64 P'.k, .string P'.b, .int .i64 P'.se, s', .string P'.h, .string P'.c, .int .i64 P'.t] : Array Value) = (#[.int .i64 P.k, .string P.b, .int .i64 P.se, s, .string P.h, .string P.c, .int .i64 P.t] : Array Value).setIfInBounds j u)
    (hl : W.Ow x s' P'.ws B) (nb : s'.ownBlock ≠ some bm) : Dp w kr bm B P' s' q (x.setCell ⟨bm, j, none⟩ u) := by
  have he : Ex bm x (x.setCell ⟨bm, j, none⟩ u) := (Ex.refl _ _).set j u
  have hg : x.grownBy (x.setCell ⟨bm, j, none⟩ u) (some bm) := ex_grown he
  refine ⟨fun k => ?_, fun k => by rw [World.frozen?_setCell]; exact hc k, there_ex hd (by omega) he (by omega), hl.grown hg (Or.inr nb), nb, hr.grown hg (fun k hk => by cases hk; omega), Below.grown (row := some bm) he0 hg he0.size (fun k hk => by cases hk; omega), Nat.lt_of_lt_of_le z he.size, zw, zk, zb⟩
  rw [hO]
  by_cases e : k = j
  · subst e
    have h1 := hb k
    rw [Array.getElem?_eq_getElem (by simpa using hj)] at h1
    rw [World.cell?_setCell_same _ _ _ h1, Array.getElem?_setIfInBounds_self_of_lt (by simpa using hj)]
  · rw [World.cell?_setCell_other _ _ _ _ (fun h' => e (by have := congrArg Addr.off h'; exact this.symm)), hb k, Array.getElem?_setIfInBounds_ne (fun e' => e e'.symm)]
theorem Dp.set {w : World} {kr bm B : Nat} {P P' : ParD} {s : Value} {q : Int} {x : World} (h : Dp w kr bm B P s q x) (j : Nat) (u : Value) (hj : j < 7) (hO : (#[.int .i64 P'.k, .string P'.b, .int .i64 P'.se, s, .string P'.h, .string P'.c, .int .i64 P'.t] : Array Value) = (#[.int .i64 P.k, .string P.b, .int .i64 P.se, s, .string P.h, .string P.c, .int .i64 P.t] : Array Value).setIfInBounds j u) (hw : P'.ws = P.ws) : Dp w kr bm B P' s q (x.setCell ⟨bm, j, none⟩ u) :=
  dp_set h.b h.c h.d h.r h.e h.z h.zw h.zk h.zb j u hj hO (by rw [hw]; exact h.l) h.nb
theorem nb_newp {v s : Value} {bm n : Nat} (hs : s.ownBlock ≠ some bm) (hz : bm < n) (hat : v.ownBlock = s.ownBlock ∨ v.ownBlock = some n) : v.ownBlock ≠ some bm := by
  rcases hat with h | h
  · rw [h]; exact hs
  · rw [h]; intro e; cases e; omega
/-- A want is appended. -/
theorem Dp.app {w : World} {kr bm B : Nat} {P : ParD} {s : Value} {q : Int} {x y : World} {v : Value} {l : List W.WantD} (h : Dp w kr bm B P s q x) (hg : x.grownBy y s.ownBlock) (ho : W.Ow y v l B) (hat : v.ownBlock = s.ownBlock ∨ v.ownBlock = some x.heap.size) :
    Dp w kr bm B { P with ws := l } v q (y.setCell ⟨bm, 3, none⟩ v) := by
  have zb := h.zb
  obtain ⟨hb, hc, hd, hr, he, z⟩ := dp_rest h hg (fun k hk => ⟨by have := (h.l.lt k hk).1; omega, fun e => h.nb (by rw [hk, e])⟩)
  exact dp_set hb hc hd hr he z h.zw h.zk h.zb 3 v (by omega) rfl ho (nb_newp h.nb h.z hat)
theorem dp_new {w w2 : World} {kr B : Nat} {P : ParD} {s : Value} {q : Int} (hd : w2.there w.heap.size 0 7) (ho : W.Ow w2 s P.ws B) (hr : Rq w2 kr q) (he : Below w.heap.size w w2) (hz : w.heap.size < kr) (hk : kr < w2.heap.size) (hB : kr < B) :
    Dp w kr w2.heap.size B P s q (w2.alloc (.cells #[.int .i64 P.k, .string P.b, .int .i64 P.se, s, .string P.h, .string P.c, .int .i64 P.t] 25)) :=
  ⟨fun k => by simp [go_sem], fun k => by simp [go_sem], there_keep2 hd (by omega) (bl_alloc (Below.refl _ _) _), ho.keep (bl_alloc (Below.refl _ _) _), fun e => by have := (ho.lt _ e).2; omega, hr.below (bl_alloc (Below.refl _ _) _), bl_trans he (bl_alloc (Below.refl _ _) _), by simp, hz, hk, hB⟩
def newW (c h : ByteArray) : W.WantD := ⟨c, h, 1, 0, 0, 0, 0⟩
def arrV (c h : ByteArray) : Array Value := #[.string c, .int .i64 1, .string h, .int .i64 0, .int .i64 0, .int .i64 0, .int .i64 0]
theorem bld1v (c h : ByteArray) (w : World) : Sem.run Tryz.prog (Instr.buildSlice 23 1 #[(0, .agg #[.string c, .int .i64 1, .string h, .int .i64 0, .int .i64 0, .int .i64 0, .int .i64 0])]) w = .ok (.slice (some ⟨w.heap.size, 0, none⟩) 1 1) (w.alloc (.cells (arrV c h) 46)) := by kernel_rfl
def arr2t (x y : ByteArray) : Array Value := #[.string x, .string y]
theorem bld2t (x y : ByteArray) (w : World) : Sem.run Tryz.prog (Instr.buildSlice 43 2 #[(0, .string x), (1, .string y)]) w = .ok (.slice (some ⟨w.heap.size, 0, none⟩) 2 2) (w.alloc (.cells (arr2t x y) 9)) := by kernel_rfl
theorem lst_txt {w : World} {cs : List Value} {t : TypeId} {B rb : Nat} (hB : B ≤ w.heap.size) (hb : rb < w.heap.size) (h : ∀ v ∈ cs, Txt v) : Lst Txt B rb cs.length (w.alloc (.cells cs.toArray t)) (.slice (some ⟨w.heap.size, 0, none⟩) cs.length cs.length) :=
  ⟨w.heap.size, rfl, hB, by omega, by simp, fun j hj => ⟨cs[j], by rw [World.cell?_alloc_new]; simp [hj], h _ (List.getElem_mem hj)⟩⟩
/-- A want that is built; alone in a block; appended. -/
def WntV (v : Value) : Prop := ∃ (c h : ByteArray), v = .agg #[.string c, .int .i64 1, .string h, .int .i64 0, .int .i64 0, .int .i64 0, .int .i64 0] ∧ c.size ≤ 20 ∧ h.size ≤ 20
def WntN (B : Nat) (w : World) (v : Value) : Prop := ∃ (c h : ByteArray) (g : Nat), v = .slice (some ⟨g, 0, none⟩) 1 1 ∧ B ≤ g ∧ g < w.heap.size ∧ w.heap[g]? = some (.cells (arrV c h) 46) ∧ c.size ≤ 20 ∧ h.size ≤ 20
theorem WntN.keep {B kr : Nat} {w w' : World} {v : Value} (h : WntN B w v) (he : Ex kr w w') (hk : kr < B) : WntN B w' v := by
  obtain ⟨c, h1, g, rfl, g0, g1, g2, g3⟩ := h
  exact ⟨c, h1, g, rfl, g0, Nat.lt_of_lt_of_le g1 he.size, by rw [he.block g g1 (by omega)]; exact g2, g3⟩
def WntP (D : Int → World → Prop) (B : Nat) (Q : Int) (l : List W.WantD) (s : Value) (w : World) (v : Value) : Prop := ∃ (x : World) (p : Int) (c h : ByteArray), D p x ∧ p ≤ Q ∧ x.grownBy w s.ownBlock ∧ W.Ow w v (l ++ [newW c h]) B ∧ (v.ownBlock = s.ownBlock ∨ v.ownBlock = some x.heap.size) ∧ c.size ≤ 20 ∧ h.size ≤ 20
theorem wntApp {o : Oper} {a : Act} {Y : World} {K : Act → World → Prop} {Q : Exit → Act → World → Prop} (B : Nat) (s x : Operand)
    (ho : o.op = .call { callee := .builtin .append, args := #[s, x], argTypes := #[23, 23] }) (l : List W.WantD) (v u : Value)
    (hs : a.eval s = v) (hown : W.Ow Y v l B) (hB : B ≤ Y.heap.size) (hx : a.eval x = u) (hn : WntN B Y u) (hl : l.length ≤ 1000)
    (h : ∀ (s' : Value) (w' : World) (c hh : ByteArray), W.Ow w' s' (l ++ [newW c hh]) B → Y.grownBy w' v.ownBlock → (s'.ownBlock = v.ownBlock ∨ s'.ownBlock = some Y.heap.size) → c.size ≤ 20 → hh.size ≤ 20 → K (a.put o.dst s') w') : o.wp Tryz.prog a Y K Q := by
  obtain ⟨i0, hi, hz0, hz1, hz2⟩ := info_parts W.infoR
  obtain ⟨c, hh, g, rfl, g0, g1, g2, g3, g4⟩ := hn
  refine wp_append_own_at s x 23 ho B 46 i0 _ 7 72 Tryz.underlying23 hi hz0 hz1 hz2 rfl (by decide) v l.length _ hs hown ⟨g, 0, none⟩ 1 1 (newW c hh).cells hx rfl (fun j u hj => cells_blk g2 j u hj) (W.one_cells _) (by unfold maxLen; omega) (by omega) hB ?_
  intro s' w' ho' hg' hat
  refine h s' w' c hh ?_ hg' hat g3 g4
  show World.ownsRow _ _ _ _ _ (l ++ [newW c hh]).length _
  rw [List.length_append]
  simpa [W.flatR] using ho'
def Gp (kr bm B : Nat) (s : Value) (D : Int → World → Prop) (Q : Int) (l : List W.WantD) (w : World) : Nat → Value → Prop
  | 0, v => v = .pointer (some ⟨bm, 3, none⟩)
  | 1, v => v = s
  | 2, v => Lst Txt B bm 2 w v
  | 3, v => v = .pointer (some ⟨kr, 0, none⟩)
  | 4, v => Num 0 1 v
  | 5, v => Cell Txt B bm w v
  | 6, v => Txt v
  | 7, v => Lst Txt B bm 2 w v
  | 8, v => v = .pointer (some ⟨kr, 0, none⟩)
  | 9, v => Num 0 1 v
  | 10, v => Cell Txt B bm w v
  | 11, v => Txt v
  | 12, v => WntV v
  | 13, v => WntN B w v
  | 14, v => WntP D B Q l s w v
  | 15, v => v = .pointer (some ⟨bm, 3, none⟩)
  | _, _ => True
theorem Gp.keep {kr bm B : Nat} {s : Value} {D : Int → World → Prop} {Q : Int} {l : List W.WantD} {w w' : World} (he : Ex kr w w') (hk : kr < B) : ∀ i v, i ≠ 14 → Gp kr bm B s D Q l w i v → Gp kr bm B s D Q l w' i v
  | 0, _, _, h => h
  | 1, _, _, h => h
  | 2, _, _, h => Lst.keep h he hk
  | 3, _, _, h => h
  | 4, _, _, h => h
  | 5, _, _, h => Cell.keep h he hk
  | 6, _, _, h => h
  | 7, _, _, h => Lst.keep h he hk
  | 8, _, _, h => h
  | 9, _, _, h => h
  | 10, _, _, h => Cell.keep h he hk
  | 11, _, _, h => h
  | 12, _, _, h => h
  | 13, _, _, h => WntN.keep h he hk
  | 14, _, hne, _ => absurd rfl hne
  | 15, _, _, h => h
  | _ + 16, _, _, h => h
end Go.Proofs.YtgakmkhbnjofhaaGreatDoor
