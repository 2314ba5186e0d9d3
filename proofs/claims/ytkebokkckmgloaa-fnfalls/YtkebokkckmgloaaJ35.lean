import Derived.Test.YtkebokkckmgloaaJ31
import Derived.Test.YtkebokkckmgloaaJ29
/- A mate that l4Any has in hand. -/
namespace Go.Proofs.Ytkebokkckmgloaa
open Go.RowKit
set_option linter.unusedVariables false

/-- While l4Any has a mate: its box bm, its lists from B on, the reader kr, room for the answer. -/
structure Da (w : World) (kr bm B : Nat) (m : MateD) (s1 s2 s3 s4 : Value) (q : Int) (x : World) : Prop where
  b : ∀ k, x.cell? ⟨bm, k, none⟩ = (#[.string m.nm, .bool m.up, .int .i64 m.ck, .bool m.kn, .int .i64 m.se, s1, s2, s3, s4] : Array Value)[k]?
  c : ∀ k, x.frozen? ⟨bm, k, none⟩ = false
  d : x.there w.heap.size 0 9
  l : SlM x m s1 s2 s3 s4 B
  nb : s1.ownBlock ≠ some bm ∧ s2.ownBlock ≠ some bm ∧ s3.ownBlock ≠ some bm ∧ s4.ownBlock ≠ some bm
  r : Rq x kr q
  e : Ex kr w x
  z : bm < x.heap.size
  zw : w.heap.size < bm
  zb : w.heap.size < B
  zk : kr < w.heap.size
/-- What a block of the call's own turning leaves. -/
theorem da_rest {w : World} {kr bm B : Nat} {m : MateD} {s1 s2 s3 s4 : Value} {q : Int} {x y : World} {row : Option Nat} (h : Da w kr bm B m s1 s2 s3 s4 q x) (hg : x.grownBy y row) (hr : ∀ k, row = some k → w.heap.size < k ∧ k ≠ bm) :
    (∀ k, y.cell? ⟨bm, k, none⟩ = (#[.string m.nm, .bool m.up, .int .i64 m.ck, .bool m.kn, .int .i64 m.se, s1, s2, s3, s4] : Array Value)[k]?) ∧ (∀ k, y.frozen? ⟨bm, k, none⟩ = false) ∧ y.there w.heap.size 0 9 ∧ Rq y kr q ∧ Ex kr w y ∧ bm < y.heap.size := by
  have z := h.z
  have zw := h.zw
  have zk := h.zk
  have kb : y.heap[bm]? = x.heap[bm]? := hg.block bm z (fun e => by have := hr _ e.symm; omega)
  have kw : y.heap[w.heap.size]? = x.heap[w.heap.size]? := hg.block _ (by omega) (fun e => by have := hr _ e.symm; omega)
  exact ⟨fun k => (World.cell?_of_block (w := x) (a := ⟨bm, k, none⟩) kb).trans (h.b k), fun k => (World.frozen?_of_block (w := x) (a := ⟨bm, k, none⟩) kb).trans (h.c k), fun j hj => ⟨by rw [World.cell?_of_block (w := x) (a := ⟨w.heap.size, 0 + j, none⟩) kw]; exact (h.d j hj).1, by rw [World.frozen?_of_block (w := x) (a := ⟨w.heap.size, 0 + j, none⟩) kw]; exact (h.d j hj).2⟩, h.r.grown hg (fun k hk => by have := hr k hk; omega), h.e.grown hg (fun k hk => by have := hr k hk; omega), Nat.lt_of_lt_of_le z hg.size⟩
theorem Da.grown {w : World} {kr bm B : Nat} {m : MateD} {s1 s2 s3 s4 : Value} {q : Int} {x y : World} {row : Option Nat} (h : Da w kr bm B m s1 s2 s3 s4 q x) (hg : x.grownBy y row) (hr : ∀ k, row = some k → w.heap.size < k ∧ k ≠ bm)
    (hn : ∀ k, row = some k → s1.ownBlock ≠ some k ∧ s2.ownBlock ≠ some k ∧ s3.ownBlock ≠ some k ∧ s4.ownBlock ≠ some k) : Da w kr bm B m s1 s2 s3 s4 q y := by
  obtain ⟨hb, hc, hd, hr', he, z⟩ := da_rest h hg hr
  have l := h.l
  exact ⟨hb, hc, hd, ⟨l.a1.grown hg (ob_of fun k hk => (hn k hk).1), l.a2.grown hg (ob_of fun k hk => (hn k hk).2.1), l.a3.grown hg (ob_of fun k hk => (hn k hk).2.2.1), l.a4.grown hg (ob_of fun k hk => (hn k hk).2.2.2), l.d12, l.d13, l.d14, l.d23, l.d24, l.d34⟩, h.nb, hr', he, z, h.zw, h.zb, h.zk⟩
theorem Da.below {w : World} {kr bm B : Nat} {m : MateD} {s1 s2 s3 s4 : Value} {q : Int} {x y : World} (h : Da w kr bm B m s1 s2 s3 s4 q x) (hb : Below x.heap.size x y) : Da w kr bm B m s1 s2 s3 s4 q y :=
  h.grown (grown_below hb) (fun k hk => by cases hk) (fun k hk => by cases hk)
theorem Da.pick {w : World} {kr bm B : Nat} {m : MateD} {s1 s2 s3 s4 : Value} {q q' : Int} {x y : World} (h : Da w kr bm B m s1 s2 s3 s4 q x) (he : Ex kr x y) (hr : Rq y kr q') : Da w kr bm B m s1 s2 s3 s4 q' y := by
  have z := h.z
  have zw := h.zw
  have zb := h.zb
  have zk := h.zk
  exact ⟨fun k => (he.cell (p := ⟨bm, k, none⟩) z (by show bm ≠ kr; omega)).trans (h.b k), fun k => (he.frozen (p := ⟨bm, k, none⟩) z (by show bm ≠ kr; omega)).trans (h.c k), there_ex h.d (by omega) he (by omega), h.l.ex he (by omega), h.nb, hr, h.e.trans he, Nat.lt_of_lt_of_le z he.size, zw, zb, zk⟩
theorem Da.up {w : World} {kr bm B : Nat} {m : MateD} {s1 s2 s3 s4 : Value} {q q' : Int} {x : World} (h : Da w kr bm B m s1 s2 s3 s4 q x) (hq : q ≤ q') : Da w kr bm B m s1 s2 s3 s4 q' x := ⟨h.b, h.c, h.d, h.l, h.nb, h.r.up hq, h.e, h.z, h.zw, h.zb, h.zk⟩
/-- A field of the mate is written. -/
theorem da_set {w : World} {kr bm B : Nat} {m m' : MateD} {s1 s2 s3 s4 t1 t2 t3 t4 : Value} {q : Int} {x : World} (hb : ∀ k, x.cell? ⟨bm, k, none⟩ = (#[.string m.nm, .bool m.up, .int .i64 m.ck, .bool m.kn, .int .i64 m.se, s1, s2, s3, s4] : Array Value)[k]?) (hc : ∀ k, x.frozen? ⟨bm, k, none⟩ = false) (hd : x.there w.heap.size 0 9) (hr : Rq x kr q) (he0 : Ex kr w x) (z : bm < x.heap.size) (zw : w.heap.size < bm) (zb : w.heap.size < B) (zk : kr < w.heap.size) (j : Nat) (u : Value) (hj : j < 9) (hO : (#[.string m'.nm, .bool m'.up, .int .i64 m'.ck, .bool m'.kn, .int .i64 m'.se, t1, t2, t3, t4] : Array Value) = (#[.string m.nm, .bool m.up, .int .i64 m.ck, .bool m.kn, .int .i64 m.se, s1, s2, s3, s4] : Array Value).setIfInBounds j u)
    (hl : SlM x m' t1 t2 t3 t4 B) (nb : t1.ownBlock ≠ some bm ∧ t2.ownBlock ≠ some bm ∧ t3.ownBlock ≠ some bm ∧ t4.ownBlock ≠ some bm) : Da w kr bm B m' t1 t2 t3 t4 q (x.setCell ⟨bm, j, none⟩ u) := by
  have he : Ex bm x (x.setCell ⟨bm, j, none⟩ u) := (Ex.refl _ _).set j u
  have hg : x.grownBy (x.setCell ⟨bm, j, none⟩ u) (some bm) := A.ex_grown he
  refine ⟨fun k => ?_, fun k => by rw [World.frozen?_setCell]; exact hc k, there_ex hd (by omega) he (by omega), ⟨hl.a1.grown hg (ob_ne1 nb.1), hl.a2.grown hg (ob_ne1 nb.2.1), hl.a3.grown hg (ob_ne1 nb.2.2.1), hl.a4.grown hg (ob_ne1 nb.2.2.2), hl.d12, hl.d13, hl.d14, hl.d23, hl.d24, hl.d34⟩, nb, hr.grown hg (fun k hk => by cases hk; omega), he0.grown hg (fun k hk => by cases hk; omega), Nat.lt_of_lt_of_le z he.size, zw, zb, zk⟩
  rw [hO]
  by_cases e : k = j
  · subst e
    have h1 := hb k
    rw [Array.getElem?_eq_getElem (by simpa using hj)] at h1
    rw [World.cell?_setCell_same _ _ _ h1, Array.getElem?_setIfInBounds_self_of_lt (by simpa using hj)]
  · rw [World.cell?_setCell_other _ _ _ _ (fun h' => e (by have := congrArg Addr.off h'; exact this.symm)), hb k, Array.getElem?_setIfInBounds_ne (fun e' => e e'.symm)]
theorem Da.set {w : World} {kr bm B : Nat} {m m' : MateD} {s1 s2 s3 s4 t1 t2 t3 t4 : Value} {q : Int} {x : World} (h : Da w kr bm B m s1 s2 s3 s4 q x) (j : Nat) (u : Value) (hj : j < 9) (hO : (#[.string m'.nm, .bool m'.up, .int .i64 m'.ck, .bool m'.kn, .int .i64 m'.se, t1, t2, t3, t4] : Array Value) = (#[.string m.nm, .bool m.up, .int .i64 m.ck, .bool m.kn, .int .i64 m.se, s1, s2, s3, s4] : Array Value).setIfInBounds j u)
    (hl : SlM x m' t1 t2 t3 t4 B) (nb : t1.ownBlock ≠ some bm ∧ t2.ownBlock ≠ some bm ∧ t3.ownBlock ≠ some bm ∧ t4.ownBlock ≠ some bm) : Da w kr bm B m' t1 t2 t3 t4 q (x.setCell ⟨bm, j, none⟩ u) := da_set h.b h.c h.d h.r h.e h.z h.zw h.zb h.zk j u hj hO hl nb
/-- Something is appended to the runs. -/
theorem Da.app2 {w : World} {kr bm B : Nat} {m : MateD} {s1 s2 s3 s4 v : Value} {q : Int} {x y : World} {l : List RunD} (h : Da w kr bm B m s1 s2 s3 s4 q x) (hg : x.grownBy y s2.ownBlock) (ho : Ow y v l B) (hat : v.ownBlock = s2.ownBlock ∨ v.ownBlock = some x.heap.size) :
    Da w kr bm B { m with rs := l } s1 v s3 s4 q (y.setCell ⟨bm, 6, none⟩ v) := by
  have o := h.l
  have zb := h.zb
  obtain ⟨hb, hc, hd, hr, he, z⟩ := da_rest h hg (fun k hk => ⟨by have := (o.a2.lt k hk).1; omega, fun e => h.nb.2.1 (by rw [hk, e])⟩)
  exact da_set hb hc hd hr he z h.zw h.zb h.zk 6 v (by omega) rfl ⟨o.a1.grown hg o.d12, ho.sl, o.a3.grown hg o.d23.symm, o.a4.grown hg o.d24.symm, dif_new o.d12 (fun g hg => (o.a1.lt g hg).2) hat, o.d13, o.d14, (dif_new o.d23.symm (fun g hg => (o.a3.lt g hg).2) hat).symm, (dif_new o.d24.symm (fun g hg => (o.a4.lt g hg).2) hat).symm, o.d34⟩ ⟨h.nb.1, nb_new h.nb.2.1 h.z hat, h.nb.2.2.1, h.nb.2.2.2⟩
theorem da_other {w : World} {kr bm B g : Nat} {m : MateD} {s1 s2 s3 s4 : Value} {q : Int} {x y : World} (h : Da w kr bm B m s1 s2 s3 s4 q x) (he : Ex g x y) (hg0 : B ≤ g) (hgb : g ≠ bm) :
    (∀ k, y.cell? ⟨bm, k, none⟩ = (#[.string m.nm, .bool m.up, .int .i64 m.ck, .bool m.kn, .int .i64 m.se, s1, s2, s3, s4] : Array Value)[k]?) ∧ (∀ k, y.frozen? ⟨bm, k, none⟩ = false) ∧ y.there w.heap.size 0 9 ∧ Rq y kr q ∧ Ex kr w y ∧ bm < y.heap.size :=
  da_rest h (A.ex_grown he) (fun k hk => by cases hk; exact ⟨by have := h.zb; omega, hgb⟩)
/-- The runs turn where they lie. -/
theorem Da.runsE {w : World} {kr bm B g n c : Nat} {m : MateD} {s1 s3 s4 : Value} {q : Int} {x y : World} {rs : List RunD} (h : Da w kr bm B m s1 (.slice (some ⟨g, 0, none⟩) n c) s3 s4 q x) (he : Ex g x y) (ho : Sl y (.slice (some ⟨g, 0, none⟩) n c) rs B) :
    Da w kr bm B { m with rs := rs } s1 (.slice (some ⟨g, 0, none⟩) n c) s3 s4 q y := by
  have l := h.l
  have hg : x.grownBy y (some g) := A.ex_grown he
  have n1 : s1.ownBlock = none ∨ s1.ownBlock ≠ some g := by have := l.d12; simpa [Dif, Value.ownBlock] using this
  have n3 : s3.ownBlock = none ∨ s3.ownBlock ≠ some g := by have := l.d23.symm; simpa [Dif, Value.ownBlock] using this
  have n4 : s4.ownBlock = none ∨ s4.ownBlock ≠ some g := by have := l.d24.symm; simpa [Dif, Value.ownBlock] using this
  obtain ⟨hb, hc, hd, hr, he', z⟩ := da_other h he (l.a2.lt g rfl).1 (fun e => h.nb.2.1 (by rw [e]; rfl))
  exact ⟨hb, hc, hd, ⟨l.a1.grown hg n1, ho, l.a3.grown hg n3, l.a4.grown hg n4, l.d12, l.d13, l.d14, l.d23, l.d24, l.d34⟩, h.nb, hr, he', z, h.zw, h.zb, h.zk⟩
theorem Sl.put {x : World} {g n c B i j : Nat} {rs : List RunD} {r r' : RunD} {v : Value} (h : Sl x (.slice (some ⟨g, 0, none⟩) n c) rs B) (hr : rs[i]? = some r) (hc : r'.cells = r.cells.set j v) (hj : j < 11) : Sl (x.setCell ⟨g, i * 11 + j, none⟩ v) (.slice (some ⟨g, 0, none⟩) n c) (rs.set i r') B := by
  have hi : i < rs.length := (List.getElem?_eq_some_iff.1 hr).1
  rcases h with ⟨h1, -⟩ | ⟨g', cap, h1, h2, h3, h4, h5⟩
  · cases h1
  · cases h1
    have hz : x.heap.size ≤ (x.setCell ⟨g, i * 11 + j, none⟩ v).heap.size := ((Ex.refl g x).set (i * 11 + j) v).size
    refine Or.inr ⟨g, c, by rw [List.length_set], h2, Nat.lt_of_lt_of_le h3 hz, ?_, by rw [List.length_set]; exact World.there_setCells h5 g (i * 11 + j) [v]⟩
    intro k q hk t u hu
    have ht : t < 11 := (List.getElem?_eq_some_iff.1 hu).1
    have hold : ∀ k' q' t' u', rs[k']? = some q' → q'.cells[t']? = some u' → (k' * 11 + t' ≠ i * 11 + j) → (x.setCell ⟨g, i * 11 + j, none⟩ v).cell? ⟨g, 0 + k' * 11 + t', none⟩ = some u' := fun k' q' t' u' h6 h7 h8 => by
      rw [World.cell?_setCell_other _ _ _ _ (fun e => h8 (by have := congrArg Addr.off e; simp only at this; omega))]
      exact h4 k' q' h6 t' u' h7
    by_cases e : k = i
    · subst e
      rw [List.getElem?_set_self hi] at hk
      cases hk
      rw [hc] at hu
      by_cases e2 : t = j
      · subst e2
        rw [List.getElem?_set_self (by show t < 11; omega)] at hu
        cases hu
        obtain ⟨u0, hu0⟩ : ∃ u0, r.cells[t]? = some u0 := ⟨r.cells[t]'(by show t < 11; omega), List.getElem?_eq_getElem _⟩
        have h9 := h4 k r hr t u0 hu0
        rw [Nat.zero_add] at h9 ⊢
        exact World.cell?_setCell_same _ _ _ h9
      · rw [List.getElem?_set_ne (fun e' => e2 e'.symm)] at hu
        exact hold k r t u hr hu (by omega)
    · rw [List.getElem?_set_ne (fun e' => e e'.symm)] at hk
      exact hold k q t u hk hu (by omega)
theorem Da.run {w : World} {kr bm B g n c : Nat} {m : MateD} {s1 s3 s4 : Value} {q : Int} {x : World} {i j : Nat} {r r' : RunD} {v : Value} (h : Da w kr bm B m s1 (.slice (some ⟨g, 0, none⟩) n c) s3 s4 q x) (hr : m.rs[i]? = some r) (hc : r'.cells = r.cells.set j v) (hj : j < 11) :
    Da w kr bm B { m with rs := m.rs.set i r' } s1 (.slice (some ⟨g, 0, none⟩) n c) s3 s4 q (x.setCell ⟨g, i * 11 + j, none⟩ v) :=
  h.runsE ((Ex.refl g x).set (i * 11 + j) v) (Sl.put h.l.a2 hr hc hj)
theorem SlM.mate {x : World} {m m' : MateD} {s1 s2 s3 s4 : Value} {B : Nat} (h : SlM x m s1 s2 s3 s4 B) (e1 : m'.ws = m.ws) (e2 : m'.rs = m.rs) (e3 : m'.qs = m.qs) (e4 : m'.gs = m.gs) : SlM x m' s1 s2 s3 s4 B :=
  ⟨by rw [e1]; exact h.a1, by rw [e2]; exact h.a2, by rw [e3]; exact h.a3, by rw [e4]; exact h.a4, h.d12, h.d13, h.d14, h.d23, h.d24, h.d34⟩
theorem da_new {w w2 : World} {kr B : Nat} {m : MateD} {s1 s2 s3 s4 : Value} {q : Int} (hd : w2.there w.heap.size 0 9) (ho : SlM w2 m s1 s2 s3 s4 B) (hr : Rq w2 kr q) (he : Ex kr w w2) (hz : w.heap.size < w2.heap.size) (hB : w.heap.size < B) (hk : kr < w.heap.size) :
    Da w kr w2.heap.size B m s1 s2 s3 s4 q (w2.alloc (.cells #[.string m.nm, .bool m.up, .int .i64 m.ck, .bool m.kn, .int .i64 m.se, s1, s2, s3, s4] 27)) :=
  ⟨fun k => by simp [go_sem], fun k => by simp [go_sem], there_keep2 hd hz (bl_alloc (Below.refl _ _) _), ho.keep (bl_alloc (Below.refl _ _) _), ⟨fun e => by have := (ho.a1.lt _ e).2; omega, fun e => by have := (ho.a2.lt _ e).2; omega, fun e => by have := (ho.a3.lt _ e).2; omega, fun e => by have := (ho.a4.lt _ e).2; omega⟩, hr.below (bl_alloc (Below.refl _ _) _), he.then_below (bl_alloc (Below.refl _ _) _), by simp, hz, hB, hk⟩
end Go.Proofs.Ytkebokkckmgloaa
