import Derived.Test.YtkebokkckmgloaaJ30
import Derived.Test.YtkebokkckmgloaaJ29
/- A mate that is being spoilt: its box lies anywhere. -/
namespace Go.Proofs.Ytkebokkckmgloaa
open Go.RowKit
set_option linter.unusedVariables false

/-- While a mate is turned: its box bm, its lists from B on, the reader kr, room for the answer. -/
structure Dn (w : World) (kr bm B : Nat) (m : MateD) (s1 s2 s3 s4 : Value) (q : Int) (x : World) : Prop where
  b : ∀ k, x.cell? ⟨bm, k, none⟩ = (#[.string m.nm, .bool m.up, .int .i64 m.ck, .bool m.kn, .int .i64 m.se, s1, s2, s3, s4] : Array Value)[k]?
  c : ∀ k, x.frozen? ⟨bm, k, none⟩ = false
  d : x.there w.heap.size 0 9
  l : OwM x m s1 s2 s3 s4 B
  nb : s1.ownBlock ≠ some bm ∧ s2.ownBlock ≠ some bm ∧ s3.ownBlock ≠ some bm ∧ s4.ownBlock ≠ some bm
  r : Rq x kr q
  e : Ex kr w x
  z : bm < x.heap.size
  zw : w.heap.size < bm
  zb : w.heap.size < B
  zk : kr < w.heap.size
/-- What a block of the call's own turning leaves. -/
theorem dn_rest {w : World} {kr bm B : Nat} {m : MateD} {s1 s2 s3 s4 : Value} {q : Int} {x y : World} {row : Option Nat} (h : Dn w kr bm B m s1 s2 s3 s4 q x) (hg : x.grownBy y row) (hr : ∀ k, row = some k → w.heap.size < k ∧ k ≠ bm) :
    (∀ k, y.cell? ⟨bm, k, none⟩ = (#[.string m.nm, .bool m.up, .int .i64 m.ck, .bool m.kn, .int .i64 m.se, s1, s2, s3, s4] : Array Value)[k]?) ∧ (∀ k, y.frozen? ⟨bm, k, none⟩ = false) ∧ y.there w.heap.size 0 9 ∧ Rq y kr q ∧ Ex kr w y ∧ bm < y.heap.size := by
  have z := h.z
  have zw := h.zw
  have zk := h.zk
  have kb : y.heap[bm]? = x.heap[bm]? := hg.block bm z (fun e => by have := hr _ e.symm; omega)
  have kw : y.heap[w.heap.size]? = x.heap[w.heap.size]? := hg.block _ (by omega) (fun e => by have := hr _ e.symm; omega)
  exact ⟨fun k => (World.cell?_of_block (w := x) (a := ⟨bm, k, none⟩) kb).trans (h.b k), fun k => (World.frozen?_of_block (w := x) (a := ⟨bm, k, none⟩) kb).trans (h.c k), fun j hj => ⟨by rw [World.cell?_of_block (w := x) (a := ⟨w.heap.size, 0 + j, none⟩) kw]; exact (h.d j hj).1, by rw [World.frozen?_of_block (w := x) (a := ⟨w.heap.size, 0 + j, none⟩) kw]; exact (h.d j hj).2⟩, h.r.grown hg (fun k hk => by have := hr k hk; omega), h.e.grown hg (fun k hk => by have := hr k hk; omega), Nat.lt_of_lt_of_le z hg.size⟩
theorem Dn.grown {w : World} {kr bm B : Nat} {m : MateD} {s1 s2 s3 s4 : Value} {q : Int} {x y : World} {row : Option Nat} (h : Dn w kr bm B m s1 s2 s3 s4 q x) (hg : x.grownBy y row) (hr : ∀ k, row = some k → w.heap.size < k ∧ k ≠ bm)
    (hn : ∀ k, row = some k → s1.ownBlock ≠ some k ∧ s2.ownBlock ≠ some k ∧ s3.ownBlock ≠ some k ∧ s4.ownBlock ≠ some k) : Dn w kr bm B m s1 s2 s3 s4 q y := by
  obtain ⟨hb, hc, hd, hr', he, z⟩ := dn_rest h hg hr
  have l := h.l
  exact ⟨hb, hc, hd, ⟨l.a1.grown hg (ob_of fun k hk => (hn k hk).1), l.a2.grown hg (ob_of fun k hk => (hn k hk).2.1), l.a3.grown hg (ob_of fun k hk => (hn k hk).2.2.1), l.a4.grown hg (ob_of fun k hk => (hn k hk).2.2.2), l.d12, l.d13, l.d14, l.d23, l.d24, l.d34⟩, h.nb, hr', he, z, h.zw, h.zb, h.zk⟩
theorem Dn.below {w : World} {kr bm B : Nat} {m : MateD} {s1 s2 s3 s4 : Value} {q : Int} {x y : World} (h : Dn w kr bm B m s1 s2 s3 s4 q x) (hb : Below x.heap.size x y) : Dn w kr bm B m s1 s2 s3 s4 q y :=
  h.grown (grown_below hb) (fun k hk => by cases hk) (fun k hk => by cases hk)
theorem Dn.pick {w : World} {kr bm B : Nat} {m : MateD} {s1 s2 s3 s4 : Value} {q q' : Int} {x y : World} (h : Dn w kr bm B m s1 s2 s3 s4 q x) (he : Ex kr x y) (hr : Rq y kr q') : Dn w kr bm B m s1 s2 s3 s4 q' y := by
  have z := h.z
  have zw := h.zw
  have zb := h.zb
  have zk := h.zk
  exact ⟨fun k => (he.cell (p := ⟨bm, k, none⟩) z (by show bm ≠ kr; omega)).trans (h.b k), fun k => (he.frozen (p := ⟨bm, k, none⟩) z (by show bm ≠ kr; omega)).trans (h.c k), there_ex h.d (by omega) he (by omega), h.l.ex he (by omega), h.nb, hr, h.e.trans he, Nat.lt_of_lt_of_le z he.size, zw, zb, zk⟩
theorem Dn.up {w : World} {kr bm B : Nat} {m : MateD} {s1 s2 s3 s4 : Value} {q q' : Int} {x : World} (h : Dn w kr bm B m s1 s2 s3 s4 q x) (hq : q ≤ q') : Dn w kr bm B m s1 s2 s3 s4 q' x := ⟨h.b, h.c, h.d, h.l, h.nb, h.r.up hq, h.e, h.z, h.zw, h.zb, h.zk⟩
theorem ob_ne1 {v : Value} {k : Nat} (h : v.ownBlock ≠ some k) : v.ownBlock = none ∨ v.ownBlock ≠ some k := Or.inr h
/-- A field of the mate is written. -/
theorem dn_set {w : World} {kr bm B : Nat} {m m' : MateD} {s1 s2 s3 s4 t1 t2 t3 t4 : Value} {q : Int} {x : World} (hb : ∀ k, x.cell? ⟨bm, k, none⟩ = (#[.string m.nm, .bool m.up, .int .i64 m.ck, .bool m.kn, .int .i64 m.se, s1, s2, s3, s4] : Array Value)[k]?) (hc : ∀ k, x.frozen? ⟨bm, k, none⟩ = false) (hd : x.there w.heap.size 0 9) (hr : Rq x kr q) (he0 : Ex kr w x) (z : bm < x.heap.size) (zw : w.heap.size < bm) (zb : w.heap.size < B) (zk : kr < w.heap.size) (j : Nat) (u : Value) (hj : j < 9) (hO : (#[.string m'.nm, .bool m'.up, .int .i64 m'.ck, .bool m'.kn, .int .i64 m'.se, t1, t2, t3, t4] : Array Value) = (#[.string m.nm, .bool m.up, .int .i64 m.ck, .bool m.kn, .int .i64 m.se, s1, s2, s3, s4] : Array Value).setIfInBounds j u)
    (hl : OwM x m' t1 t2 t3 t4 B) (nb : t1.ownBlock ≠ some bm ∧ t2.ownBlock ≠ some bm ∧ t3.ownBlock ≠ some bm ∧ t4.ownBlock ≠ some bm) : Dn w kr bm B m' t1 t2 t3 t4 q (x.setCell ⟨bm, j, none⟩ u) := by
  have he : Ex bm x (x.setCell ⟨bm, j, none⟩ u) := (Ex.refl _ _).set j u
  have hg : x.grownBy (x.setCell ⟨bm, j, none⟩ u) (some bm) := A.ex_grown he
  refine ⟨fun k => ?_, fun k => by rw [World.frozen?_setCell]; exact hc k, there_ex hd (by omega) he (by omega), ⟨hl.a1.grown hg (ob_ne1 nb.1), hl.a2.grown hg (ob_ne1 nb.2.1), hl.a3.grown hg (ob_ne1 nb.2.2.1), hl.a4.grown hg (ob_ne1 nb.2.2.2), hl.d12, hl.d13, hl.d14, hl.d23, hl.d24, hl.d34⟩, nb, hr.grown hg (fun k hk => by cases hk; omega), he0.grown hg (fun k hk => by cases hk; omega), Nat.lt_of_lt_of_le z he.size, zw, zb, zk⟩
  rw [hO]
  by_cases e : k = j
  · subst e
    have h1 := hb k
    rw [Array.getElem?_eq_getElem (by simpa using hj)] at h1
    rw [World.cell?_setCell_same _ _ _ h1, Array.getElem?_setIfInBounds_self_of_lt (by simpa using hj)]
  · rw [World.cell?_setCell_other _ _ _ _ (fun h' => e (by have := congrArg Addr.off h'; exact this.symm)), hb k, Array.getElem?_setIfInBounds_ne (fun e' => e e'.symm)]
theorem Dn.set {w : World} {kr bm B : Nat} {m m' : MateD} {s1 s2 s3 s4 t1 t2 t3 t4 : Value} {q : Int} {x : World} (h : Dn w kr bm B m s1 s2 s3 s4 q x) (j : Nat) (u : Value) (hj : j < 9) (hO : (#[.string m'.nm, .bool m'.up, .int .i64 m'.ck, .bool m'.kn, .int .i64 m'.se, t1, t2, t3, t4] : Array Value) = (#[.string m.nm, .bool m.up, .int .i64 m.ck, .bool m.kn, .int .i64 m.se, s1, s2, s3, s4] : Array Value).setIfInBounds j u)
    (hl : OwM x m' t1 t2 t3 t4 B) (nb : t1.ownBlock ≠ some bm ∧ t2.ownBlock ≠ some bm ∧ t3.ownBlock ≠ some bm ∧ t4.ownBlock ≠ some bm) : Dn w kr bm B m' t1 t2 t3 t4 q (x.setCell ⟨bm, j, none⟩ u) := dn_set h.b h.c h.d h.r h.e h.z h.zw h.zb h.zk j u hj hO hl nb
theorem nb_new {v s : Value} {bm n : Nat} (hs : s.ownBlock ≠ some bm) (hz : bm < n) (hat : v.ownBlock = s.ownBlock ∨ v.ownBlock = some n) : v.ownBlock ≠ some bm := by
  rcases hat with h | h
  · rw [h]; exact hs
  · rw [h]; intro e; cases e; omega
/-- Something is appended to the asks. -/
theorem Dn.app3 {w : World} {kr bm B : Nat} {m : MateD} {s1 s2 s3 s4 v : Value} {q : Int} {x y : World} {l : List A.AskD} (h : Dn w kr bm B m s1 s2 s3 s4 q x) (hg : x.grownBy y s3.ownBlock) (ho : A.Ow y v l B) (hat : v.ownBlock = s3.ownBlock ∨ v.ownBlock = some x.heap.size) :
    Dn w kr bm B { m with qs := l } s1 s2 v s4 q (y.setCell ⟨bm, 7, none⟩ v) := by
  have o := h.l
  have zb := h.zb
  obtain ⟨hb, hc, hd, hr, he, z⟩ := dn_rest h hg (fun k hk => ⟨by have := (o.a3.lt k hk).1; omega, fun e => h.nb.2.2.1 (by rw [hk, e])⟩)
  exact dn_set hb hc hd hr he z h.zw h.zb h.zk 7 v (by omega) rfl ⟨o.a1.grown hg o.d13, o.a2.grown hg o.d23, ho, o.a4.grown hg o.d34.symm, o.d12, dif_new o.d13 (fun g hg => (o.a1.lt g hg).2) hat, o.d14, dif_new o.d23 (fun g hg => (o.a2.lt g hg).2) hat, o.d24, (dif_new o.d34.symm (fun g hg => (o.a4.lt g hg).2) hat).symm⟩ ⟨h.nb.1, h.nb.2.1, nb_new h.nb.2.2.1 h.z hat, h.nb.2.2.2⟩
/-- Something is appended to the gives. -/
theorem Dn.app4 {w : World} {kr bm B : Nat} {m : MateD} {s1 s2 s3 s4 v : Value} {q : Int} {x y : World} {l : List A.AskD} (h : Dn w kr bm B m s1 s2 s3 s4 q x) (hg : x.grownBy y s4.ownBlock) (ho : A.Ow y v l B) (hat : v.ownBlock = s4.ownBlock ∨ v.ownBlock = some x.heap.size) :
    Dn w kr bm B { m with gs := l } s1 s2 s3 v q (y.setCell ⟨bm, 8, none⟩ v) := by
  have o := h.l
  have zb := h.zb
  obtain ⟨hb, hc, hd, hr, he, z⟩ := dn_rest h hg (fun k hk => ⟨by have := (o.a4.lt k hk).1; omega, fun e => h.nb.2.2.2 (by rw [hk, e])⟩)
  exact dn_set hb hc hd hr he z h.zw h.zb h.zk 8 v (by omega) rfl ⟨o.a1.grown hg o.d14, o.a2.grown hg o.d24, o.a3.grown hg o.d34, ho, o.d12, o.d13, dif_new o.d14 (fun g hg => (o.a1.lt g hg).2) hat, o.d23, dif_new o.d24 (fun g hg => (o.a2.lt g hg).2) hat, dif_new o.d34 (fun g hg => (o.a3.lt g hg).2) hat⟩ ⟨h.nb.1, h.nb.2.1, h.nb.2.2.1, nb_new h.nb.2.2.2 h.z hat⟩
/-- Something is appended to the runs. -/
theorem Dn.app2 {w : World} {kr bm B : Nat} {m : MateD} {s1 s2 s3 s4 v : Value} {q : Int} {x y : World} {l : List RunD} (h : Dn w kr bm B m s1 s2 s3 s4 q x) (hg : x.grownBy y s2.ownBlock) (ho : Ow y v l B) (hat : v.ownBlock = s2.ownBlock ∨ v.ownBlock = some x.heap.size) :
    Dn w kr bm B { m with rs := l } s1 v s3 s4 q (y.setCell ⟨bm, 6, none⟩ v) := by
  have o := h.l
  have zb := h.zb
  obtain ⟨hb, hc, hd, hr, he, z⟩ := dn_rest h hg (fun k hk => ⟨by have := (o.a2.lt k hk).1; omega, fun e => h.nb.2.1 (by rw [hk, e])⟩)
  exact dn_set hb hc hd hr he z h.zw h.zb h.zk 6 v (by omega) rfl ⟨o.a1.grown hg o.d12, ho, o.a3.grown hg o.d23.symm, o.a4.grown hg o.d24.symm, dif_new o.d12 (fun g hg => (o.a1.lt g hg).2) hat, o.d13, o.d14, (dif_new o.d23.symm (fun g hg => (o.a3.lt g hg).2) hat).symm, (dif_new o.d24.symm (fun g hg => (o.a4.lt g hg).2) hat).symm, o.d34⟩ ⟨h.nb.1, nb_new h.nb.2.1 h.z hat, h.nb.2.2.1, h.nb.2.2.2⟩
/-- The gives become a copy of the asks, in a new block. -/
theorem Dn.gives {w : World} {kr bm B : Nat} {m : MateD} {s1 s2 s3 s4 v : Value} {q : Int} {x y : World} {l : List A.AskD} (h : Dn w kr bm B m s1 s2 s3 s4 q x) (hb : Below x.heap.size x y) (ho : A.Ow y v l x.heap.size) (hB : B ≤ x.heap.size) :
    Dn w kr bm B { m with gs := l } s1 s2 s3 v q (y.setCell ⟨bm, 8, none⟩ v) := by
  have h1 := h.below hb
  have o := h1.l
  have hz := h.z
  have hne : ∀ s : Value, (∀ g, s.ownBlock = some g → g < x.heap.size) → Dif s v := fun s hs => dif_lt hs (fun g hg => (ho.lt g hg).1) (Nat.le_refl _)
  refine h1.set 8 v (by omega) rfl ⟨o.a1, o.a2, o.a3, ho.low hB, o.d12, o.d13, hne _ (fun g hg => (h.l.a1.lt g hg).2), o.d23, hne _ (fun g hg => (h.l.a2.lt g hg).2), hne _ (fun g hg => (h.l.a3.lt g hg).2)⟩ ⟨h.nb.1, h.nb.2.1, h.nb.2.2.1, fun e => ?_⟩
  have := (ho.lt bm e).1
  omega
theorem dn_other {w : World} {kr bm B g : Nat} {m : MateD} {s1 s2 s3 s4 : Value} {q : Int} {x y : World} (h : Dn w kr bm B m s1 s2 s3 s4 q x) (he : Ex g x y) (hg0 : B ≤ g) (hgb : g ≠ bm) :
    (∀ k, y.cell? ⟨bm, k, none⟩ = (#[.string m.nm, .bool m.up, .int .i64 m.ck, .bool m.kn, .int .i64 m.se, s1, s2, s3, s4] : Array Value)[k]?) ∧ (∀ k, y.frozen? ⟨bm, k, none⟩ = false) ∧ y.there w.heap.size 0 9 ∧ Rq y kr q ∧ Ex kr w y ∧ bm < y.heap.size :=
  dn_rest h (A.ex_grown he) (fun k hk => by cases hk; exact ⟨by have := h.zb; omega, hgb⟩)
/-- The runs turn where they lie. -/
theorem Dn.runsE {w : World} {kr bm B g n c : Nat} {m : MateD} {s1 s3 s4 : Value} {q : Int} {x y : World} {rs : List RunD} (h : Dn w kr bm B m s1 (.slice (some ⟨g, 0, none⟩) n c) s3 s4 q x) (he : Ex g x y) (ho : Ow y (.slice (some ⟨g, 0, none⟩) n c) rs B) :
    Dn w kr bm B { m with rs := rs } s1 (.slice (some ⟨g, 0, none⟩) n c) s3 s4 q y := by
  have l := h.l
  have hg : x.grownBy y (some g) := A.ex_grown he
  have n1 : s1.ownBlock = none ∨ s1.ownBlock ≠ some g := by have := l.d12; simpa [Dif, Value.ownBlock] using this
  have n3 : s3.ownBlock = none ∨ s3.ownBlock ≠ some g := by have := l.d23.symm; simpa [Dif, Value.ownBlock] using this
  have n4 : s4.ownBlock = none ∨ s4.ownBlock ≠ some g := by have := l.d24.symm; simpa [Dif, Value.ownBlock] using this
  obtain ⟨hb, hc, hd, hr, he', z⟩ := dn_other h he (l.a2.lt g rfl).1 (fun e => h.nb.2.1 (by rw [e]; rfl))
  exact ⟨hb, hc, hd, ⟨l.a1.grown hg n1, ho, l.a3.grown hg n3, l.a4.grown hg n4, l.d12, l.d13, l.d14, l.d23, l.d24, l.d34⟩, h.nb, hr, he', z, h.zw, h.zb, h.zk⟩
/-- The wants turn where they lie. -/
theorem Dn.wantsE {w : World} {kr bm B g n c : Nat} {m : MateD} {s2 s3 s4 : Value} {q : Int} {x y : World} {ws : List W.WantD} (h : Dn w kr bm B m (.slice (some ⟨g, 0, none⟩) n c) s2 s3 s4 q x) (he : Ex g x y) (ho : W.Ow y (.slice (some ⟨g, 0, none⟩) n c) ws B) :
    Dn w kr bm B { m with ws := ws } (.slice (some ⟨g, 0, none⟩) n c) s2 s3 s4 q y := by
  have l := h.l
  have hg : x.grownBy y (some g) := A.ex_grown he
  have n2 : s2.ownBlock = none ∨ s2.ownBlock ≠ some g := by have := l.d12.symm; simpa [Dif, Value.ownBlock] using this
  have n3 : s3.ownBlock = none ∨ s3.ownBlock ≠ some g := by have := l.d13.symm; simpa [Dif, Value.ownBlock] using this
  have n4 : s4.ownBlock = none ∨ s4.ownBlock ≠ some g := by have := l.d14.symm; simpa [Dif, Value.ownBlock] using this
  obtain ⟨hb, hc, hd, hr, he', z⟩ := dn_other h he (l.a1.lt g rfl).1 (fun e => h.nb.1 (by rw [e]; rfl))
  exact ⟨hb, hc, hd, ⟨ho, l.a2.grown hg n2, l.a3.grown hg n3, l.a4.grown hg n4, l.d12, l.d13, l.d14, l.d23, l.d24, l.d34⟩, h.nb, hr, he', z, h.zw, h.zb, h.zk⟩
theorem owns_cells {B size g n c : Nat} {e : TypeId} : ∀ (vs : List Value) (p : Nat) (x : World) (xs : List Value), x.ownsRow B e size (.slice (some ⟨g, 0, none⟩) n c) n xs → p + vs.length ≤ xs.length → (x.setCells g p vs).ownsRow B e size (.slice (some ⟨g, 0, none⟩) n c) n (xs.take p ++ (vs ++ xs.drop (p + vs.length)))
  | [], p, x, xs, h, hl => by simpa [World.setCells] using h
  | v :: r, p, x, xs, h, hl => by
    simp only [List.length_cons] at hl
    have h1 := owns_cells r (p + 1) _ _ (owns_set h p (by omega) v) (by simp; omega)
    have e1 : (xs.set p v).take (p + 1) ++ (r ++ (xs.set p v).drop (p + 1 + r.length)) = xs.take p ++ (v :: r ++ xs.drop (p + (v :: r).length)) := by
      rw [List.drop_set_of_lt (by omega), List.take_add_one, List.getElem?_set_self (by omega)]
      rw [List.take_set_of_le (Nat.le_refl _)]
      simp only [Option.toList_some, List.append_assoc, List.cons_append, List.nil_append, List.length_cons]
      have e2 : p + 1 + r.length = p + (r.length + 1) := by omega
      rw [e2]
    rw [e1] at h1
    exact h1
theorem flatR_put : ∀ (rs : List RunD) (i : Nat) (r : RunD), i < rs.length → flatR (rs.set i r) = (flatR rs).take (i * 11) ++ (r.cells ++ (flatR rs).drop (i * 11 + r.cells.length))
  | [], i, r, h => by simp at h
  | q :: rs, 0, r, h => by
    rw [List.set_cons_zero, flatR_cons, flatR_cons, Nat.zero_mul, List.take_zero, List.nil_append, Nat.zero_add]
    have e : (q.cells ++ flatR rs).drop r.cells.length = flatR rs := List.drop_left' (show q.cells.length = r.cells.length from rfl)
    rw [e]
  | q :: rs, i + 1, r, h => by
    have ih := flatR_put rs i r (by simpa using h)
    have hq : q.cells.length = 11 := rfl
    have e1 : (i + 1) * 11 = q.cells.length + i * 11 := by rw [hq]; omega
    have e2 : (i + 1) * 11 + r.cells.length = q.cells.length + (i * 11 + r.cells.length) := by rw [hq]; omega
    rw [List.set_cons_succ, flatR_cons, flatR_cons, ih, e2, e1, List.take_length_add_append, List.drop_length_add_append, List.append_assoc]
theorem Ow.putAll {x : World} {g n c B i : Nat} {rs : List RunD} (r : RunD) (h : Ow x (.slice (some ⟨g, 0, none⟩) n c) rs B) (hi : i < rs.length) : Ow (x.setCells g (i * 11) r.cells) (.slice (some ⟨g, 0, none⟩) n c) (rs.set i r) B := by
  have hn : n = rs.length := by
    obtain ⟨a, p, e⟩ := h.shape
    cases e; rfl
  subst hn
  have h1 := owns_cells r.cells (i * 11) x _ h (by rw [flatR_len]; show i * 11 + 11 ≤ _; omega)
  rw [← flatR_put rs i r hi] at h1
  show World.ownsRow _ _ _ _ _ (rs.set i r).length _
  rw [List.length_set]
  exact h1
theorem W.Ow.putFirst {x : World} {g n c B : Nat} {r0 : W.WantD} {ws : List W.WantD} (r : W.WantD) (h : W.Ow x (.slice (some ⟨g, 0, none⟩) n c) (r0 :: ws) B) : W.Ow (x.setCells g 0 r.cells) (.slice (some ⟨g, 0, none⟩) n c) (r :: ws) B := by
  have hn : n = (r0 :: ws).length := by
    obtain ⟨a, p, e⟩ := h.shape
    cases e; rfl
  subst hn
  have e0 : ∀ t : W.WantD, W.flatR (t :: ws) = t.cells ++ W.flatR ws := fun t => by simp [W.flatR]
  have h1 := owns_cells r.cells 0 x _ h (by rw [W.flatR_len]; show 0 + 7 ≤ _; simp; omega)
  have e : (r0.cells ++ W.flatR ws).drop r.cells.length = W.flatR ws := List.drop_left' (show r0.cells.length = r.cells.length from rfl)
  rw [List.take_zero, List.nil_append, Nat.zero_add, e0 r0, e, ← e0 r] at h1
  exact h1
theorem build2s (x y : ByteArray) (w : World) : Sem.run Try.prog (Instr.buildSlice 158 2 #[(0, .string x), (1, .string y)]) w = .ok (.slice (some ⟨w.heap.size, 0, none⟩) 2 2) (w.alloc (.cells #[.string x, .string y] 9)) := by kernel_rfl
theorem build4s (x y z u : ByteArray) (w : World) : Sem.run Try.prog (Instr.buildSlice 158 4 #[(0, .string x), (1, .string y), (2, .string z), (3, .string u)]) w = .ok (.slice (some ⟨w.heap.size, 0, none⟩) 4 4) (w.alloc (.cells #[.string x, .string y, .string z, .string u] 9)) := by kernel_rfl
theorem build4i (x y z u : Int) (w : World) : Sem.run Try.prog (Instr.buildSlice 159 4 #[(0, .int .i64 x), (1, .int .i64 y), (2, .int .i64 z), (3, .int .i64 u)]) w = .ok (.slice (some ⟨w.heap.size, 0, none⟩) 4 4) (w.alloc (.cells #[.int .i64 x, .int .i64 y, .int .i64 z, .int .i64 u] 3)) := by kernel_rfl
theorem build1a (h c : ByteArray) (f t : Int) (w : World) : Sem.run Try.prog (Instr.buildSlice 25 1 #[(0, .agg #[.string h, .string c, .int .i64 f, .int .i64 t])]) w = .ok (.slice (some ⟨w.heap.size, 0, none⟩) 1 1) (w.alloc (.cells #[.string h, .string c, .int .i64 f, .int .i64 t] 99)) := by kernel_rfl
/-- Any text, any number: what a cell may hold. -/
def AnyI (v : Value) : Prop := ∃ x : Int, v = .int .i64 x
theorem lst_of {P : Value → Prop} {w : World} {cs : List Value} {t : TypeId} {B rb : Nat} (hB : B ≤ w.heap.size) (hb : rb < w.heap.size) (h : ∀ v ∈ cs, P v) : Lst P B rb cs.length (w.alloc (.cells cs.toArray t)) (.slice (some ⟨w.heap.size, 0, none⟩) cs.length cs.length) :=
  ⟨w.heap.size, rfl, hB, by omega, by simp, fun j hj => ⟨cs[j], by rw [World.cell?_alloc_new]; simp [hj], h _ (List.getElem_mem hj)⟩⟩
/-- An ask that is built. -/
def AskV (v : Value) : Prop := ∃ (h c : ByteArray) (f t : Int), v = .agg #[.string h, .string c, .int .i64 f, .int .i64 t] ∧ h.size ≤ 20 ∧ c.size ≤ 20
/-- .. alone in a block. -/
def AskN (B : Nat) (w : World) (v : Value) : Prop := ∃ (h c : ByteArray) (f t : Int) (g : Nat), v = .slice (some ⟨g, 0, none⟩) 1 1 ∧ B ≤ g ∧ g < w.heap.size ∧ w.heap[g]? = some (.cells #[.string h, .string c, .int .i64 f, .int .i64 t] 99) ∧ h.size ≤ 20 ∧ c.size ≤ 20
theorem AskN.keep {B kr : Nat} {w w' : World} {v : Value} (h : AskN B w v) (he : Ex kr w w') (hk : kr < B) : AskN B w' v := by
  obtain ⟨h1, c, f, t, g, rfl, g0, g1, g2, g3⟩ := h
  exact ⟨h1, c, f, t, g, rfl, g0, Nat.lt_of_lt_of_le g1 he.size, by rw [he.block g g1 (by omega)]; exact g2, g3⟩
/-- .. and appended. -/
def AskP (D : Int → World → Prop) (B : Nat) (Q : Int) (l : List A.AskD) (s : Value) (w : World) (v : Value) : Prop := ∃ (x : World) (p : Int) (h c : ByteArray) (f t : Int), D p x ∧ p ≤ Q ∧ x.grownBy w s.ownBlock ∧ A.Ow w v (l ++ [⟨h, c, f, t⟩]) B ∧ (v.ownBlock = s.ownBlock ∨ v.ownBlock = some x.heap.size) ∧ h.size ≤ 20 ∧ c.size ≤ 20
/-- A run of no worth, built; alone in a block; appended. -/
def nilRun (a : Int) : RunD := ⟨{ data := #[122, 122] }, { data := #[] }, 1, 0, 0, 0, 0, a, 0, 0, 0⟩
def RunV (v : Value) : Prop := ∃ a : Int, v = .agg (nilRun a).cells.toArray
def RunN (B : Nat) (w : World) (v : Value) : Prop := ∃ (a : Int) (g : Nat), v = .slice (some ⟨g, 0, none⟩) 1 1 ∧ B ≤ g ∧ g < w.heap.size ∧ w.heap[g]? = some (.cells (nilRun a).cells.toArray 38)
theorem RunN.keep {B kr : Nat} {w w' : World} {v : Value} (h : RunN B w v) (he : Ex kr w w') (hk : kr < B) : RunN B w' v := by
  obtain ⟨a, g, rfl, g0, g1, g2⟩ := h
  exact ⟨a, g, rfl, g0, Nat.lt_of_lt_of_le g1 he.size, by rw [he.block g g1 (by omega)]; exact g2⟩
def RunP (D : Int → World → Prop) (B : Nat) (Q : Int) (l : List RunD) (s : Value) (w : World) (v : Value) : Prop := ∃ (x : World) (p a : Int), D p x ∧ p ≤ Q ∧ x.grownBy w s.ownBlock ∧ Ow w v (l ++ [nilRun a]) B ∧ (v.ownBlock = s.ownBlock ∨ v.ownBlock = some x.heap.size)
theorem build1r (a : Int) (w : World) : Sem.run Try.prog (Instr.buildSlice 24 1 #[(0, .agg #[.string { data := #[122, 122] }, .int .i64 1, .string { data := #[] }, .int .i64 0, .int .i64 0, .int .i64 0, .int .i64 0, .int .i64 a, .int .i64 0, .int .i64 0, .int .i64 0])]) w = .ok (.slice (some ⟨w.heap.size, 0, none⟩) 1 1) (w.alloc (.cells (nilRun a).cells.toArray 38)) := by kernel_rfl
theorem askApp {o : Oper} {a : Act} {Y : World} {K : Act → World → Prop} {Q : Exit → Act → World → Prop} (B : Nat) (s x : Operand)
    (ho : o.op = .call { callee := .builtin .append, args := #[s, x], argTypes := #[25, 25] }) (l : List A.AskD) (v u : Value)
    (hs : a.eval s = v) (hown : A.Ow Y v l B) (hB : B ≤ Y.heap.size) (hx : a.eval x = u) (hn : AskN B Y u) (hl : l.length ≤ 1000)
    (h : ∀ (s' : Value) (w' : World) (hh c : ByteArray) (f t : Int), A.Ow w' s' (l ++ [⟨hh, c, f, t⟩]) B → Y.grownBy w' v.ownBlock → (s'.ownBlock = v.ownBlock ∨ s'.ownBlock = some Y.heap.size) → hh.size ≤ 20 → c.size ≤ 20 → K (a.put o.dst s') w') : o.wp Try.prog a Y K Q := by
  obtain ⟨i0, hi, hz0, hz1, hz2⟩ := info_parts A.infoR
  obtain ⟨hh, c, f, t, g, rfl, g0, g1, g2, g3, g4⟩ := hn
  refine wp_append_own_at s x 25 ho B 99 i0 _ 4 48 Try.underlying25 hi hz0 hz1 hz2 rfl (by decide) v l.length _ hs hown ⟨g, 0, none⟩ 1 1 (⟨hh, c, f, t⟩ : A.AskD).cells hx rfl (fun j u hj => cells_blk g2 j u hj) (A.cellsR_one _) (by unfold maxLen; omega) (by omega) hB ?_
  intro s' w' ho' hg' hat
  refine h s' w' hh c f t ?_ hg' hat g3 g4
  show World.ownsRow _ _ _ _ _ (l ++ [(⟨hh, c, f, t⟩ : A.AskD)]).length _
  rw [List.length_append]
  simpa [A.flatR] using ho'
theorem runApp {o : Oper} {a : Act} {Y : World} {K : Act → World → Prop} {Q : Exit → Act → World → Prop} (B : Nat) (s x : Operand)
    (ho : o.op = .call { callee := .builtin .append, args := #[s, x], argTypes := #[24, 24] }) (l : List RunD) (v u : Value)
    (hs : a.eval s = v) (hown : Ow Y v l B) (hB : B ≤ Y.heap.size) (hx : a.eval x = u) (hn : RunN B Y u) (hl : l.length ≤ 1000)
    (h : ∀ (s' : Value) (w' : World) (st : Int), Ow w' s' (l ++ [nilRun st]) B → Y.grownBy w' v.ownBlock → (s'.ownBlock = v.ownBlock ∨ s'.ownBlock = some Y.heap.size) → K (a.put o.dst s') w') : o.wp Try.prog a Y K Q := by
  obtain ⟨i0, hi, hz0, hz1, hz2⟩ := info_parts infoR
  obtain ⟨st, g, rfl, g0, g1, g2⟩ := hn
  refine wp_append_own_at s x 24 ho B 38 i0 _ 11 104 Try.underlying24 hi hz0 hz1 hz2 rfl (by decide) v l.length _ hs hown ⟨g, 0, none⟩ 1 1 (nilRun st).cells hx rfl (fun j u hj => cells_blk g2 j u hj) (cellsR_one _) (by unfold maxLen; omega) (by omega) hB ?_
  intro s' w' ho' hg' hat
  refine h s' w' st ?_ hg' hat
  show World.ownsRow _ _ _ _ _ (l ++ [nilRun st]).length _
  rw [List.length_append]
  simpa [flatR] using ho'
end Go.Proofs.Ytkebokkckmgloaa
