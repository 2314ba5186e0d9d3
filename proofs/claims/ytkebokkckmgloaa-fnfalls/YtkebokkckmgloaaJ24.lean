import Derived.Test.YtkebokkckmgloaaJ18
import Derived.Test.YtkebokkckmgloaaJ19
import Derived.Test.YtkebokkckmgloaaJ22
import Derived.Test.YtkebokkckmgloaaJ23
import Derived.Laws.Rows
import Derived.Test.YtkebokkckmgloaaJ01
import Derived.Deep.MidRow
import Derived.Laws.MakeOwn
import Derived.Deep.RegionHeld3
import Derived.Laws.Pointers
import Derived.StillTactics
import Derived.Test.YtkebokkckmgloaaJ06
import Derived.Test.YtkebokkckmgloaaJ07
import Derived.Test.YtkebokkckmgloaaJ08
import Derived.Test.YtkebokkckmgloaaJ16
import Derived.Test.YtkebokkckmgloaaJ14
/- A mate that is being drawn. -/
namespace Go.Proofs.Ytkebokkckmgloaa
open Go.RowKit
set_option linter.unusedVariables false

theorem heap_put {w : World} {b i : Nat} {cur : Array Value} {e : TypeId} (h : w.heap[b]? = some (.cells cur e (0, 0))) (v : Value) : (w.setCell ⟨b, i, none⟩ v).heap[b]? = some (.cells (cur.setIfInBounds i v) e (0, 0)) := heap_setCell_same w b i cur e v h
theorem owns_set {x : World} {B size g n c : Nat} {e : TypeId} {xs : List Value} (h : x.ownsRow B e size (.slice (some ⟨g, 0, none⟩) n c) n xs) (p : Nat) (hp : p < xs.length) (v : Value) : (x.setCell ⟨g, p, none⟩ v).ownsRow B e size (.slice (some ⟨g, 0, none⟩) n c) n (xs.set p v) := by
  obtain ⟨hl, ⟨h1, -⟩ | ⟨g', cap, cur, h1, h2, h3, h4, h5, h6, h7⟩⟩ := h
  · cases h1
  · cases h1
    refine ⟨by simpa using hl, Or.inr ⟨g, c, cur.setIfInBounds p v, rfl, h2, heap_put h3 v, h4, h5, by simpa using h6, ?_⟩⟩
    rw [Array.toList_setIfInBounds, List.take_set, h7]
theorem flatR_cons (r : RunD) (rs : List RunD) : flatR (r :: rs) = r.cells ++ flatR rs := by simp [flatR]
theorem flatR_set : ∀ (rs : List RunD) (i j : Nat) (r r' : RunD) (v : Value), rs[i]? = some r → r'.cells = r.cells.set j v → j < 11 → flatR (rs.set i r') = (flatR rs).set (i * 11 + j) v
  | [], i, j, r, r', v, h, hc, hj => by simp at h
  | q :: rs, 0, j, r, r', v, h, hc, hj => by
    simp at h; subst h
    rw [List.set_cons_zero, flatR_cons, flatR_cons, hc, Nat.zero_mul, Nat.zero_add, List.set_append_left _ _ (by show j < 11; exact hj)]
  | q :: rs, i + 1, j, r, r', v, h, hc, hj => by
    have ih := flatR_set rs i j r r' v (by simpa using h) hc hj
    rw [List.set_cons_succ, flatR_cons, flatR_cons, ih, List.set_append_right _ _ (by show 11 ≤ (i + 1) * 11 + j; omega)]
    congr 1
    show _ = (flatR rs).set ((i + 1) * 11 + j - 11) v
    congr 1
    omega
/-- A part of a run is written. -/
theorem Ow.put {x : World} {g n c B i j : Nat} {rs : List RunD} {r r' : RunD} {v : Value} (h : Ow x (.slice (some ⟨g, 0, none⟩) n c) rs B) (hr : rs[i]? = some r) (hc : r'.cells = r.cells.set j v) (hj : j < 11) : Ow (x.setCell ⟨g, i * 11 + j, none⟩ v) (.slice (some ⟨g, 0, none⟩) n c) (rs.set i r') B := by
  have hn : n = rs.length := by
    obtain ⟨a, p, e⟩ := h.shape
    cases e; rfl
  subst hn
  have hi : i < rs.length := (List.getElem?_eq_some_iff.1 hr).1
  have h1 := owns_set h (i * 11 + j) (by rw [flatR_len]; omega) v
  rw [← flatR_set rs i j r r' v hr hc hj] at h1
  show World.ownsRow _ _ _ _ _ (rs.set i r').length _
  rw [List.length_set]
  exact h1
theorem Ow.blk {x : World} {v : Value} {rs : List RunD} {B i : Nat} (h : Ow x v rs B) (hi : i < rs.length) : ∃ g c, v = .slice (some ⟨g, 0, none⟩) rs.length c ∧ B ≤ g ∧ g < x.heap.size ∧ RowsAt x g 0 rs ∧ x.there g 0 (rs.length * 11) := by
  rcases h.sl with ⟨-, h0⟩ | ⟨g, c, h1, h2, h3, h4, h5⟩
  · rw [h0] at hi; simp at hi
  · exact ⟨g, c, h1, h2, h3, h4, h5⟩
theorem W.Ow.blk {x : World} {v : Value} {rs : List W.WantD} {B i : Nat} (h : W.Ow x v rs B) (hi : i < rs.length) : ∃ g c, v = .slice (some ⟨g, 0, none⟩) rs.length c ∧ B ≤ g ∧ g < x.heap.size ∧ W.RowsAt x g 0 rs ∧ x.there g 0 (rs.length * 7) := by
  rcases h.sl with ⟨-, h0⟩ | ⟨g, c, h1, h2, h3, h4, h5⟩
  · rw [h0] at hi; simp at hi
  · exact ⟨g, c, h1, h2, h3, h4, h5⟩
/-- While a mate is drawn: its box bm, its lists, the reader kr, room for the answer. -/
structure Dm (w : World) (kr bm : Nat) (m : MateD) (s1 s2 s3 s4 : Value) (q : Int) (x : World) : Prop where
  b : ∀ k, x.cell? ⟨bm, k, none⟩ = (#[.string m.nm, .bool m.up, .int .i64 m.ck, .bool m.kn, .int .i64 m.se, s1, s2, s3, s4] : Array Value)[k]?
  c : ∀ k, x.frozen? ⟨bm, k, none⟩ = false
  d : x.there w.heap.size 0 9
  l : OwM x m s1 s2 s3 s4 (bm + 1)
  r : Rq x kr q
  e : Ex kr w x
  z : bm < x.heap.size
  zw : w.heap.size < bm
  zk : kr < w.heap.size
theorem ob_of {v : Value} {row : Option Nat} (h : ∀ k, row = some k → v.ownBlock ≠ some k) : v.ownBlock = none ∨ v.ownBlock ≠ row := by
  cases hv : v.ownBlock with
  | none => exact Or.inl rfl
  | some g => exact Or.inr (fun e => h g e.symm hv)
/-- Another block of the call's own turns. -/
theorem Dm.grown {w : World} {kr bm : Nat} {m : MateD} {s1 s2 s3 s4 : Value} {q : Int} {x y : World} {row : Option Nat} (h : Dm w kr bm m s1 s2 s3 s4 q x) (hg : x.grownBy y row) (hr : ∀ k, row = some k → bm < k)
    (hn : ∀ k, row = some k → s1.ownBlock ≠ some k ∧ s2.ownBlock ≠ some k ∧ s3.ownBlock ≠ some k ∧ s4.ownBlock ≠ some k) : Dm w kr bm m s1 s2 s3 s4 q y := by
  have z := h.z
  have zw := h.zw
  have zk := h.zk
  have kb : y.heap[bm]? = x.heap[bm]? := hg.block bm z (fun e => by have := hr _ e.symm; omega)
  have kw : y.heap[w.heap.size]? = x.heap[w.heap.size]? := hg.block _ (by omega) (fun e => by have := hr _ e.symm; omega)
  refine ⟨fun k => (World.cell?_of_block (w := x) (a := ⟨bm, k, none⟩) kb).trans (h.b k), fun k => (World.frozen?_of_block (w := x) (a := ⟨bm, k, none⟩) kb).trans (h.c k), fun j hj => ⟨by rw [World.cell?_of_block (w := x) (a := ⟨w.heap.size, 0 + j, none⟩) kw]; exact (h.d j hj).1, by rw [World.frozen?_of_block (w := x) (a := ⟨w.heap.size, 0 + j, none⟩) kw]; exact (h.d j hj).2⟩, ?_, h.r.grown hg (fun k hk => by have := hr k hk; omega), h.e.grown hg (fun k hk => by have := hr k hk; omega), Nat.lt_of_lt_of_le z hg.size, zw, zk⟩
  have l := h.l
  exact ⟨l.a1.grown hg (ob_of fun k hk => (hn k hk).1), l.a2.grown hg (ob_of fun k hk => (hn k hk).2.1), l.a3.grown hg (ob_of fun k hk => (hn k hk).2.2.1), l.a4.grown hg (ob_of fun k hk => (hn k hk).2.2.2), l.d12, l.d13, l.d14, l.d23, l.d24, l.d34⟩
theorem Dm.below {w : World} {kr bm : Nat} {m : MateD} {s1 s2 s3 s4 : Value} {q : Int} {x y : World} (h : Dm w kr bm m s1 s2 s3 s4 q x) (hb : Below x.heap.size x y) : Dm w kr bm m s1 s2 s3 s4 q y :=
  h.grown (grown_below hb) (fun k hk => by cases hk) (fun k hk => by cases hk)
theorem Dm.pick {w : World} {kr bm : Nat} {m : MateD} {s1 s2 s3 s4 : Value} {q q' : Int} {x y : World} (h : Dm w kr bm m s1 s2 s3 s4 q x) (he : Ex kr x y) (hr : Rq y kr q') : Dm w kr bm m s1 s2 s3 s4 q' y := by
  have z := h.z
  have zw := h.zw
  have zk := h.zk
  exact ⟨fun k => (he.cell (p := ⟨bm, k, none⟩) z (by show bm ≠ kr; omega)).trans (h.b k), fun k => (he.frozen (p := ⟨bm, k, none⟩) z (by show bm ≠ kr; omega)).trans (h.c k), there_ex h.d (by omega) he (by omega), h.l.ex he (by omega), hr, h.e.trans he, Nat.lt_of_lt_of_le z he.size, zw, zk⟩
theorem Dm.up {w : World} {kr bm : Nat} {m : MateD} {s1 s2 s3 s4 : Value} {q q' : Int} {x : World} (h : Dm w kr bm m s1 s2 s3 s4 q x) (hq : q ≤ q') : Dm w kr bm m s1 s2 s3 s4 q' x := ⟨h.b, h.c, h.d, h.l, h.r.up hq, h.e, h.z, h.zw, h.zk⟩
/-- A field of the mate is written. -/
theorem dm_set {w : World} {kr bm : Nat} {m m' : MateD} {s1 s2 s3 s4 t1 t2 t3 t4 : Value} {q : Int} {x : World} (hb : ∀ k, x.cell? ⟨bm, k, none⟩ = (#[.string m.nm, .bool m.up, .int .i64 m.ck, .bool m.kn, .int .i64 m.se, s1, s2, s3, s4] : Array Value)[k]?) (hc : ∀ k, x.frozen? ⟨bm, k, none⟩ = false) (hd : x.there w.heap.size 0 9) (hr : Rq x kr q) (he0 : Ex kr w x) (z : bm < x.heap.size) (zw : w.heap.size < bm) (zk : kr < w.heap.size) (j : Nat) (u : Value) (hj : j < 9) (hO : (#[.string m'.nm, .bool m'.up, .int .i64 m'.ck, .bool m'.kn, .int .i64 m'.se, t1, t2, t3, t4] : Array Value) = (#[.string m.nm, .bool m.up, .int .i64 m.ck, .bool m.kn, .int .i64 m.se, s1, s2, s3, s4] : Array Value).setIfInBounds j u)
    (hl : OwM x m' t1 t2 t3 t4 (bm + 1)) : Dm w kr bm m' t1 t2 t3 t4 q (x.setCell ⟨bm, j, none⟩ u) := by
  have he : Ex bm x (x.setCell ⟨bm, j, none⟩ u) := (Ex.refl _ _).set j u
  have hg : x.grownBy (x.setCell ⟨bm, j, none⟩ u) (some bm) := A.ex_grown he
  refine ⟨fun k => ?_, fun k => by rw [World.frozen?_setCell]; exact hc k, there_ex hd (by omega) he (by omega), hl.ex he (by omega), ?_, he0.grown hg (fun k hk => by cases hk; omega), Nat.lt_of_lt_of_le z he.size, zw, zk⟩
  · rw [hO]
    by_cases e : k = j
    · subst e
      have h1 := hb k
      rw [Array.getElem?_eq_getElem (by simpa using hj)] at h1
      rw [World.cell?_setCell_same _ _ _ h1, Array.getElem?_setIfInBounds_self_of_lt (by simpa using hj)]
    · rw [World.cell?_setCell_other _ _ _ _ (fun h' => e (by have := congrArg Addr.off h'; exact this.symm)), hb k, Array.getElem?_setIfInBounds_ne (fun e' => e e'.symm)]
  · exact hr.grown hg (fun k hk => by cases hk; omega)
theorem Dm.set {w : World} {kr bm : Nat} {m m' : MateD} {s1 s2 s3 s4 t1 t2 t3 t4 : Value} {q : Int} {x : World} (h : Dm w kr bm m s1 s2 s3 s4 q x) (j : Nat) (u : Value) (hj : j < 9) (hO : (#[.string m'.nm, .bool m'.up, .int .i64 m'.ck, .bool m'.kn, .int .i64 m'.se, t1, t2, t3, t4] : Array Value) = (#[.string m.nm, .bool m.up, .int .i64 m.ck, .bool m.kn, .int .i64 m.se, s1, s2, s3, s4] : Array Value).setIfInBounds j u)
    (hl : OwM x m' t1 t2 t3 t4 (bm + 1)) : Dm w kr bm m' t1 t2 t3 t4 q (x.setCell ⟨bm, j, none⟩ u) := dm_set h.b h.c h.d h.r h.e h.z h.zw h.zk j u hj hO hl
/-- What a list of the mate turning leaves. -/
theorem dm_rest {w : World} {kr bm : Nat} {m : MateD} {s1 s2 s3 s4 : Value} {q : Int} {x y : World} {row : Option Nat} (h : Dm w kr bm m s1 s2 s3 s4 q x) (hg : x.grownBy y row) (hr : ∀ k, row = some k → bm < k) :
    (∀ k, y.cell? ⟨bm, k, none⟩ = (#[.string m.nm, .bool m.up, .int .i64 m.ck, .bool m.kn, .int .i64 m.se, s1, s2, s3, s4] : Array Value)[k]?) ∧ (∀ k, y.frozen? ⟨bm, k, none⟩ = false) ∧ y.there w.heap.size 0 9 ∧ Rq y kr q ∧ Ex kr w y ∧ bm < y.heap.size := by
  have z := h.z
  have zw := h.zw
  have zk := h.zk
  have kb : y.heap[bm]? = x.heap[bm]? := hg.block bm z (fun e => by have := hr _ e.symm; omega)
  have kw : y.heap[w.heap.size]? = x.heap[w.heap.size]? := hg.block _ (by omega) (fun e => by have := hr _ e.symm; omega)
  exact ⟨fun k => (World.cell?_of_block (w := x) (a := ⟨bm, k, none⟩) kb).trans (h.b k), fun k => (World.frozen?_of_block (w := x) (a := ⟨bm, k, none⟩) kb).trans (h.c k), fun j hj => ⟨by rw [World.cell?_of_block (w := x) (a := ⟨w.heap.size, 0 + j, none⟩) kw]; exact (h.d j hj).1, by rw [World.frozen?_of_block (w := x) (a := ⟨w.heap.size, 0 + j, none⟩) kw]; exact (h.d j hj).2⟩, h.r.grown hg (fun k hk => by have := hr k hk; omega), h.e.grown hg (fun k hk => by have := hr k hk; omega), Nat.lt_of_lt_of_le z hg.size⟩
theorem dif_new {s v v' : Value} {n : Nat} (hd : Dif s v) (hs : ∀ g, s.ownBlock = some g → g < n) (hat : v'.ownBlock = v.ownBlock ∨ v'.ownBlock = some n) : Dif s v' := by
  rcases hat with h | h
  · rw [Dif, h]; exact hd
  · cases hb : s.ownBlock with
    | none => exact Or.inl hb
    | some g => exact Or.inr (by rw [hb, h]; intro e; have := hs g hb; cases e; omega)
/-- Something is appended to the asks. -/
theorem Dm.app3 {w : World} {kr bm : Nat} {m : MateD} {s1 s2 s3 s4 v : Value} {q : Int} {x y : World} {l : List A.AskD} (h : Dm w kr bm m s1 s2 s3 s4 q x) (hg : x.grownBy y s3.ownBlock) (ho : A.Ow y v l (bm + 1)) (hat : v.ownBlock = s3.ownBlock ∨ v.ownBlock = some x.heap.size) :
    Dm w kr bm { m with qs := l } s1 s2 v s4 q (y.setCell ⟨bm, 7, none⟩ v) := by
  have o := h.l
  obtain ⟨hb, hc, hd, hr, he, z⟩ := dm_rest h hg (fun k hk => (o.a3.lt k hk).1)
  exact dm_set hb hc hd hr he z h.zw h.zk 7 v (by omega) rfl ⟨o.a1.grown hg o.d13, o.a2.grown hg o.d23, ho, o.a4.grown hg o.d34.symm, o.d12, dif_new o.d13 (fun g hg => (o.a1.lt g hg).2) hat, o.d14, dif_new o.d23 (fun g hg => (o.a2.lt g hg).2) hat, o.d24, (dif_new o.d34.symm (fun g hg => (o.a4.lt g hg).2) hat).symm⟩
/-- Something is appended to the gives. -/
theorem Dm.app4 {w : World} {kr bm : Nat} {m : MateD} {s1 s2 s3 s4 v : Value} {q : Int} {x y : World} {l : List A.AskD} (h : Dm w kr bm m s1 s2 s3 s4 q x) (hg : x.grownBy y s4.ownBlock) (ho : A.Ow y v l (bm + 1)) (hat : v.ownBlock = s4.ownBlock ∨ v.ownBlock = some x.heap.size) :
    Dm w kr bm { m with gs := l } s1 s2 s3 v q (y.setCell ⟨bm, 8, none⟩ v) := by
  have o := h.l
  obtain ⟨hb, hc, hd, hr, he, z⟩ := dm_rest h hg (fun k hk => (o.a4.lt k hk).1)
  exact dm_set hb hc hd hr he z h.zw h.zk 8 v (by omega) rfl ⟨o.a1.grown hg o.d14, o.a2.grown hg o.d24, o.a3.grown hg o.d34, ho, o.d12, o.d13, dif_new o.d14 (fun g hg => (o.a1.lt g hg).2) hat, o.d23, dif_new o.d24 (fun g hg => (o.a2.lt g hg).2) hat, dif_new o.d34 (fun g hg => (o.a3.lt g hg).2) hat⟩
/-- The runs turn where they lie. -/
theorem Dm.runs {w : World} {kr bm g n c : Nat} {m : MateD} {s1 s3 s4 : Value} {q : Int} {x : World} {rs : List RunD} {j : Nat} {v : Value} (h : Dm w kr bm m s1 (.slice (some ⟨g, 0, none⟩) n c) s3 s4 q x) (ho : Ow (x.setCell ⟨g, j, none⟩ v) (.slice (some ⟨g, 0, none⟩) n c) rs (bm + 1)) :
    Dm w kr bm { m with rs := rs } s1 (.slice (some ⟨g, 0, none⟩) n c) s3 s4 q (x.setCell ⟨g, j, none⟩ v) := by
  have he : Ex g x (x.setCell ⟨g, j, none⟩ v) := (Ex.refl _ _).set j v
  have hg : x.grownBy (x.setCell ⟨g, j, none⟩ v) (some g) := A.ex_grown he
  have z := h.z
  have zw := h.zw
  have zk := h.zk
  have l := h.l
  have hbg : bm < g := (l.a2.lt g rfl).1
  have kb : (x.setCell ⟨g, j, none⟩ v).heap[bm]? = x.heap[bm]? := hg.block bm z (fun e => by cases e; omega)
  have kw : (x.setCell ⟨g, j, none⟩ v).heap[w.heap.size]? = x.heap[w.heap.size]? := hg.block _ (by omega) (fun e => by cases e; omega)
  have n1 : s1.ownBlock = none ∨ s1.ownBlock ≠ some g := by have := l.d12; simpa [Dif, Value.ownBlock] using this
  have n3 : s3.ownBlock = none ∨ s3.ownBlock ≠ some g := by have := l.d23.symm; simpa [Dif, Value.ownBlock] using this
  have n4 : s4.ownBlock = none ∨ s4.ownBlock ≠ some g := by have := l.d24.symm; simpa [Dif, Value.ownBlock] using this
  exact ⟨fun k => (World.cell?_of_block (w := x) (a := ⟨bm, k, none⟩) kb).trans (h.b k), fun k => (World.frozen?_of_block (w := x) (a := ⟨bm, k, none⟩) kb).trans (h.c k), fun i hi => ⟨by rw [World.cell?_of_block (w := x) (a := ⟨w.heap.size, 0 + i, none⟩) kw]; exact (h.d i hi).1, by rw [World.frozen?_of_block (w := x) (a := ⟨w.heap.size, 0 + i, none⟩) kw]; exact (h.d i hi).2⟩,
    ⟨l.a1.grown hg n1, ho, l.a3.grown hg n3, l.a4.grown hg n4, l.d12, l.d13, l.d14, l.d23, l.d24, l.d34⟩, h.r.grown hg (fun k hk => by cases hk; omega), h.e.grown hg (fun k hk => by cases hk; omega), Nat.lt_of_lt_of_le z hg.size, zw, zk⟩
theorem set_at {rs : List RunD} {i : Nat} {r r' : RunD} (h : rs[i]? = some r) : (rs.set i r')[i]? = some r' := by
  have hi : i < rs.length := (List.getElem?_eq_some_iff.1 h).1
  rw [List.getElem?_set_self hi]
theorem Dm.run {w : World} {kr bm g n c i j : Nat} {m : MateD} {s1 s3 s4 : Value} {q : Int} {x : World} {rs : List RunD} {r r' : RunD} {v : Value} (h : Dm w kr bm { m with rs := rs } s1 (.slice (some ⟨g, 0, none⟩) n c) s3 s4 q x) (hr : rs[i]? = some r) (hc : r'.cells = r.cells.set j v) (hj : j < 11) :
    Dm w kr bm { m with rs := rs.set i r' } s1 (.slice (some ⟨g, 0, none⟩) n c) s3 s4 q (x.setCell ⟨g, i * 11 + j, none⟩ v) := h.runs (Ow.put h.l.a2 hr hc hj)
theorem Dm.run2 {w : World} {kr bm g n c i j : Nat} {m : MateD} {s1 s3 s4 : Value} {q : Int} {x : World} {rs : List RunD} {r0 r r' : RunD} {v : Value} (h : Dm w kr bm { m with rs := rs.set i r } s1 (.slice (some ⟨g, 0, none⟩) n c) s3 s4 q x) (hr : rs[i]? = some r0) (hc : r'.cells = r.cells.set j v) (hj : j < 11) :
    Dm w kr bm { m with rs := rs.set i r' } s1 (.slice (some ⟨g, 0, none⟩) n c) s3 s4 q (x.setCell ⟨g, i * 11 + j, none⟩ v) := by
  have h1 := h.run (set_at hr) hc hj
  rw [List.set_set] at h1
  exact h1
/-- A run's want is written. -/
theorem Dm.want {w : World} {kr bm g n c i : Nat} {m : MateD} {s1 s3 s4 : Value} {q : Int} {x : World} {rs : List RunD} {r : RunD} (h : Dm w kr bm { m with rs := rs } s1 (.slice (some ⟨g, 0, none⟩) n c) s3 s4 q x) (hr : rs[i]? = some r) (t : W.WantD) :
    Dm w kr bm { m with rs := rs.set i ⟨t.c, t.h, t.v, t.p, t.s, t.d, t.g, r.a, r.b, r.i, r.u⟩ } s1 (.slice (some ⟨g, 0, none⟩) n c) s3 s4 q (x.setCells g (i * 11) [.string t.c, .int .i64 t.v, .string t.h, .int .i64 t.p, .int .i64 t.s, .int .i64 t.d, .int .i64 t.g]) := by
  have h0 := h.run (r' := ⟨t.c, r.h, r.v, r.p, r.s, r.d, r.g, r.a, r.b, r.i, r.u⟩) (j := 0) (v := .string t.c) hr rfl (by omega)
  have h1 := h0.run2 (r' := ⟨t.c, r.h, t.v, r.p, r.s, r.d, r.g, r.a, r.b, r.i, r.u⟩) (j := 1) (v := .int .i64 t.v) hr rfl (by omega)
  have h2 := h1.run2 (r' := ⟨t.c, t.h, t.v, r.p, r.s, r.d, r.g, r.a, r.b, r.i, r.u⟩) (j := 2) (v := .string t.h) hr rfl (by omega)
  have h3 := h2.run2 (r' := ⟨t.c, t.h, t.v, t.p, r.s, r.d, r.g, r.a, r.b, r.i, r.u⟩) (j := 3) (v := .int .i64 t.p) hr rfl (by omega)
  have h4 := h3.run2 (r' := ⟨t.c, t.h, t.v, t.p, t.s, r.d, r.g, r.a, r.b, r.i, r.u⟩) (j := 4) (v := .int .i64 t.s) hr rfl (by omega)
  have h5 := h4.run2 (r' := ⟨t.c, t.h, t.v, t.p, t.s, t.d, r.g, r.a, r.b, r.i, r.u⟩) (j := 5) (v := .int .i64 t.d) hr rfl (by omega)
  exact h5.run2 (r' := ⟨t.c, t.h, t.v, t.p, t.s, t.d, t.g, r.a, r.b, r.i, r.u⟩) (j := 6) (v := .int .i64 t.g) hr rfl (by omega)
theorem small_set {rs : List RunD} {r : RunD} {i : Nat} (h : ∀ x ∈ rs, Small x) (hr : Small r) : ∀ x ∈ rs.set i r, Small x := by
  intro x hx
  rcases List.mem_or_eq_of_mem_set hx with h1 | h1
  · exact h x h1
  · rw [h1]; exact hr
end Go.Proofs.Ytkebokkckmgloaa
/- Books that are ok: holds at all places; the program's side. -/
namespace Go.Proofs.Ytkebokkckmgloaa.W
open Go.RowKit
set_option linter.unusedVariables false

set_option maxHeartbeats 1000000 in
theorem holdsDiffer2 (a : Option Addr) (cap : Nat) (ws : List WantD) (w : World) (hG : Gv w a ws) (hc : ws.length ≤ cap) (hl : ws.length ≤ 1048576) :
    Calls Try.prog 90 #[.slice a ws.length cap] w fun e w' => (∃ q : Bool, e = .returned (.bool q) ∧ (q = true ↔ Diff ws ws.length)) ∧ Below w.heap.size w w' := by
  go_enter Try.func90, Try.ntmps90
  go_wp2
  go_loopw [9] (fun i wx => ∃ (k : Nat), k ≤ ws.length ∧ i = .int .i64 k ∧ Hid (Diff ws k) ∧ Below w.heap.size w wx) (fun i _ => ws.length - (intOf i).toNat)
  case atStart => exact ⟨0, Nat.zero_le _, rfl, fun j r h => by omega, Below.refl _ _⟩
  case round =>
    obtain ⟨k, hk, rfl, Ha, hB⟩ := hrel
    by_cases hlt : k < ws.length
    · obtain ⟨b, rfl, l1, hR⟩ := hG.resolve_left (fun h => by rw [h] at hlt; simp at hlt)
      have hkc : (k : Int) ≤ (cap : Int) := by omega
      obtain ⟨r, hr⟩ : ∃ r, ws[k]? = some r := ⟨ws[k], List.getElem?_eq_getElem hlt⟩
      have Hr : Hid _ := hr
      clear hr
      have i0 : (0 : Int) ≤ (k : Int) := by omega
      have i1 : (k : Int) ≤ (ws.length : Int) := by omega
      obtain ⟨c0, c1, c2, c3, c4, c5, c6⟩ := (hR.keep l1 hB).at Hr.out
      simp only [Nat.zero_add] at c0 c1 c2 c3 c4 c5 c6
      obtain ⟨wo, rfl⟩ : ∃ wo : World, wo = wr := ⟨_, rfl⟩
      go_wp2_with fail
      clear c0 c1 c2 c3 c4 c5 c6
      go_loopw [18] (fun j wx => ∃ (n : Nat), n ≤ k ∧ j = .int .i64 n ∧ Hid (NoneOf ws r n) ∧ Below (wo.alloc (.cells #[.string r.c, .int .i64 r.v, .string r.h, .int .i64 r.p, .int .i64 r.s, .int .i64 r.d, .int .i64 r.g] 36)).heap.size (wo.alloc (.cells #[.string r.c, .int .i64 r.v, .string r.h, .int .i64 r.p, .int .i64 r.s, .int .i64 r.d, .int .i64 r.g] 36)) wx) (fun j _ => k - (intOf j).toNat)
      case atStart => exact ⟨0, Nat.zero_le _, rfl, fun i q h => by omega, Below.refl _ _⟩
      case round =>
        obtain ⟨n, hn, rfl, Hn, hBn⟩ := hrel
        have bo : Below w.heap.size w wr := bl_trans (bl_trans hB (bl_alloc (Below.refl _ _) _)) hBn
        by_cases hnl : n < k
        · obtain ⟨t, ht⟩ : ∃ t, ws[n]? = some t := ⟨ws[n], List.getElem?_eq_getElem (by omega)⟩
          have Ht : Hid _ := ht
          clear ht
          have j0 : (0 : Int) ≤ (n : Int) := by omega
          have j1 : (n : Int) < (k : Int) := by omega
          obtain ⟨c0, c1, c2, c3, c4, c5, c6⟩ := (hR.keep l1 bo).at Ht.out
          simp only [Nat.zero_add] at c0 c1 c2 c3 c4 c5 c6
          have hkb := box_keep hBn
          have hzb := boxlt hBn
          cases he : r.h.toList.isEmpty
          · cases hcl : (t.h.toList == r.h.toList)
            · go_wp2
              exact ⟨⟨n + 1, by omega, by go_num, NoneOf.step Hn.out Ht.out (by simp [clash, he, hcl]), bl_trans hBn (bl_alloc (Below.refl _ _) _)⟩, by simp [intOf]; omega⟩
            · go_wp2
              go_ret
              exact ⟨⟨false, rfl, ⟨fun h => (by cases h), fun h => by have := h k r hlt Hr.out n t hnl Ht.out; simp [clash, he, hcl] at this⟩⟩, bl_alloc bo _⟩
          · go_wp2
            exact ⟨⟨n + 1, by omega, by go_num, NoneOf.step Hn.out Ht.out (by simp [clash, he]), bl_trans hBn (bl_alloc (Below.refl _ _) _)⟩, by simp [intOf]; omega⟩
        · have hne : n = k := by omega
          subst hne
          go_wp2
          exact ⟨⟨n + 1, by omega, by go_num, Ha.out.step Hr.out Hn.out, bo⟩, by simp [intOf]; omega⟩
    · go_wp2
      go_ret
      exact ⟨⟨true, rfl, ⟨fun _ j r hj hr => Ha.out j r (by omega) hr, fun _ => rfl⟩⟩, hB⟩
end Go.Proofs.Ytkebokkckmgloaa.W
namespace Go.Proofs.Ytkebokkckmgloaa.P
open Go.RowKit
set_option linter.unusedVariables false

end Go.Proofs.Ytkebokkckmgloaa.P
