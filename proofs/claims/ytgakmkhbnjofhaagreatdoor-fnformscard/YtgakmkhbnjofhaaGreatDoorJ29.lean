import Derived.Test.YtgakmkhbnjofhaaGreatDoorJ28
import Derived.Test.YtgakmkhbnjofhaaGreatDoorJ09
namespace Go.Proofs.YtgakmkhbnjofhaaGreatDoor
open Go.RowKit
set_option linter.unusedVariables false
structure Dp (w : World) (kr bm B : Nat) (P : ParD) (s : Value) (q : Int) (x : World) : Prop where
 b : ∀ k, x.cell? ⟨bm, k, none⟩ = (#[.int .i64 P.k, .string P.b, .int .i64 P.se, s, .string P.h, .string P.c, .int .i64 P.t] : Array Value)[k]?
 c : ∀ k, x.frozen? ⟨bm, k, none⟩ = false
 d : x.there w.heap.size 0 7
 l : W.Ow x s P.ws B
 nb : s.ownBlock ≠ some bm
 r : Rq x kr q
 e : Below w.heap.size w x
 z : bm < x.heap.size
 zw : w.heap.size < kr
 zk : kr < bm
 zb : kr < B
theorem dp_rest {w : World} {kr bm B : Nat} {P : ParD} {s : Value} {q : Int} {x y : World} {row : Option Nat} (h : Dp w kr bm B P s q x) (hg : x.grownBy y row) (hr : ∀ k, row = some k → kr < k ∧ k ≠ bm) :
  (∀ k, y.cell? ⟨bm, k, none⟩ = (#[.int .i64 P.k, .string P.b, .int .i64 P.se, s, .string P.h, .string P.c, .int .i64 P.t] : Array Value)[k]?) ∧ (∀ k, y.frozen? ⟨bm, k, none⟩ = false) ∧ y.there w.heap.size 0 7 ∧ Rq y kr q ∧ Below w.heap.size w y ∧ bm < y.heap.size := by
 have z := h.z
 have zw := h.zw
 have zk := h.zk
 have kb : y.heap[bm]? = x.heap[bm]? := hg.block bm z (fun e => by have := hr _ e.symm; omega)
 have kw : y.heap[w.heap.size]? = x.heap[w.heap.size]? := hg.block _ (by omega) (fun e => by have := hr _ e.symm; omega)
 exact ⟨fun k => (World.cell?_of_block (w := x) (a := ⟨bm, k, none⟩) kb).trans (h.b k), fun k => (World.frozen?_of_block (w := x) (a := ⟨bm, k, none⟩) kb).trans (h.c k), fun j hj => ⟨by rw [World.cell?_of_block (w := x) (a := ⟨w.heap.size, 0 + j, none⟩) kw]; exact (h.d j hj).1, by rw [World.frozen?_of_block (w := x) (a := ⟨w.heap.size, 0 + j, none⟩) kw]; exact (h.d j hj).2⟩, h.r.grown hg (fun k hk => (hr k hk).1), Below.grown (row := row) h.e hg h.e.size (fun k hk => by have := hr k hk; omega), Nat.lt_of_lt_of_le z hg.size⟩
theorem Dp.below {w : World} {kr bm B : Nat} {P : ParD} {s : Value} {q : Int} {x y : World} (h : Dp w kr bm B P s q x) (hb : Below x.heap.size x y) : Dp w kr bm B P s q y := by
 obtain ⟨hb', hc, hd, hr', he, z⟩ := dp_rest h (grown_below hb) (fun k hk => by cases hk)
 exact ⟨hb', hc, hd, h.l.keep hb, h.nb, hr', he, z, h.zw, h.zk, h.zb⟩
theorem Dp.pick {w : World} {kr bm B : Nat} {P : ParD} {s : Value} {q : Int} {x y : World} {q' : Int} (h : Dp w kr bm B P s q x) (he : Ex kr x y) (hr : Rq y kr q') : Dp w kr bm B P s q' y := by
 have z := h.z
 have zw := h.zw
 have zk := h.zk
 have zb := h.zb
 exact ⟨fun k => (he.cell (p := ⟨bm, k, none⟩) z (by show bm ≠ kr; omega)).trans (h.b k), fun k => (he.frozen (p := ⟨bm, k, none⟩) z (by show bm ≠ kr; omega)).trans (h.c k), there_ex h.d (by omega) he (by omega), h.l.ex he (by omega), h.nb, hr, Ex.mono h.e he (by omega), Nat.lt_of_lt_of_le z he.size, zw, zk, zb⟩
theorem Dp.up {w : World} {kr bm B : Nat} {P : ParD} {s : Value} {q : Int} {x : World} {q' : Int} (h : Dp w kr bm B P s q x) (hq : q ≤ q') : Dp w kr bm B P s q' x := ⟨h.b, h.c, h.d, h.l, h.nb, h.r.up hq, h.e, h.z, h.zw, h.zk, h.zb⟩
theorem dp_set {w : World} {kr bm B : Nat} {P P' : ParD} {s s' : Value} {q : Int} {x : World} (hb : ∀ k, x.cell? ⟨bm, k, none⟩ = (#[.int .i64 P.k, .string P.b, .int .i64 P.se, s, .string P.h, .string P.c, .int .i64 P.t] : Array Value)[k]?) (hc : ∀ k, x.frozen? ⟨bm, k, none⟩ = false) (hd : x.there w.heap.size 0 7) (hr : Rq x kr q) (he0 : Below w.heap.size w x) (z : bm < x.heap.size) (zw : w.heap.size < kr) (zk : kr < bm) (zb : kr < B) (j : Nat) (u : Value) (hj : j < 7) (hO : (#[.int .i64 P'.k, .string P'.b, .int .i64 P'.se, s', .string P'.h, .string P'.c, .int .i64 P'.t] : Array Value) = (#[.int .i64 P.k, .string P.b, .int .i64 P.se, s, .string P.h, .string P.c, .int .i64 P.t] : Array Value).setIfInBounds j u)
  (hl : W.Ow x s' P'.ws B) (nb : s'.ownBlock ≠ some bm) : Dp w kr bm B P' s' q (x.setCell ⟨bm, j, none⟩ u) := by
 have he : Ex bm x (x.setCell ⟨bm, j, none⟩ u) := (Ex.refl _ _).set j u
 have hg : x.grownBy (x.setCell ⟨bm, j, none⟩ u) (some bm) := ex_grown he
 refine ⟨fun k => ?_, fun k => by rw [World.frozen?_setCell]; exact hc k, there_ex hd (by omega) he (by omega), hl.grown hg (Or.inr nb), nb, hr.grown hg (fun k hk => by cases hk; omega), Below.grown (row := some bm) he0 hg he0.size (fun k hk => by cases hk; omega), Nat.lt_of_lt_of_le z he.size, zw, zk, zb⟩
 rw [hO]
 by_cases e : k = j
 ·
  subst e
  have h1 := hb k
  rw [Array.getElem?_eq_getElem (by simpa using hj)] at h1
  rw [World.cell?_setCell_same _ _ _ h1, Array.getElem?_setIfInBounds_self_of_lt (by simpa using hj)]
 ·
  rw [World.cell?_setCell_other _ _ _ _ (fun h' => e (by have := congrArg Addr.off h'; exact this.symm)), hb k, Array.getElem?_setIfInBounds_ne (fun e' => e e'.symm)]
theorem Dp.set {w : World} {kr bm B : Nat} {P P' : ParD} {s : Value} {q : Int} {x : World} (h : Dp w kr bm B P s q x) (j : Nat) (u : Value) (hj : j < 7) (hO : (#[.int .i64 P'.k, .string P'.b, .int .i64 P'.se, s, .string P'.h, .string P'.c, .int .i64 P'.t] : Array Value) = (#[.int .i64 P.k, .string P.b, .int .i64 P.se, s, .string P.h, .string P.c, .int .i64 P.t] : Array Value).setIfInBounds j u) (hw : P'.ws = P.ws) : Dp w kr bm B P' s q (x.setCell ⟨bm, j, none⟩ u) :=
 dp_set h.b h.c h.d h.r h.e h.z h.zw h.zk h.zb j u hj hO (by rw [hw]; exact h.l) h.nb
theorem nb_newp {v s : Value} {bm n : Nat} (hs : s.ownBlock ≠ some bm) (hz : bm < n) (hat : v.ownBlock = s.ownBlock ∨ v.ownBlock = some n) : v.ownBlock ≠ some bm := by
 rcases hat with h | h
 ·
  rw [h]; exact hs
 ·
  rw [h]; intro e; cases e; omega
theorem Dp.app {w : World} {kr bm B : Nat} {P : ParD} {s : Value} {q : Int} {x y : World} {v : Value} {l : List W.WantD} (h : Dp w kr bm B P s q x) (hg : x.grownBy y s.ownBlock) (ho : W.Ow y v l B) (hat : v.ownBlock = s.ownBlock ∨ v.ownBlock = some x.heap.size) :
  Dp w kr bm B { P with ws := l } v q (y.setCell ⟨bm, 3, none⟩ v) := by
 have zb := h.zb
 obtain ⟨hb, hc, hd, hr, he, z⟩ := dp_rest h hg (fun k hk => ⟨by have := (h.l.lt k hk).1; omega, fun e => h.nb (by rw [hk, e])⟩)
 exact dp_set hb hc hd hr he z h.zw h.zk h.zb 3 v (by omega) rfl ho (nb_newp h.nb h.z hat)
theorem dp_new {w w2 : World} {kr B : Nat} {P : ParD} {s : Value} {q : Int} (hd : w2.there w.heap.size 0 7) (ho : W.Ow w2 s P.ws B) (hr : Rq w2 kr q) (he : Below w.heap.size w w2) (hz : w.heap.size < kr) (hk : kr < w2.heap.size) (hB : kr < B) :
  Dp w kr w2.heap.size B P s q (w2.alloc (.cells #[.int .i64 P.k, .string P.b, .int .i64 P.se, s, .string P.h, .string P.c, .int .i64 P.t] 25)) :=
 ⟨fun k => by simp [go_sem], fun k => by simp [go_sem], there_keep2 hd (by omega) (bl_alloc (Below.refl _ _) _), ho.keep (bl_alloc (Below.refl _ _) _), fun e => by have := (ho.lt _ e).2; omega, hr.below (bl_alloc (Below.refl _ _) _), bl_trans he (bl_alloc (Below.refl _ _) _), by simp, hz, hk, hB⟩
def newW (c h : ByteArray) : W.WantD := ⟨c, h, 1, 0, 0, 0, 0⟩
def arrV (c h : ByteArray) : Array Value := #[.string c, .int .i64 1, .string h, .int .i64 0, .int .i64 0, .int .i64 0, .int .i64 0]
theorem bld1v (c h : ByteArray) (w : World) : Sem.run Tryz.prog (Instr.buildSlice 23 1 #[(0, .agg #[.string c, .int .i64 1, .string h, .int .i64 0, .int .i64 0, .int .i64 0, .int .i64 0])]) w = .ok (.slice (some ⟨w.heap.size, 0, none⟩) 1 1) (w.alloc (.cells (arrV c h) 46)) := by kernel_rfl
def arr2t (x y : ByteArray) : Array Value := #[.string x, .string y]
theorem bld2t (x y : ByteArray) (w : World) : Sem.run Tryz.prog (Instr.buildSlice 43 2 #[(0, .string x), (1, .string y)]) w = .ok (.slice (some ⟨w.heap.size, 0, none⟩) 2 2) (w.alloc (.cells (arr2t x y) 9)) := by kernel_rfl
theorem lst_txt {w : World} {cs : List Value} {t : TypeId} {B rb : Nat} (hB : B ≤ w.heap.size) (hb : rb < w.heap.size) (h : ∀ v ∈ cs, Txt v) : Lst Txt B rb cs.length (w.alloc (.cells cs.toArray t)) (.slice (some ⟨w.heap.size, 0, none⟩) cs.length cs.length) :=
 ⟨w.heap.size, rfl, hB, by omega, by simp, fun j hj => ⟨cs[j], by rw [World.cell?_alloc_new]; simp [hj], h _ (List.getElem_mem hj)⟩⟩
def WntV (v : Value) : Prop := ∃ (c h : ByteArray), v = .agg #[.string c, .int .i64 1, .string h, .int .i64 0, .int .i64 0, .int .i64 0, .int .i64 0] ∧ c.size ≤ 20 ∧ h.size ≤ 20
def WntN (B : Nat) (w : World) (v : Value) : Prop := ∃ (c h : ByteArray) (g : Nat), v = .slice (some ⟨g, 0, none⟩) 1 1 ∧ B ≤ g ∧ g < w.heap.size ∧ w.heap[g]? = some (.cells (arrV c h) 46) ∧ c.size ≤ 20 ∧ h.size ≤ 20
theorem WntN.keep {B kr : Nat} {w w' : World} {v : Value} (h : WntN B w v) (he : Ex kr w w') (hk : kr < B) : WntN B w' v := by
 obtain ⟨c, h1, g, rfl, g0, g1, g2, g3⟩ := h
 exact ⟨c, h1, g, rfl, g0, Nat.lt_of_lt_of_le g1 he.size, by rw [he.block g g1 (by omega)]; exact g2, g3⟩
def WntP (D : Int → World → Prop) (B : Nat) (Q : Int) (l : List W.WantD) (s : Value) (w : World) (v : Value) : Prop := ∃ (x : World) (p : Int) (c h : ByteArray), D p x ∧ p ≤ Q ∧ x.grownBy w s.ownBlock ∧ W.Ow w v (l ++ [newW c h]) B ∧ (v.ownBlock = s.ownBlock ∨ v.ownBlock = some x.heap.size) ∧ c.size ≤ 20 ∧ h.size ≤ 20
theorem wntApp {o : Oper} {a : Act} {Y : World} {K : Act → World → Prop} {Q : Exit → Act → World → Prop} (B : Nat) (s x : Operand)
  (ho : o.op = .call { callee := .builtin .append, args := #[s, x], argTypes := #[23, 23] }) (l : List W.WantD) (v u : Value)
  (hs : a.eval s = v) (hown : W.Ow Y v l B) (hB : B ≤ Y.heap.size) (hx : a.eval x = u) (hn : WntN B Y u) (hl : l.length ≤ 1000)
  (h : ∀ (s' : Value) (w' : World) (c hh : ByteArray), W.Ow w' s' (l ++ [newW c hh]) B → Y.grownBy w' v.ownBlock → (s'.ownBlock = v.ownBlock ∨ s'.ownBlock = some Y.heap.size) → c.size ≤ 20 → hh.size ≤ 20 → K (a.put o.dst s') w') : o.wp Tryz.prog a Y K Q := by
 obtain ⟨i0, hi, hz0, hz1, hz2⟩ := info_parts W.infoR
 obtain ⟨c, hh, g, rfl, g0, g1, g2, g3, g4⟩ := hn
 refine wp_append_own_at s x 23 ho B 46 i0 _ 7 72 Tryz.underlying23 hi hz0 hz1 hz2 rfl (by decide) v l.length _ hs hown ⟨g, 0, none⟩ 1 1 (newW c hh).cells hx rfl (fun j u hj => cells_blk g2 j u hj) (W.one_cells _) (by unfold maxLen; omega) (by omega) hB ?_
 intro s' w' ho' hg' hat
 refine h s' w' c hh ?_ hg' hat g3 g4
 show World.ownsRow _ _ _ _ _ (l ++ [newW c hh]).length _
 rw [List.length_append]
 simpa [W.flatR] using ho'
def Gp (kr bm B : Nat) (s : Value) (D : Int → World → Prop) (Q : Int) (l : List W.WantD) (w : World) : Nat → Value → Prop
 | 0, v => v = .pointer (some ⟨bm, 3, none⟩)
 | 1, v => v = s
 | 2, v => Lst Txt B bm 2 w v
 | 3, v => v = .pointer (some ⟨kr, 0, none⟩)
 | 4, v => Num 0 1 v
 | 5, v => Cell Txt B bm w v
 | 6, v => Txt v
 | 7, v => Lst Txt B bm 2 w v
 | 8, v => v = .pointer (some ⟨kr, 0, none⟩)
 | 9, v => Num 0 1 v
 | 10, v => Cell Txt B bm w v
 | 11, v => Txt v
 | 12, v => WntV v
 | 13, v => WntN B w v
 | 14, v => WntP D B Q l s w v
 | 15, v => v = .pointer (some ⟨bm, 3, none⟩)
 | _, _ => True
theorem Gp.keep {kr bm B : Nat} {s : Value} {D : Int → World → Prop} {Q : Int} {l : List W.WantD} {w w' : World} (he : Ex kr w w') (hk : kr < B) : ∀ i v, i ≠ 14 → Gp kr bm B s D Q l w i v → Gp kr bm B s D Q l w' i v
 | 0, _, _, h => h
 | 1, _, _, h => h
 | 2, _, _, h => Lst.keep h he hk
 | 3, _, _, h => h
 | 4, _, _, h => h
 | 5, _, _, h => Cell.keep h he hk
 | 6, _, _, h => h
 | 7, _, _, h => Lst.keep h he hk
 | 8, _, _, h => h
 | 9, _, _, h => h
 | 10, _, _, h => Cell.keep h he hk
 | 11, _, _, h => h
 | 12, _, _, h => h
 | 13, _, _, h => WntN.keep h he hk
 | 14, _, hne, _ => absurd rfl hne
 | 15, _, _, h => h
 | _ + 16, _, _, h => h
theorem openQ (a : Option Addr) (n cap : Nat) (zs : List Int) (w : World) (h : CodeIn w a n zs) (hn : n ≤ 1048576) (hcap : n ≤ cap) :
  Calls Tryz.prog 17 #[.slice a n cap] w fun e w' => e = .returned (.pointer (some ⟨w.heap.size, 0, none⟩)) ∧ Rq w' w.heap.size 0 ∧ Below w.heap.size w w' := by
 by_cases h2 : 2000 < n
 ·
  rcases h with hz | ⟨b, off, rfl, hb, hc⟩
  ·
   omega
  have hr := rd_new (w := w) (cap := cap) (m := 2000) (Or.inr ⟨b, off, rfl, hb, hc⟩) (by omega) (by omega)
  have i1 : (2000 : Int) ≤ (cap : Int) := by omega
  have Hr : Hid _ := hr
  clear hr hc
  go_enter Tryz.func17, Tryz.ntmps17
  go_wp2
  go_ret
  exact ⟨rfl, ⟨_, _, _, _, _, Hr.out, Int.le_refl _, Or.inr ⟨b, off, rfl, hb⟩⟩, bl_alloc (Below.refl _ _) _⟩
 ·
  have hr := rd_new (w := w) (cap := cap) (m := n) h (by omega) (by omega)
  have Hr : Hid _ := hr
  have HZ : Hid (CodeIn w a n zs) := h
  clear hr h
  go_enter Tryz.func17, Tryz.ntmps17
  go_wp2
  go_ret
  refine ⟨rfl, ⟨_, _, _, _, _, Hr.out, Int.le_refl _, ?_⟩, bl_alloc (Below.refl _ _) _⟩
  rcases HZ.out with hz | ⟨b, off, h1, hb, -⟩
  ·
   exact Or.inl hz
  ·
   exact Or.inr ⟨b, off, h1, hb⟩
theorem CodeIn.bel {w w' : World} {a : Option Addr} {n : Nat} {zs : List Int} (h : CodeIn w a n zs) (hb : Below w.heap.size w w') : CodeIn w' a n zs := by
 rcases h with h | ⟨b, off, ha, hbb, hc⟩
 ·
  exact Or.inl h
 ·
  exact Or.inr ⟨b, off, ha, Nat.lt_of_lt_of_le hbb hb.size, fun i hi => ⟨(hb.cell (p := ⟨b, off + i, none⟩) hbb).trans (hc i hi).1, (hc i hi).2⟩⟩
end Go.Proofs.YtgakmkhbnjofhaaGreatDoor
