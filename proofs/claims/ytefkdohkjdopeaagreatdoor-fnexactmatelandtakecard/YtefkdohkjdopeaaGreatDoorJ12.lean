import Derived.Test.YtefkdohkjdopeaaGreatDoorJ10
import Derived.Test.YtefkdohkjdopeaaGreatDoorJ11
import Derived.Test.YtefkdohkjdopeaaGreatDoorJ03
import Derived.Laws.MakeOwn
import Derived.Test.YtefkdohkjdopeaaGreatDoorJ02
import Derived.Laws.AppendOwn
import Derived.Deep.RegionHeld3
import Derived.Laws.Pointers
import Derived.StillTactics
import Derived.Laws.AppendOwnNone
namespace Go.Proofs.YtefkdohkjdopeaaGreatDoor
open Go.RowKit
set_option linter.unusedVariables false
def W.Src (w : World) (a : Option Addr) (c : Nat) (l : List W.WantD) : Prop := (a = none ∧ c = 0 ∧ l = []) ∨ ∃ g, a = some ⟨g, 0, none⟩ ∧ g < w.heap.size ∧ W.RowsAt w g 0 l
theorem W.Src.keep {w w' : World} {a : Option Addr} {c : Nat} {l : List W.WantD} (h : W.Src w a c l) (hb : Below w.heap.size w w') : W.Src w' a c l := by
 rcases h with h | ⟨g, h1, h2, h3⟩
 ·
  exact Or.inl h
 ·
  exact Or.inr ⟨g, h1, Nat.lt_of_lt_of_le h2 hb.size, h3.keep h2 hb⟩
theorem W.Sl.src {w : World} {a : Option Addr} {c B : Nat} {l : List W.WantD} (h : W.Sl w (.slice a l.length c) l B) : W.Src w a c l := by
 rcases h with ⟨h, rfl⟩ | ⟨g, cap, h0, h1, h2, h3, h4⟩
 ·
  cases h; exact Or.inl ⟨rfl, rfl, rfl⟩
 ·
  cases h0; exact Or.inr ⟨g, rfl, h2, h3⟩
theorem W.wp_copy {ops : Array Oper} {rest : List Oper} {o : Oper} {a : Act} {Q : Exit → Act → World → Prop} (Wo : World) (hgd : o.guard = none) (s x : Operand)
  (ho : o.op = .call { callee := .builtin .append, args := #[s, x], argTypes := #[39, 39] })
  (l : List W.WantD) (ad : Option Addr) (c : Nat) (hs : a.eval s = .slice (some ⟨Wo.heap.size, 0, none⟩) 0 0) (hx : a.eval x = .slice ad l.length c) (hsrc : W.Src Wo ad c l) (hl : l.length ≤ 1048576)
  (h : ∀ s' w', W.Sl w' s' l Wo.heap.size → Below Wo.heap.size Wo w' → wpList Tryz.prog ops Q rest (a.put o.dst s') w') : wpList Tryz.prog ops Q (o :: rest) a (Wo.alloc (.cells #[] 94)) := by
 obtain ⟨i0, hi, hz0, hz1, hz2⟩ := info_parts W.infoR
 have hown : (Wo.alloc (.cells #[] 94)).ownsRow Wo.heap.size 94 7 (.slice (some ⟨Wo.heap.size, 0, none⟩) 0 0) 0 [] := World.ownsRow_made Wo #[] 0 (Nat.le_refl _) (Nat.zero_le _) rfl
 have hb : Below Wo.heap.size Wo (Wo.alloc (.cells #[] 94)) := bl_alloc (Below.refl _ _) _
 rcases hsrc with ⟨rfl, rfl, rfl⟩ | ⟨g, rfl, hg, hr⟩
 ·
  exact wpList_append_own_none hgd s x 39 ho Wo.heap.size 94 i0 7 Tryz.underlying39 hi _ 0 [] hs hown hx (h _ _ (W.Sl.of_owns (l := []) hown) hb)
 ·
  refine wpList_append_own _ hgd s x 39 ho Wo.heap.size 94 i0 _ 7 72 Tryz.underlying39 hi hz0 hz1 hz2 rfl (by decide) _ 0 [] hs hown ⟨g, 0, none⟩ l.length c (W.flatR l) hx (W.flatR_len _) (W.flat_cells (hr.keep hg hb)) (W.flatR_one _) (by unfold maxLen; omega) (by omega) hb.size ?_
  intro s' w' ho' hg' hn'
  exact h s' w' (W.Sl.of_owns (by simpa using ho')) (Below.grown hb hg' hb.size (fun j hj => by cases hj; exact Nat.le_refl _))
end Go.Proofs.YtefkdohkjdopeaaGreatDoor
namespace Go.Proofs.YtefkdohkjdopeaaGreatDoor
open Go.RowKit Go.Maps Go.WideMaps
set_option linter.unusedVariables false
theorem heap_putP {w : World} {b i : Nat} {cur : Array Value} {e : TypeId} (h : w.heap[b]? = some (.cells cur e (0, 0))) (v : Value) : (w.setCell ⟨b, i, none⟩ v).heap[b]? = some (.cells (cur.setIfInBounds i v) e (0, 0)) := heap_setCell_same w b i cur e v h
theorem owns_setP {x : World} {B size g n c : Nat} {e : TypeId} {xs : List Value} (h : x.ownsRow B e size (.slice (some ⟨g, 0, none⟩) n c) n xs) (p : Nat) (hp : p < xs.length) (v : Value) : (x.setCell ⟨g, p, none⟩ v).ownsRow B e size (.slice (some ⟨g, 0, none⟩) n c) n (xs.set p v) := by
 obtain ⟨hl, ⟨h1, -⟩ | ⟨g', cap, cur, h1, h2, h3, h4, h5, h6, h7⟩⟩ := h
 ·
  cases h1
 ·
  cases h1
  refine ⟨by simpa using hl, Or.inr ⟨g, c, cur.setIfInBounds p v, rfl, h2, heap_putP h3 v, h4, h5, by simpa using h6, ?_⟩⟩
  rw [Array.toList_setIfInBounds, List.take_set, h7]
theorem flatP_set : ∀ (l : List Pr.PlRaw) (k : Nat) (r : Pr.PlRaw) (a : Option Addr) (n c : Nat), l[k]? = some r → Pr.flatR (l.set k ⟨r.b, r.s, a, n, c⟩) = (Pr.flatR l).set (k * 3 + 2) (.slice a n c)
 | [], k, r, a, n, c, h => by simp at h
 | q :: l, 0, r, a, n, c, h => by
  simp at h; subst h
  simp [Pr.flatR, Pr.PlRaw.cells]
 | q :: l, k + 1, r, a, n, c, h => by
  have ih := flatP_set l k r a n c (by simpa using h)
  have e1 : Pr.flatR (q :: l.set k ⟨r.b, r.s, a, n, c⟩) = q.cells ++ Pr.flatR (l.set k ⟨r.b, r.s, a, n, c⟩) := by simp [Pr.flatR]
  have e2 : Pr.flatR (q :: l) = q.cells ++ Pr.flatR l := by simp [Pr.flatR]
  have e3 : (k + 1) * 3 + 2 = q.cells.length + (k * 3 + 2) := by show _ = 3 + _; omega
  rw [List.set_cons_succ, e1, e2, ih, e3, List.set_append_right _ _ (by omega)]
  congr 2
  omega
structure Pt (w : World) (B Z lb : Nat) (t : Int) (gs : List G.GrantD) (qs0 qs : List P.PlaceD) (k : Nat) (s1 : Value) (a2 : Option Addr) (c2 : Nat) : Prop where
 c : w.rangeAt lb 0 [.int .i64 t, s1, .slice a2 qs0.length c2]
 f : w.there lb 0 3
 zl : B ≤ lb ∧ lb < Z
 zz : Z ≤ w.heap.size
 g : OG B gs w s1
 zg : ∀ g, s1.ownBlock = some g → g < Z
 p : OQ B (qs.map Pr.raw) w (.slice a2 qs0.length c2)
 zp : ∀ g, (Value.slice a2 qs0.length c2).ownBlock = some g → g < Z
 n1 : s1.ownBlock ≠ some lb
 n2 : (Value.slice a2 qs0.length c2).ownBlock ≠ some lb
 like : P.Like qs qs0
 new : ∀ j q, j < k → qs[j]? = some q → W.Sl w (.slice q.a q.ws.length q.c) q.ws Z
 old : ∀ j, k ≤ j → qs[j]? = qs0[j]?
 dif : ∀ i j q r, i < j → j < k → qs[i]? = some q → qs[j]? = some r → ∀ g, (Value.slice q.a q.ws.length q.c).ownBlock = some g → (Value.slice r.a r.ws.length r.c).ownBlock ≠ some g
 cap : ∀ j q, j < k → qs[j]? = some q → q.ws.length ≤ q.c
theorem Pt.keep {w w' : World} {B Z lb : Nat} {t : Int} {gs : List G.GrantD} {qs0 qs : List P.PlaceD} {k : Nat} {s1 : Value} {a2 : Option Addr} {c2 : Nat} (h : Pt w B Z lb t gs qs0 qs k s1 a2 c2) (hb : Below w.heap.size w w') : Pt w' B Z lb t gs qs0 qs k s1 a2 c2 :=
 ⟨fun j u hj => (hb.cell (p := ⟨lb, 0 + j, none⟩) (Nat.lt_of_lt_of_le h.zl.2 h.zz)).trans (h.c j u hj), there_keep2 h.f (Nat.lt_of_lt_of_le h.zl.2 h.zz) hb, h.zl, Nat.le_trans h.zz hb.size, h.g.keep hb, h.zg, h.p.keep hb, h.zp, h.n1, h.n2, h.like, fun j q hj hq => (h.new j q hj hq).keep hb, h.old, h.dif, h.cap⟩
theorem pt_start {w : World} {B lb : Nat} {t : Int} {gs : List G.GrantD} {qs0 : List P.PlaceD} {a1 a2 : Option Addr} {c1 c2 : Nat} (h : Ld w B lb t gs (qs0.map Pr.raw) (.slice a1 gs.length c1) (.slice a2 (qs0.map Pr.raw).length c2)) : Pt w B w.heap.size lb t gs qs0 qs0 0 (.slice a1 gs.length c1) a2 c2 := by
 have e : (qs0.map Pr.raw).length = qs0.length := List.length_map ..
 have hc := h.c
 have hp := h.p
 have hn2 := h.n2
 rw [e] at hc hp hn2
 exact ⟨hc, h.f, h.z, Nat.le_refl _, h.g, fun g hg => ((G.Sl.of_owns h.g).lt g hg).2, hp, fun g hg => by
  have h1 : Pr.Sl w (.slice a2 (qs0.map Pr.raw).length c2) (qs0.map Pr.raw) B := Pr.Sl.of_owns h.p
  rw [e] at h1
  exact (h1.lt g hg).2, h.n1, hn2, rfl, fun j q hj => absurd hj (by omega), fun j _ => rfl, fun i j q r _ hj => absurd hj (by omega), fun j q hj => absurd hj (by omega)⟩
theorem like_set {qs qs0 : List P.PlaceD} {k : Nat} {q : P.PlaceD} (h : P.Like qs qs0) (hq : qs[k]? = some q) (a : Option Addr) (c : Nat) : P.Like (qs.set k ⟨q.b, q.s, a, c, q.ws⟩) qs0 := by
 unfold P.Like at h ⊢
 rw [← h, List.map_set]
 have e : (⟨q.b, q.s, a, c, q.ws⟩ : P.PlaceD).says = q.says := rfl
 rw [e]
 apply List.ext_getElem?
 intro i
 by_cases hi : k = i
 ·
  subst hi
  rw [List.getElem?_set_self (by rw [List.length_map]; exact (List.getElem?_eq_some_iff.1 hq).1), List.getElem?_map, hq]
  rfl
 ·
  rw [List.getElem?_set_ne hi]
theorem raw_set {qs : List P.PlaceD} {k : Nat} {q : P.PlaceD} (a : Option Addr) (c : Nat) : (qs.set k ⟨q.b, q.s, a, c, q.ws⟩).map Pr.raw = (qs.map Pr.raw).set k ⟨q.b, q.s, a, q.ws.length, c⟩ := by
 rw [List.map_set]
 rfl
theorem pt_step {w y : World} {B Z lb g2 : Nat} {t : Int} {gs : List G.GrantD} {qs0 qs : List P.PlaceD} {k : Nat} {s1 : Value} {c2 : Nat} {q : P.PlaceD} {av : Option Addr} {cv : Nat} (h : Pt w B Z lb t gs qs0 qs k s1 (some ⟨g2, 0, none⟩) c2) (hb : Below w.heap.size w y) (hq : qs[k]? = some q) (hv : W.Sl y (.slice av q.ws.length cv) q.ws w.heap.size) (hcv : q.ws.length ≤ cv) :
  Pt (y.setCell ⟨g2, k * 3 + 2, none⟩ (.slice av q.ws.length cv)) B Z lb t gs qs0 (qs.set k ⟨q.b, q.s, av, cv, q.ws⟩) (k + 1) s1 (some ⟨g2, 0, none⟩) c2 := by
 have H := h.keep hb
 have hk : k < qs.length := (List.getElem?_eq_some_iff.1 hq).1
 have hlen := h.like.len
 have z2 : g2 < Z := h.zp g2 rfl
 have zz := h.zz
 have hne : g2 ≠ lb := fun e => h.n2 (by rw [← e]; rfl)
 have he : Ex g2 y (y.setCell ⟨g2, k * 3 + 2, none⟩ (.slice av q.ws.length cv)) := (Ex.refl _ _).set _ _
 have hgr : y.grownBy (y.setCell ⟨g2, k * 3 + 2, none⟩ (.slice av q.ws.length cv)) (some g2) := ⟨he.os, he.tape, he.output, he.size, fun k hk hne => he.block k hk (fun e => hne (by rw [e]))⟩
 have hg2 : s1.ownBlock ≠ some g2 := by
  intro e
  obtain ⟨-, ⟨h1, h0⟩ | ⟨g', cap, cur, h1, -, h3, -⟩⟩ := H.p
  ·
   exact absurd (congrArg Value.ownBlock h1) (by simp [Value.ownBlock])
  ·
   have e0 : g2 = g' := Option.some.inj (congrArg Value.ownBlock h1)
   subst e0
   obtain ⟨-, ⟨rfl, -⟩ | ⟨g'', cap', cur', rfl, -, h5, -⟩⟩ := H.g
   ·
    cases e
   ·
    have e1 : g'' = g2 := Option.some.inj e
    rw [e1, h3] at h5
    have e2 : 90 = 61 := by
     have := Option.some.inj h5
     injection this
    exact absurd e2 (by decide)
 have hold : ∀ v : Value, (∀ g, v.ownBlock = some g → Z ≤ g) → v.ownBlock = none ∨ v.ownBlock ≠ some g2 := fun v hz => Or.inr (fun e => by have := hz g2 e; omega)
 refine ⟨fun j u hj => (he.cell (p := ⟨lb, 0 + j, none⟩) (Nat.lt_of_lt_of_le H.zl.2 H.zz) (fun e => hne e.symm)).trans (H.c j u hj), there_ex H.f (Nat.lt_of_lt_of_le H.zl.2 H.zz) he (fun e => hne e.symm), H.zl, Nat.le_trans H.zz he.size, H.g.grown hgr (Or.inr hg2), H.zg, ?_, H.zp, H.n1, H.n2, like_set H.like hq _ _, ?_, ?_, ?_, ?_⟩
 ·
  have hp : World.ownsRow y B 90 3 (.slice (some ⟨g2, 0, none⟩) (qs.map Pr.raw).length c2) (qs.map Pr.raw).length (Pr.flatR (qs.map Pr.raw)) := by
   have := H.p
   unfold OQ at this
   rwa [show qs0.length = (qs.map Pr.raw).length by rw [List.length_map]; exact hlen.symm] at this
  have h1 := owns_setP hp (k * 3 + 2) (by rw [Pr.flatR_len, List.length_map]; omega) (.slice av q.ws.length cv)
  rw [← flatP_set (qs.map Pr.raw) k (Pr.raw q) av q.ws.length cv (by rw [List.getElem?_map, hq]; rfl)] at h1
  show World.ownsRow _ _ _ _ _ ((qs.set k ⟨q.b, q.s, av, cv, q.ws⟩).map Pr.raw).length _
  rw [raw_set, List.length_set, show qs0.length = (qs.map Pr.raw).length by rw [List.length_map]; exact hlen.symm]
  exact h1
 ·
  intro j r hj hr
  by_cases e : k = j
  ·
   subst e
   rw [List.getElem?_set_self hk] at hr
   cases hr
   have h1 : W.Sl y (.slice av q.ws.length cv) q.ws Z := by
    rcases hv with h2 | ⟨g, cap, h2, h3, h4⟩
    ·
     exact Or.inl h2
    ·
     exact Or.inr ⟨g, cap, h2, Nat.le_trans zz h3, h4⟩
   exact h1.grown hgr (hold _ (fun g hg => (h1.lt g hg).1))
  ·
   rw [List.getElem?_set_ne e] at hr
   have h1 := H.new j r (by omega) hr
   exact h1.grown hgr (hold _ (fun g hg => (h1.lt g hg).1))
 ·
  intro j hj
  rw [List.getElem?_set_ne (by omega)]
  exact H.old j (by omega)
 ·
  intro i j q' r hij hj hq' hr g hg
  rw [List.getElem?_set_ne (by omega)] at hq'
  have h1 := (h.new i q' (by omega) hq').lt g hg
  by_cases e : k = j
  ·
   subst e
   rw [List.getElem?_set_self hk] at hr
   cases hr
   intro e2
   have h2 := (hv.lt g e2).1
   omega
  ·
   rw [List.getElem?_set_ne e] at hr
   exact H.dif i j q' r hij (by omega) hq' hr g hg
 ·
  intro j r hj hr
  by_cases e : k = j
  ·
   subst e
   rw [List.getElem?_set_self hk] at hr
   cases hr
   exact hcv
  ·
   rw [List.getElem?_set_ne e] at hr
   exact H.cap j r (by omega) hr
theorem pt_blk {w : World} {B Z lb : Nat} {t : Int} {gs : List G.GrantD} {qs0 qs : List P.PlaceD} {k : Nat} {s1 : Value} {a2 : Option Addr} {c2 : Nat} (h : Pt w B Z lb t gs qs0 qs k s1 a2 c2) (hl : 0 < qs0.length) : ∃ g2, a2 = some ⟨g2, 0, none⟩ ∧ g2 < w.heap.size ∧ Pr.RowsAt w g2 0 (qs.map Pr.raw) ∧ w.there g2 0 (qs0.length * 3) := by
 have hlen := h.like.len
 have e : qs0.length = (qs.map Pr.raw).length := by rw [List.length_map]; exact hlen.symm
 have hp : Pr.Sl w (.slice a2 (qs.map Pr.raw).length c2) (qs.map Pr.raw) B := Pr.Sl.of_owns (by have := h.p; unfold OQ at this; rwa [e] at this)
 rcases hp with ⟨h1, h2⟩ | ⟨g, cap, h1, h2, h3, h4, h5⟩
 ·
  rw [h2] at e; rw [e] at hl; exact absurd hl (by simp)
 ·
  injection h1 with e1 e2 e3
  rw [e]
  exact ⟨g, e1, h3, h4, h5⟩
theorem pt_row {w : World} {g2 k : Nat} {qs : List P.PlaceD} {q : P.PlaceD} (h : Pr.RowsAt w g2 0 (qs.map Pr.raw)) (hq : qs[k]? = some q) : w.cell? ⟨g2, k * 3, none⟩ = some (.string q.b) ∧ w.cell? ⟨g2, k * 3 + 1, none⟩ = some (.int .i64 q.s) ∧ w.cell? ⟨g2, k * 3 + 2, none⟩ = some (.slice q.a q.ws.length q.c) := by
 have h1 := h k (Pr.raw q) (by rw [List.getElem?_map, hq]; rfl)
 have a0 := h1 0 _ rfl
 have a1 := h1 1 _ rfl
 have a2 := h1 2 _ rfl
 simp only [Nat.zero_add, Nat.add_zero] at a0 a1 a2
 exact ⟨a0, a1, a2⟩
theorem pt_ge {w : World} {B Z lb g2 : Nat} {t : Int} {gs : List G.GrantD} {qs0 qs : List P.PlaceD} {k : Nat} {s1 : Value} {c2 : Nat} (h : Pt w B Z lb t gs qs0 qs k s1 (some ⟨g2, 0, none⟩) c2) : B ≤ g2 := by
 obtain ⟨-, ⟨h1, -⟩ | ⟨g', cap, cur, h1, h2, -⟩⟩ := h.p
 ·
  exact absurd (congrArg Value.ownBlock h1) (by simp [Value.ownBlock])
 ·
  have e0 : g2 = g' := Option.some.inj (congrArg Value.ownBlock h1)
  rw [e0]; exact h2
theorem sl_lowW {w : World} {v : Value} {l : List W.WantD} {B B' : Nat} (h : W.Sl w v l B) (hB : B' ≤ B) : W.Sl w v l B' := by
 rcases h with h | ⟨g, cap, h0, h1, h2, h3, h4⟩
 ·
  exact Or.inl h
 ·
  exact Or.inr ⟨g, cap, h0, Nat.le_trans hB h1, h2, h3, h4⟩
theorem pt_other {w w' : World} {B Z lb b : Nat} {t : Int} {gs : List G.GrantD} {qs0 qs : List P.PlaceD} {k : Nat} {s1 : Value} {a2 : Option Addr} {c2 : Nat} (h : Pt w B Z lb t gs qs0 qs k s1 a2 c2) (he : Ex b w w') (hb : b < B) : Pt w' B Z lb t gs qs0 qs k s1 a2 c2 := by
 have hgr : w.grownBy w' (some b) := ⟨he.os, he.tape, he.output, he.size, fun k hk hne => he.block k hk (fun e => hne (by rw [e]))⟩
 have zl := h.zl
 have g1 : s1.ownBlock = none ∨ s1.ownBlock ≠ some b := Or.inr (fun e => by have := ((G.Sl.of_owns h.g).lt b e).1; omega)
 have g2 : (Value.slice a2 qs0.length c2).ownBlock = none ∨ (Value.slice a2 qs0.length c2).ownBlock ≠ some b := Or.inr (fun e => by
  have hlen := h.like.len
  have e1 : qs0.length = (qs.map Pr.raw).length := by rw [List.length_map]; exact hlen.symm
  have hp : Pr.Sl w (.slice a2 (qs.map Pr.raw).length c2) (qs.map Pr.raw) B := Pr.Sl.of_owns (by have := h.p; unfold OQ at this; rwa [e1] at this)
  rw [e1] at e
  have := (hp.lt b e).1
  omega)
 refine ⟨fun j u hj => (he.cell (p := ⟨lb, 0 + j, none⟩) (Nat.lt_of_lt_of_le zl.2 h.zz) (by show lb ≠ b; omega)).trans (h.c j u hj), there_ex h.f (Nat.lt_of_lt_of_le zl.2 h.zz) he (by omega), zl, Nat.le_trans h.zz he.size, h.g.grown hgr g1, h.zg, h.p.grown hgr g2, h.zp, h.n1, h.n2, h.like, fun j q hj hq => ?_, h.old, h.dif, h.cap⟩
 have h1 := h.new j q hj hq
 exact h1.grown hgr (Or.inr (fun e => by have := (h1.lt b e).1; omega))
def Gv (w : World) (a : Option Addr) (rs : List RunD) : Prop := rs = [] ∨ ∃ b, a = some ⟨b, 0, none⟩ ∧ b < w.heap.size ∧ RowsAt w b 0 rs
def W.Gv (w : World) (a : Option Addr) (ws : List W.WantD) : Prop := ws = [] ∨ ∃ b, a = some ⟨b, 0, none⟩ ∧ b < w.heap.size ∧ W.RowsAt w b 0 ws
theorem W.Gv.keep {w w' : World} {a : Option Addr} {ws : List W.WantD} (h : W.Gv w a ws) (hb : Below w.heap.size w w') : W.Gv w' a ws := by
 rcases h with h | ⟨b, h1, h2, h3⟩
 ·
  exact Or.inl h
 ·
  exact Or.inr ⟨b, h1, Nat.lt_of_lt_of_le h2 hb.size, h3.keep h2 hb⟩
end Go.Proofs.YtefkdohkjdopeaaGreatDoor
