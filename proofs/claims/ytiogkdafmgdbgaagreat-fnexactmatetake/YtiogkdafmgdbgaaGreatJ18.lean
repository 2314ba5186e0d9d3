import Derived.Test.YtiogkdafmgdbgaaGreatJ17
/- MateTake: the specification's side. -/
namespace Go.Proofs.YtiogkdafmgdbgaaGreat
open Go.RowKit Go.Maps Go.WideMaps
set_option linter.unusedVariables false

theorem A.ask_cases (rs : List A.AskD) (x : ByteArray) : (A.askAt rs x = -1 ∧ ∀ a ∈ rs, a.h ≠ x) ∨ ∃ (k : Nat) (a : A.AskD), A.askAt rs x = (k : Int) ∧ rs[k]? = some a ∧ a.h = x := by
  unfold A.askAt
  cases h : rs.findIdx? (fun r => r.h.toList == x.toList) with
  | none =>
    rw [List.findIdx?_eq_none_iff] at h
    exact Or.inl ⟨rfl, fun a ha e => by have := h a ha; rw [e] at this; simp at this⟩
  | some i =>
    rw [List.findIdx?_eq_some_iff_getElem] at h
    obtain ⟨hi, hp, -⟩ := h
    refine Or.inr ⟨i, rs[i], rfl, List.getElem?_eq_getElem hi, Ord.ba_ext ?_⟩
    rw [← ByteArray.toList_eq, ← ByteArray.toList_eq]
    exact eq_of_beq hp
theorem ob_lt {v : Value} {k : Nat} (h : ∀ g, v.ownBlock = some g → g < k) : v.ownBlock = none ∨ v.ownBlock ≠ some k := by
  cases hv : v.ownBlock with
  | none => exact Or.inl rfl
  | some g => exact Or.inr (fun e => by have := h g hv; injection e with e; omega)
/-- A mate's list is taken out for a new one, and its box turned. -/
theorem slm_new4 {w w' : World} {m : MateD} {s1 s2 s3 s4 v : Value} {B C k : Nat} {l : List A.AskD} {u : Bool} (h : SlM w m s1 s2 s3 s4 B) (hv : A.Sl w v l C) (hlt : ∀ j, (s1.ownBlock = some j ∨ s2.ownBlock = some j ∨ s3.ownBlock = some j ∨ s4.ownBlock = some j) → j < k) (hk : k < C) (hB : B ≤ C) (he : Ex k w w') :
    SlM w' ⟨m.nm, u, m.ck, m.kn, m.se, m.ws, m.rs, m.qs, l⟩ s1 s2 s3 v B :=
  ⟨h.a1.grown (W.ex_grown he) (ob_lt (fun g hg => hlt g (Or.inl hg))), h.a2.grown (ex_grown he) (ob_lt (fun g hg => hlt g (Or.inr (Or.inl hg)))), h.a3.grown (A.ex_grown he) (ob_lt (fun g hg => hlt g (Or.inr (Or.inr (Or.inl hg))))), (hv.grown (A.ex_grown he) (ob_ne (N := k) (fun g hg => Nat.lt_of_lt_of_le hk (hv.lt g hg).1) (Nat.le_refl _))).low hB, h.d12, h.d13, dif_lt (fun g hg => hlt g (Or.inl hg)) (fun g hg => (hv.lt g hg).1) (Nat.le_of_lt hk), h.d23, dif_lt (fun g hg => hlt g (Or.inr (Or.inl hg))) (fun g hg => (hv.lt g hg).1) (Nat.le_of_lt hk), dif_lt (fun g hg => hlt g (Or.inr (Or.inr (Or.inl hg)))) (fun g hg => (hv.lt g hg).1) (Nat.le_of_lt hk)⟩
theorem SlM.exlt {w w' : World} {m : MateD} {s1 s2 s3 s4 : Value} {B k : Nat} (h : SlM w m s1 s2 s3 s4 B) (hlt : ∀ j, (s1.ownBlock = some j ∨ s2.ownBlock = some j ∨ s3.ownBlock = some j ∨ s4.ownBlock = some j) → j < k) (he : Ex k w w') : SlM w' m s1 s2 s3 s4 B :=
  ⟨h.a1.grown (W.ex_grown he) (ob_lt (fun g hg => hlt g (Or.inl hg))), h.a2.grown (ex_grown he) (ob_lt (fun g hg => hlt g (Or.inr (Or.inl hg)))), h.a3.grown (A.ex_grown he) (ob_lt (fun g hg => hlt g (Or.inr (Or.inr (Or.inl hg))))), h.a4.grown (A.ex_grown he) (ob_lt (fun g hg => hlt g (Or.inr (Or.inr (Or.inr hg))))), h.d12, h.d13, h.d14, h.d23, h.d24, h.d34⟩
theorem slm_new1 {w w' : World} {m : MateD} {s1 s2 s3 s4 v : Value} {B C k : Nat} {l : List W.WantD} {u n : Bool} {c : Int} (h : SlM w m s1 s2 s3 s4 B) (hv : W.Sl w v l C) (hlt : ∀ j, (s1.ownBlock = some j ∨ s2.ownBlock = some j ∨ s3.ownBlock = some j ∨ s4.ownBlock = some j) → j < k) (hk : k < C) (hB : B ≤ C) (he : Ex k w w') :
    SlM w' ⟨m.nm, u, m.ck, n, c, l, m.rs, m.qs, m.gs⟩ v s2 s3 s4 B :=
  have h' := h.exlt hlt he
  ⟨(hv.grown (W.ex_grown he) (ob_ne (N := k) (fun g hg => Nat.lt_of_lt_of_le hk (hv.lt g hg).1) (Nat.le_refl _))).low hB, h'.a2, h'.a3, h'.a4, (dif_lt (fun g hg => hlt g (Or.inr (Or.inl hg))) (fun g hg => (hv.lt g hg).1) (Nat.le_of_lt hk)).symm, (dif_lt (fun g hg => hlt g (Or.inr (Or.inr (Or.inl hg)))) (fun g hg => (hv.lt g hg).1) (Nat.le_of_lt hk)).symm, (dif_lt (fun g hg => hlt g (Or.inr (Or.inr (Or.inr hg)))) (fun g hg => (hv.lt g hg).1) (Nat.le_of_lt hk)).symm, h'.d23, h'.d24, h'.d34⟩
/-- The walk stops here. -/
structure Stop (P : Prop) : Prop where
  out : P
/-- A mate's box. -/
structure Bx (x : World) (B : Nat) (X : Array Value) : Prop where
  b : ∀ k, x.cell? ⟨B, k, none⟩ = X[k]?
  c : ∀ k, x.frozen? ⟨B, k, none⟩ = false
  l : B < x.heap.size
theorem bx_new (x : World) (X : Array Value) (t : TypeId) : Bx (x.alloc (.cells X t)) x.heap.size X := ⟨fun k => by simp [go_sem], fun k => by simp [go_sem], by simp⟩
theorem Bx.below {x y : World} {B : Nat} {X : Array Value} (h : Bx x B X) (hb : Below x.heap.size x y) : Bx y B X :=
  ⟨fun j => (hb.cell (p := ⟨B, j, none⟩) h.l).trans (h.b j), fun j => (hb.frozen (p := ⟨B, j, none⟩) h.l).trans (h.c j), Nat.lt_of_lt_of_le h.l hb.size⟩
theorem Bx.ex {x y : World} {B k : Nat} {X : Array Value} (h : Bx x B X) (he : Ex k x y) (hk : B ≠ k) : Bx y B X :=
  ⟨fun j => (he.cell (p := ⟨B, j, none⟩) h.l hk).trans (h.b j), fun j => (he.frozen (p := ⟨B, j, none⟩) h.l hk).trans (h.c j), Nat.lt_of_lt_of_le h.l he.size⟩
theorem Bx.set {x : World} {B : Nat} {X : Array Value} (h : Bx x B X) (j : Nat) (hj : j < X.size) (u : Value) : Bx (x.setCell ⟨B, j, none⟩ u) B (X.setIfInBounds j u) := by
  have he : Ex B x (x.setCell ⟨B, j, none⟩ u) := (Ex.refl _ _).set j u
  refine ⟨fun k => ?_, fun k => by rw [World.frozen?_setCell]; exact h.c k, Nat.lt_of_lt_of_le h.l he.size⟩
  by_cases e : k = j
  · subst e
    rw [World.cell?_setCell_same _ _ _ ((h.b k).trans (Array.getElem?_eq_getElem hj))]
    simp [hj]
  · rw [World.cell?_setCell_other _ _ _ _ (fun h' => e (by have := congrArg Addr.off h'; exact this.symm)), h.b k]
    rw [Array.getElem?_setIfInBounds_ne (fun h' => e h'.symm)]

set_option maxRecDepth 4000 in
set_option maxHeartbeats 8000000 in
theorem specTake (m : MateD) (p : ParcelD) (b1 b2 b3 b4 b5 : Nat) (w : World) (hL : Lists w m b1 b2 b3 b4) (hf : m.fits) (hR : W.RowsAt w b5 0 p.ws) (l5 : b5 < w.heap.size) (hp : p.fits) :
    Calls Tryz.prog 6 #[.agg #[.string m.nm, .bool m.up, .int .i64 m.ck, .bool m.kn, .int .i64 m.se, .slice (some ⟨b1, 0, none⟩) m.ws.length m.ws.length, .slice (some ⟨b2, 0, none⟩) m.rs.length m.rs.length, .slice (some ⟨b3, 0, none⟩) m.qs.length m.qs.length, .slice (some ⟨b4, 0, none⟩) m.gs.length m.gs.length], .agg #[.int .i64 p.k, .string p.b, .int .i64 p.s, .slice (some ⟨b5, 0, none⟩) p.ws.length p.ws.length, .string p.h, .string p.c, .int .i64 p.t]] w fun e w' => (∃ r s1 s2 s3 s4, e = .returned (.agg #[.string r.nm, .bool r.up, .int .i64 r.ck, .bool r.kn, .int .i64 r.se, s1, s2, s3, s4]) ∧ Takes m p r ∧ SlM w' r s1 s2 s3 s4 w.heap.size) ∧ Below w.heap.size w w' := by
  have S0 : Hid (Sp w #[.string m.nm, .bool m.up, .int .i64 m.ck, .bool m.kn, .int .i64 m.se, .slice (some ⟨b1, 0, none⟩) m.ws.length m.ws.length, .slice (some ⟨b2, 0, none⟩) m.rs.length m.rs.length, .slice (some ⟨b3, 0, none⟩) m.qs.length m.qs.length, .slice (some ⟨b4, 0, none⟩) m.gs.length m.gs.length] #[.int .i64 p.k, .string p.b, .int .i64 p.s, .slice (some ⟨b5, 0, none⟩) p.ws.length p.ws.length, .string p.h, .string p.c, .int .i64 p.t] (((w.alloc (.cells #[.string m.nm, .bool m.up, .int .i64 m.ck, .bool m.kn, .int .i64 m.se, .slice (some ⟨b1, 0, none⟩) m.ws.length m.ws.length, .slice (some ⟨b2, 0, none⟩) m.rs.length m.rs.length, .slice (some ⟨b3, 0, none⟩) m.qs.length m.qs.length, .slice (some ⟨b4, 0, none⟩) m.gs.length m.gs.length] 35)).alloc (.cells #[.int .i64 p.k, .string p.b, .int .i64 p.s, .slice (some ⟨b5, 0, none⟩) p.ws.length p.ws.length, .string p.h, .string p.c, .int .i64 p.t] 39)).alloc (.cells #[.string { data := #[] }, .bool false, .int .i64 0, .bool false, .int .i64 0, .slice none 0 0, .slice none 0 0, .slice none 0 0, .slice none 0 0] 35))) := sp_new m p b1 b2 b3 b4 b5 w
  have hinfo : (Tryz.prog.info? 35).map (·.size) = some 9 := by kernel_rfl
  have HR : Hid (W.RowsAt w b5 0 p.ws) := hR
  have HP : Hid p.fits := hp
  clear hR hp
  obtain ⟨v, hu⟩ : ∃ v, m.up = v := ⟨_, rfl⟩
  have Hu : Hid (m.up = v) := hu
  clear hu
  go_enter Tryz.func6, Tryz.ntmps6
  go_wp2_with fail
  refine (specValid m b1 b2 b3 b4 _ (hL.keep S0.out.e) hf).mono ?_
  rintro e w1 ⟨⟨q, rfl, hq⟩, c1⟩
  have S1 : Hid (Sp w #[.string m.nm, .bool m.up, .int .i64 m.ck, .bool m.kn, .int .i64 m.se, .slice (some ⟨b1, 0, none⟩) m.ws.length m.ws.length, .slice (some ⟨b2, 0, none⟩) m.rs.length m.rs.length, .slice (some ⟨b3, 0, none⟩) m.qs.length m.qs.length, .slice (some ⟨b4, 0, none⟩) m.gs.length m.gs.length] #[.int .i64 p.k, .string p.b, .int .i64 p.s, .slice (some ⟨b5, 0, none⟩) p.ws.length p.ws.length, .string p.h, .string p.c, .int .i64 p.t] w1) := S0.out.below c1
  have Hq : Hid (SaysV q m) := hq
  clear hq c1
  have ka := S1.out.b
  have kf := S1.out.c
  cases q
  · go_wp2_with (refine wpList_store_mid (by rfl) 35 _ _ (by rfl) (w.heap.size + 2) 0 #[.string { data := #[] }, .bool false, .int .i64 0, .bool false, .int .i64 0, .slice none 0 0, .slice none 0 0, .slice none 0 0, .slice none 0 0] (by rfl) (by rfl) (by exact S1.out.d) hinfo (by exact all_oneCell_toArray (zeros_one)) ?_)
    have hrg := World.rangeAt_setCells_same w1 (w.heap.size + 2) 0 [.string { data := #[] }, .bool false, .int .i64 0, .bool false, .int .i64 0, .slice none 0 0, .slice none 0 0, .slice none 0 0, .slice none 0 0] S1.out.d
    have d0 := hrg 0 _ rfl
    have d1 := hrg 1 _ rfl
    have d2 := hrg 2 _ rfl
    have d3 := hrg 3 _ rfl
    have d4 := hrg 4 _ rfl
    have d5 := hrg 5 _ rfl
    have d6 := hrg 6 _ rfl
    have d7 := hrg 7 _ rfl
    have d8 := hrg 8 _ rfl
    simp only [Nat.zero_add] at d0 d1 d2 d3 d4 d5 d6 d7 d8
    exact bodyPost_ret (v := .agg #[.string { data := #[] }, .bool false, .int .i64 0, .bool false, .int .i64 0, .slice none 0 0, .slice none 0 0, .slice none 0 0, .slice none 0 0]) (by simp [results, Tryz.results6, go_sem, d0, d1, d2, d3, d4, d5, d6, d7, d8]) rfl ⟨⟨zeroD, _, _, _, _, rfl, Or.inr ⟨saysV_false Hq.out, rfl⟩, slm_zero _ _⟩, S1.out.put _⟩
  have hv : Hid (Valid m) := Hq.out.1 rfl
  clear Hq
  go_wp2_with fail
  refine (l4Copy_any m b1 b2 b3 b4 _ (hL.keep S1.out.e) hf).mono ?_
  rintro e w2 ⟨⟨s1, s2, s3, s4, rfl, rr⟩, c2⟩
  have S2 : Hid (Sp w #[.string m.nm, .bool m.up, .int .i64 m.ck, .bool m.kn, .int .i64 m.se, .slice (some ⟨b1, 0, none⟩) m.ws.length m.ws.length, .slice (some ⟨b2, 0, none⟩) m.rs.length m.rs.length, .slice (some ⟨b3, 0, none⟩) m.qs.length m.qs.length, .slice (some ⟨b4, 0, none⟩) m.gs.length m.gs.length] #[.int .i64 p.k, .string p.b, .int .i64 p.s, .slice (some ⟨b5, 0, none⟩) p.ws.length p.ws.length, .string p.h, .string p.c, .int .i64 p.t] w2) := S1.out.below c2
  have R2 : Hid (SlM w2 m s1 s2 s3 s4 w1.heap.size) := rr
  obtain ⟨a1, p1, hs1⟩ := W.Sl.shape rr.a1
  obtain ⟨a2, p2, hs2⟩ := Sl.shape rr.a2
  obtain ⟨a3, p3, hs3⟩ := A.Sl.shape rr.a3
  obtain ⟨a4, p4, hs4⟩ := A.Sl.shape rr.a4
  subst hs1 hs2 hs3 hs4
  have z12 := c2.size
  clear rr c2 ka kf
  have zb : w.heap.size + 2 < w1.heap.size := S1.out.f
  have Z12 : Hid (w1.heap.size ≤ w2.heap.size) := z12
  clear z12
  have zw : w.heap.size + 2 < w2.heap.size := S2.out.f
  have zw0 : w.heap.size < w2.heap.size := by omega
  have zw1 : w.heap.size + 1 < w2.heap.size := by omega
  have ka := S2.out.b
  have kf := S2.out.c
  have kp := S2.out.b2
  have kq := S2.out.c2
  rw [Hu.out] at ka ⊢
  cases v
  · have S3 : Hid (Sp w #[.string m.nm, .bool m.up, .int .i64 m.ck, .bool m.kn, .int .i64 m.se, .slice (some ⟨b1, 0, none⟩) m.ws.length m.ws.length, .slice (some ⟨b2, 0, none⟩) m.rs.length m.rs.length, .slice (some ⟨b3, 0, none⟩) m.qs.length m.qs.length, .slice (some ⟨b4, 0, none⟩) m.gs.length m.gs.length] #[.int .i64 p.k, .string p.b, .int .i64 p.s, .slice (some ⟨b5, 0, none⟩) p.ws.length p.ws.length, .string p.h, .string p.c, .int .i64 p.t] (w2.alloc (.cells #[.string m.nm, .bool false, .int .i64 m.ck, .bool m.kn, .int .i64 m.se, .slice a1 m.ws.length p1, .slice a2 m.rs.length p2, .slice a3 m.qs.length p3, .slice a4 m.gs.length p4] 35))) := S2.out.below (bl_alloc (Below.refl _ _) _)
    have R3 : Hid (SlM (w2.alloc (.cells #[.string m.nm, .bool false, .int .i64 m.ck, .bool m.kn, .int .i64 m.se, .slice a1 m.ws.length p1, .slice a2 m.rs.length p2, .slice a3 m.qs.length p3, .slice a4 m.gs.length p4] 35)) m (.slice a1 m.ws.length p1) (.slice a2 m.rs.length p2) (.slice a3 m.qs.length p3) (.slice a4 m.gs.length p4) w1.heap.size) := R2.out.keep (bl_alloc (Below.refl _ _) _)
    have ho := ones m R3.out.a1 R3.out.a2 R3.out.a3 R3.out.a4
    rw [Hu.out] at ho
    go_wp2_with (refine wpList_store_mid (by rfl) 35 _ _ (by rfl) (w.heap.size + 2) 0 #[.string m.nm, .bool false, .int .i64 m.ck, .bool m.kn, .int .i64 m.se, .slice a1 m.ws.length p1, .slice a2 m.rs.length p2, .slice a3 m.qs.length p3, .slice a4 m.gs.length p4] (by rfl) (by rfl) (by exact S3.out.d) hinfo (by exact all_oneCell_toArray (ho)) ?_)
    have hrg := World.rangeAt_setCells_same (w2.alloc (.cells #[.string m.nm, .bool false, .int .i64 m.ck, .bool m.kn, .int .i64 m.se, .slice a1 m.ws.length p1, .slice a2 m.rs.length p2, .slice a3 m.qs.length p3, .slice a4 m.gs.length p4] 35)) (w.heap.size + 2) 0 [.string m.nm, .bool false, .int .i64 m.ck, .bool m.kn, .int .i64 m.se, .slice a1 m.ws.length p1, .slice a2 m.rs.length p2, .slice a3 m.qs.length p3, .slice a4 m.gs.length p4] S3.out.d
    have d0 := hrg 0 _ rfl
    have d1 := hrg 1 _ rfl
    have d2 := hrg 2 _ rfl
    have d3 := hrg 3 _ rfl
    have d4 := hrg 4 _ rfl
    have d5 := hrg 5 _ rfl
    have d6 := hrg 6 _ rfl
    have d7 := hrg 7 _ rfl
    have d8 := hrg 8 _ rfl
    simp only [Nat.zero_add] at d0 d1 d2 d3 d4 d5 d6 d7 d8
    exact bodyPost_ret (v := .agg #[.string m.nm, .bool false, .int .i64 m.ck, .bool m.kn, .int .i64 m.se, .slice a1 m.ws.length p1, .slice a2 m.rs.length p2, .slice a3 m.qs.length p3, .slice a4 m.gs.length p4]) (by simp [results, Tryz.results6, go_sem, d0, d1, d2, d3, d4, d5, d6, d7, d8]) rfl ⟨⟨m, _, _, _, _, by rw [Hu.out], Or.inl ⟨hv.out, (took_stay (fun h => by have := h.1; rw [Hu.out] at this; cases this)).symm⟩, (R3.out.ex ((Ex.refl _ _).cells _ _) zb).low (by omega)⟩, S3.out.put _⟩
  cases hb : p.b.toList == m.nm.toList
  · have S3 : Hid (Sp w #[.string m.nm, .bool m.up, .int .i64 m.ck, .bool m.kn, .int .i64 m.se, .slice (some ⟨b1, 0, none⟩) m.ws.length m.ws.length, .slice (some ⟨b2, 0, none⟩) m.rs.length m.rs.length, .slice (some ⟨b3, 0, none⟩) m.qs.length m.qs.length, .slice (some ⟨b4, 0, none⟩) m.gs.length m.gs.length] #[.int .i64 p.k, .string p.b, .int .i64 p.s, .slice (some ⟨b5, 0, none⟩) p.ws.length p.ws.length, .string p.h, .string p.c, .int .i64 p.t] (w2.alloc (.cells #[.string m.nm, .bool true, .int .i64 m.ck, .bool m.kn, .int .i64 m.se, .slice a1 m.ws.length p1, .slice a2 m.rs.length p2, .slice a3 m.qs.length p3, .slice a4 m.gs.length p4] 35))) := S2.out.below (bl_alloc (Below.refl _ _) _)
    have R3 : Hid (SlM (w2.alloc (.cells #[.string m.nm, .bool true, .int .i64 m.ck, .bool m.kn, .int .i64 m.se, .slice a1 m.ws.length p1, .slice a2 m.rs.length p2, .slice a3 m.qs.length p3, .slice a4 m.gs.length p4] 35)) m (.slice a1 m.ws.length p1) (.slice a2 m.rs.length p2) (.slice a3 m.qs.length p3) (.slice a4 m.gs.length p4) w1.heap.size) := R2.out.keep (bl_alloc (Below.refl _ _) _)
    have ho := ones m R3.out.a1 R3.out.a2 R3.out.a3 R3.out.a4
    rw [Hu.out] at ho
    go_wp2_with (refine wpList_store_mid (by rfl) 35 _ _ (by rfl) (w.heap.size + 2) 0 #[.string m.nm, .bool true, .int .i64 m.ck, .bool m.kn, .int .i64 m.se, .slice a1 m.ws.length p1, .slice a2 m.rs.length p2, .slice a3 m.qs.length p3, .slice a4 m.gs.length p4] (by rfl) (by rfl) (by exact S3.out.d) hinfo (by exact all_oneCell_toArray (ho)) ?_)
    have hrg := World.rangeAt_setCells_same (w2.alloc (.cells #[.string m.nm, .bool true, .int .i64 m.ck, .bool m.kn, .int .i64 m.se, .slice a1 m.ws.length p1, .slice a2 m.rs.length p2, .slice a3 m.qs.length p3, .slice a4 m.gs.length p4] 35)) (w.heap.size + 2) 0 [.string m.nm, .bool true, .int .i64 m.ck, .bool m.kn, .int .i64 m.se, .slice a1 m.ws.length p1, .slice a2 m.rs.length p2, .slice a3 m.qs.length p3, .slice a4 m.gs.length p4] S3.out.d
    have d0 := hrg 0 _ rfl
    have d1 := hrg 1 _ rfl
    have d2 := hrg 2 _ rfl
    have d3 := hrg 3 _ rfl
    have d4 := hrg 4 _ rfl
    have d5 := hrg 5 _ rfl
    have d6 := hrg 6 _ rfl
    have d7 := hrg 7 _ rfl
    have d8 := hrg 8 _ rfl
    simp only [Nat.zero_add] at d0 d1 d2 d3 d4 d5 d6 d7 d8
    exact bodyPost_ret (v := .agg #[.string m.nm, .bool true, .int .i64 m.ck, .bool m.kn, .int .i64 m.se, .slice a1 m.ws.length p1, .slice a2 m.rs.length p2, .slice a3 m.qs.length p3, .slice a4 m.gs.length p4]) (by simp [results, Tryz.results6, go_sem, d0, d1, d2, d3, d4, d5, d6, d7, d8]) rfl ⟨⟨m, _, _, _, _, by rw [Hu.out], Or.inl ⟨hv.out, (took_stay (fun h => (beq_eq_false_iff_ne.1 hb) h.2)).symm⟩, (R3.out.ex ((Ex.refl _ _).cells _ _) zb).low (by omega)⟩, S3.out.put _⟩
  have HT : Hid (m.up = true ∧ p.b.toList = m.nm.toList) := ⟨Hu.out, by simpa using hb⟩
  have S3 : Hid (Sp w #[.string m.nm, .bool m.up, .int .i64 m.ck, .bool m.kn, .int .i64 m.se, .slice (some ⟨b1, 0, none⟩) m.ws.length m.ws.length, .slice (some ⟨b2, 0, none⟩) m.rs.length m.rs.length, .slice (some ⟨b3, 0, none⟩) m.qs.length m.qs.length, .slice (some ⟨b4, 0, none⟩) m.gs.length m.gs.length] #[.int .i64 p.k, .string p.b, .int .i64 p.s, .slice (some ⟨b5, 0, none⟩) p.ws.length p.ws.length, .string p.h, .string p.c, .int .i64 p.t] (w2.alloc (.cells #[.string m.nm, .bool true, .int .i64 m.ck, .bool m.kn, .int .i64 m.se, .slice a1 m.ws.length p1, .slice a2 m.rs.length p2, .slice a3 m.qs.length p3, .slice a4 m.gs.length p4] 35))) := S2.out.below (bl_alloc (Below.refl _ _) _)
  have R3 : Hid (SlM (w2.alloc (.cells #[.string m.nm, .bool true, .int .i64 m.ck, .bool m.kn, .int .i64 m.se, .slice a1 m.ws.length p1, .slice a2 m.rs.length p2, .slice a3 m.qs.length p3, .slice a4 m.gs.length p4] 35)) m (.slice a1 m.ws.length p1) (.slice a2 m.rs.length p2) (.slice a3 m.qs.length p3) (.slice a4 m.gs.length p4) w1.heap.size) := R2.out.keep (bl_alloc (Below.refl _ _) _)
  by_cases k1 : p.k = 1
  · rw [k1] at kp
    go_wp2_with fail
    refine (W.specWantsOk b5 0 _ p.ws _ (HR.out.keep l5 S3.out.e) (Nat.lt_of_lt_of_le l5 S3.out.e.size) HP.out.w HP.out.l).mono ?_
    rintro e w3 ⟨⟨q, rfl, q1⟩, c3⟩
    have K1 : Hid (W.Says q p.ws) := q1
    have S4 : Hid (Sp w #[.string m.nm, .bool m.up, .int .i64 m.ck, .bool m.kn, .int .i64 m.se, .slice (some ⟨b1, 0, none⟩) m.ws.length m.ws.length, .slice (some ⟨b2, 0, none⟩) m.rs.length m.rs.length, .slice (some ⟨b3, 0, none⟩) m.qs.length m.qs.length, .slice (some ⟨b4, 0, none⟩) m.gs.length m.gs.length] #[.int .i64 p.k, .string p.b, .int .i64 p.s, .slice (some ⟨b5, 0, none⟩) p.ws.length p.ws.length, .string p.h, .string p.c, .int .i64 p.t] w3) := S3.out.below c3
    have R4 : Hid (SlM w3 m (.slice a1 m.ws.length p1) (.slice a2 m.rs.length p2) (.slice a3 m.qs.length p3) (.slice a4 m.gs.length p4) w1.heap.size) := R3.out.keep c3
    have X4 : Hid (Bx w3 w2.heap.size #[.string m.nm, .bool true, .int .i64 m.ck, .bool m.kn, .int .i64 m.se, .slice a1 m.ws.length p1, .slice a2 m.rs.length p2, .slice a3 m.qs.length p3, .slice a4 m.gs.length p4]) := (bx_new _ _ _).below c3
    clear q1 c3 S3 R3 ka kf kp kq
    have ka := S4.out.b
    have kf := S4.out.c
    have kp := S4.out.b2
    have kq := S4.out.c2
    rw [Hu.out] at ka
    have kx := X4.out.b
    have ky := X4.out.c
    rw [k1] at kp
    cases q
    · have ho := ones m R4.out.a1 R4.out.a2 R4.out.a3 R4.out.a4
      rw [Hu.out] at ho
      go_wp2_with ((with_reducible show wpList _ _ _ [⟨_, Op.store 35 _ _, _, _, _, _⟩] _ _); refine Stop.out ?_)
      refine ⟨?_⟩
      (refine wpList_store_mid (by rfl) 35 _ _ (by rfl) (w.heap.size + 2) 0 #[.string m.nm, .bool true, .int .i64 m.ck, .bool m.kn, .int .i64 m.se, .slice a1 m.ws.length p1, .slice a2 m.rs.length p2, .slice a3 m.qs.length p3, .slice a4 m.gs.length p4] (by rfl) (by rfl) (by exact S4.out.d) hinfo (by exact all_oneCell_toArray (ho)) ?_)
      go_wp2_with fail
      have hrg := World.rangeAt_setCells_same w3 (w.heap.size + 2) 0 [.string m.nm, .bool true, .int .i64 m.ck, .bool m.kn, .int .i64 m.se, .slice a1 m.ws.length p1, .slice a2 m.rs.length p2, .slice a3 m.qs.length p3, .slice a4 m.gs.length p4] S4.out.d
      have d0 := hrg 0 _ rfl
      have d1 := hrg 1 _ rfl
      have d2 := hrg 2 _ rfl
      have d3 := hrg 3 _ rfl
      have d4 := hrg 4 _ rfl
      have d5 := hrg 5 _ rfl
      have d6 := hrg 6 _ rfl
      have d7 := hrg 7 _ rfl
      have d8 := hrg 8 _ rfl
      simp only [Nat.zero_add] at d0 d1 d2 d3 d4 d5 d6 d7 d8
      exact bodyPost_ret (v := .agg #[.string m.nm, .bool true, .int .i64 m.ck, .bool m.kn, .int .i64 m.se, .slice a1 m.ws.length p1, .slice a2 m.rs.length p2, .slice a3 m.qs.length p3, .slice a4 m.gs.length p4]) (by simp [results, Tryz.results6, go_sem, d0, d1, d2, d3, d4, d5, d6, d7, d8]) rfl ⟨⟨m, _, _, _, _, by rw [Hu.out], Or.inl ⟨hv.out, (took_deaf HT.out k1 (fun h => by have := K1.out.2 h.2.2; cases this)).symm⟩, (R4.out.ex ((Ex.refl _ _).cells _ _) zb).low (by omega)⟩, S4.out.put _⟩
    cases q2 : inB p.s 1 1000000
    · have ho := ones m R4.out.a1 R4.out.a2 R4.out.a3 R4.out.a4
      rw [Hu.out] at ho
      go_wp2_with (first | (go_at_call 21; refine (specIn_any _ _ _ _).mono ?_; rintro e w' ⟨rfl, hw⟩; have hw2 := hw.symm; subst hw2; clear hw) | ((with_reducible show wpList _ _ _ [⟨_, Op.store 35 _ _, _, _, _, _⟩] _ _); refine Stop.out ?_))
      refine ⟨?_⟩
      (refine wpList_store_mid (by rfl) 35 _ _ (by rfl) (w.heap.size + 2) 0 #[.string m.nm, .bool true, .int .i64 m.ck, .bool m.kn, .int .i64 m.se, .slice a1 m.ws.length p1, .slice a2 m.rs.length p2, .slice a3 m.qs.length p3, .slice a4 m.gs.length p4] (by rfl) (by rfl) (by exact S4.out.d) hinfo (by exact all_oneCell_toArray (ho)) ?_)
      go_wp2_with fail
      have hrg := World.rangeAt_setCells_same w3 (w.heap.size + 2) 0 [.string m.nm, .bool true, .int .i64 m.ck, .bool m.kn, .int .i64 m.se, .slice a1 m.ws.length p1, .slice a2 m.rs.length p2, .slice a3 m.qs.length p3, .slice a4 m.gs.length p4] S4.out.d
      have d0 := hrg 0 _ rfl
      have d1 := hrg 1 _ rfl
      have d2 := hrg 2 _ rfl
      have d3 := hrg 3 _ rfl
      have d4 := hrg 4 _ rfl
      have d5 := hrg 5 _ rfl
      have d6 := hrg 6 _ rfl
      have d7 := hrg 7 _ rfl
      have d8 := hrg 8 _ rfl
      simp only [Nat.zero_add] at d0 d1 d2 d3 d4 d5 d6 d7 d8
      exact bodyPost_ret (v := .agg #[.string m.nm, .bool true, .int .i64 m.ck, .bool m.kn, .int .i64 m.se, .slice a1 m.ws.length p1, .slice a2 m.rs.length p2, .slice a3 m.qs.length p3, .slice a4 m.gs.length p4]) (by simp [results, Tryz.results6, go_sem, d0, d1, d2, d3, d4, d5, d6, d7, d8]) rfl ⟨⟨m, _, _, _, _, by rw [Hu.out], Or.inl ⟨hv.out, (took_deaf HT.out k1 (fun h => by have := h.2.1; rw [q2] at this; cases this)).symm⟩, (R4.out.ex ((Ex.refl _ _).cells _ _) zb).low (by omega)⟩, S4.out.put _⟩
    obtain ⟨v2, hk2⟩ : ∃ v, m.kn = v := ⟨_, rfl⟩
    have Hk2 : Hid (m.kn = v2) := hk2
    rw [hk2] at ka
    clear hk2
    cases v2
    · have HH : Hid (HearOk m p) := ⟨Or.inl Hk2.out, q2, K1.out.1 rfl⟩
      obtain ⟨iw, hiw, zv0, zv1, zv2⟩ := info_parts W.infoR
      have nbw := build0w
      have kpl := HP.out.l
      have zc : w2.heap.size < w3.heap.size := X4.out.l
      have EC : Hid (Ex w2.heap.size w3 ((w3.setCell ⟨w2.heap.size, 3, none⟩ (.bool true)).setCell ⟨w2.heap.size, 4, none⟩ (.int .i64 p.s))) := ((Ex.refl _ _).set 3 _).set 4 _
      have SCc : Hid (Sp w #[.string m.nm, .bool m.up, .int .i64 m.ck, .bool m.kn, .int .i64 m.se, .slice (some ⟨b1, 0, none⟩) m.ws.length m.ws.length, .slice (some ⟨b2, 0, none⟩) m.rs.length m.rs.length, .slice (some ⟨b3, 0, none⟩) m.qs.length m.qs.length, .slice (some ⟨b4, 0, none⟩) m.gs.length m.gs.length] #[.int .i64 p.k, .string p.b, .int .i64 p.s, .slice (some ⟨b5, 0, none⟩) p.ws.length p.ws.length, .string p.h, .string p.c, .int .i64 p.t] ((w3.setCell ⟨w2.heap.size, 3, none⟩ (.bool true)).setCell ⟨w2.heap.size, 4, none⟩ (.int .i64 p.s))) := S4.out.ex EC.out zw
      have zp : w.heap.size + 1 < w3.heap.size := by have := S4.out.f; omega
      have kpc := SCc.out.b2
      have kqc := SCc.out.c2
      go_wp2_with (first | (go_at_call 21; refine (specIn_any _ _ _ _).mono ?_; rintro e w' ⟨rfl, hw⟩; have hw2 := hw.symm; subst hw2; clear hw) | (at_builtin; refine Stop.out ?_))
      refine ⟨?_⟩
      obtain ⟨xc, hxc⟩ : ∃ x, x = ((w3.setCell ⟨w2.heap.size, 3, none⟩ (.bool true)).setCell ⟨w2.heap.size, 4, none⟩ (.int .i64 p.s)) := ⟨_, rfl⟩
      have SC : Hid (Sp w #[.string m.nm, .bool m.up, .int .i64 m.ck, .bool m.kn, .int .i64 m.se, .slice (some ⟨b1, 0, none⟩) m.ws.length m.ws.length, .slice (some ⟨b2, 0, none⟩) m.rs.length m.rs.length, .slice (some ⟨b3, 0, none⟩) m.qs.length m.qs.length, .slice (some ⟨b4, 0, none⟩) m.gs.length m.gs.length] #[.int .i64 p.k, .string p.b, .int .i64 p.s, .slice (some ⟨b5, 0, none⟩) p.ws.length p.ws.length, .string p.h, .string p.c, .int .i64 p.t] xc) := by rw [hxc]; exact S4.out.ex EC.out zw
      have RD : Hid (SlM xc m (.slice a1 m.ws.length p1) (.slice a2 m.rs.length p2) (.slice a3 m.qs.length p3) (.slice a4 m.gs.length p4) w1.heap.size) := by rw [hxc]; exact R4.out.exlt R2.out.lt EC.out
      have XD : Hid (Bx xc w2.heap.size #[.string m.nm, .bool true, .int .i64 m.ck, .bool true, .int .i64 p.s, .slice a1 m.ws.length p1, .slice a2 m.rs.length p2, .slice a3 m.qs.length p3, .slice a4 m.gs.length p4]) := by rw [hxc]; exact (X4.out.set 3 (by simp) _).set 4 (by simp) _
      have RC : Hid (W.RowsAt (xc.alloc (.cells #[] 57)) b5 0 p.ws) := (HR.out.keep l5 SC.out.e).keep (Nat.lt_of_lt_of_le l5 SC.out.e.size) (bl_alloc (Below.refl _ _) _)
      have zd : w2.heap.size < xc.heap.size := XD.out.l
      rw [← hxc]
      have hsz : xc.heap.size = w3.heap.size := by rw [hxc]; simp
      clear hxc EC SCc kpc kqc ka kf kp kq kx ky
      (refine wpList_append_own _ rfl (.tmp 55) (.tmp 57) 31 rfl xc.heap.size 57 iw _ 7 72 Tryz.underlying31 hiw zv0 zv1 zv2 rfl (by decide) (.slice (some ⟨xc.heap.size, 0, none⟩) 0 0) 0 [] (by first | rfl | simp [Act.eval, hsz]) (World.ownsRow_made xc #[] 0 (Nat.le_refl _) (Nat.zero_le _) rfl) ⟨b5, 0, none⟩ p.ws.length p.ws.length (W.flatR p.ws) rfl (W.flatR_len _) (W.flat_cells RC.out) (W.flatR_one _) (by unfold maxLen; omega) (by omega) (by simp) ?_; intro s5 w5 ho5 hg5 hn5)
      have V5 : Below xc.heap.size xc (xc.alloc (.cells #[] 57)) := bl_alloc (Below.refl _ _) _
      have B5 : Below xc.heap.size xc w5 := Below.grown V5 hg5 V5.size (fun j hj => by cases hj; exact Nat.le_refl _)
      have r5 : W.Sl w5 s5 p.ws xc.heap.size := W.Sl.of_owns (by simpa using ho5)
      obtain ⟨a5, p5, hs5⟩ := W.Sl.shape r5
      subst hs5
      have Q5 : Hid (W.Sl w5 (.slice a5 p.ws.length p5) p.ws xc.heap.size) := r5
      have S5 : Hid (Sp w #[.string m.nm, .bool m.up, .int .i64 m.ck, .bool m.kn, .int .i64 m.se, .slice (some ⟨b1, 0, none⟩) m.ws.length m.ws.length, .slice (some ⟨b2, 0, none⟩) m.rs.length m.rs.length, .slice (some ⟨b3, 0, none⟩) m.qs.length m.qs.length, .slice (some ⟨b4, 0, none⟩) m.gs.length m.gs.length] #[.int .i64 p.k, .string p.b, .int .i64 p.s, .slice (some ⟨b5, 0, none⟩) p.ws.length p.ws.length, .string p.h, .string p.c, .int .i64 p.t] w5) := SC.out.below B5
      have R5 : Hid (SlM w5 m (.slice a1 m.ws.length p1) (.slice a2 m.rs.length p2) (.slice a3 m.qs.length p3) (.slice a4 m.gs.length p4) w1.heap.size) := RD.out.keep B5
      have X5 : Hid (Bx w5 w2.heap.size #[.string m.nm, .bool true, .int .i64 m.ck, .bool true, .int .i64 p.s, .slice a1 m.ws.length p1, .slice a2 m.rs.length p2, .slice a3 m.qs.length p3, .slice a4 m.gs.length p4]) := XD.out.below B5
      clear ho5 hg5 hn5 V5 B5 r5 hsz
      have kx := X5.out.b
      have ky := X5.out.c
      have S7 : Hid (Sp w #[.string m.nm, .bool m.up, .int .i64 m.ck, .bool m.kn, .int .i64 m.se, .slice (some ⟨b1, 0, none⟩) m.ws.length m.ws.length, .slice (some ⟨b2, 0, none⟩) m.rs.length m.rs.length, .slice (some ⟨b3, 0, none⟩) m.qs.length m.qs.length, .slice (some ⟨b4, 0, none⟩) m.gs.length m.gs.length] #[.int .i64 p.k, .string p.b, .int .i64 p.s, .slice (some ⟨b5, 0, none⟩) p.ws.length p.ws.length, .string p.h, .string p.c, .int .i64 p.t] (w5.setCell ⟨w2.heap.size, 5, none⟩ (.slice a5 p.ws.length p5))) := S5.out.ex ((Ex.refl _ _).set 5 _) zw
      have R7 : Hid (SlM (w5.setCell ⟨w2.heap.size, 5, none⟩ (.slice a5 p.ws.length p5)) (⟨m.nm, true, m.ck, true, p.s, p.ws, m.rs, m.qs, m.gs⟩ : MateD) (.slice a5 p.ws.length p5) (.slice a2 m.rs.length p2) (.slice a3 m.qs.length p3) (.slice a4 m.gs.length p4) w1.heap.size) := slm_new1 R5.out Q5.out R2.out.lt zd (Nat.le_trans Z12.out (Nat.le_of_lt zd)) ((Ex.refl _ _).set 5 _)
      have ho := ones (⟨m.nm, true, m.ck, true, p.s, p.ws, m.rs, m.qs, m.gs⟩ : MateD) R7.out.a1 R7.out.a2 R7.out.a3 R7.out.a4
      go_wp2_with ((with_reducible show wpList _ _ _ [⟨_, Op.store 35 _ _, _, _, _, _⟩] _ _); refine Stop.out ?_)
      refine ⟨?_⟩
      (refine wpList_store_mid (by rfl) 35 _ _ (by rfl) (w.heap.size + 2) 0 #[.string m.nm, .bool true, .int .i64 m.ck, .bool true, .int .i64 p.s, .slice a5 p.ws.length p5, .slice a2 m.rs.length p2, .slice a3 m.qs.length p3, .slice a4 m.gs.length p4] (by rfl) (by rfl) (by exact S7.out.d) hinfo (by exact all_oneCell_toArray (ho)) ?_)
      go_wp2_with fail
      have hrg := World.rangeAt_setCells_same (w5.setCell ⟨w2.heap.size, 5, none⟩ (.slice a5 p.ws.length p5)) (w.heap.size + 2) 0 [.string m.nm, .bool true, .int .i64 m.ck, .bool true, .int .i64 p.s, .slice a5 p.ws.length p5, .slice a2 m.rs.length p2, .slice a3 m.qs.length p3, .slice a4 m.gs.length p4] S7.out.d
      have d0 := hrg 0 _ rfl
      have d1 := hrg 1 _ rfl
      have d2 := hrg 2 _ rfl
      have d3 := hrg 3 _ rfl
      have d4 := hrg 4 _ rfl
      have d5 := hrg 5 _ rfl
      have d6 := hrg 6 _ rfl
      have d7 := hrg 7 _ rfl
      have d8 := hrg 8 _ rfl
      simp only [Nat.zero_add] at d0 d1 d2 d3 d4 d5 d6 d7 d8
      exact bodyPost_ret (v := .agg #[.string m.nm, .bool true, .int .i64 m.ck, .bool true, .int .i64 p.s, .slice a5 p.ws.length p5, .slice a2 m.rs.length p2, .slice a3 m.qs.length p3, .slice a4 m.gs.length p4]) (by simp [results, Tryz.results6, go_sem, d0, d1, d2, d3, d4, d5, d6, d7, d8]) rfl ⟨⟨(⟨m.nm, true, m.ck, true, p.s, p.ws, m.rs, m.qs, m.gs⟩ : MateD), _, _, _, _, rfl, Or.inl ⟨hv.out, by rw [took_told HT.out k1 HH.out, Hu.out]⟩, (R7.out.ex ((Ex.refl _ _).cells _ _) zb).low (by omega)⟩, S7.out.put _⟩
    by_cases hs : m.se < p.s
    · have HH : Hid (HearOk m p) := ⟨Or.inr hs, q2, K1.out.1 rfl⟩
      obtain ⟨iw, hiw, zv0, zv1, zv2⟩ := info_parts W.infoR
      have nbw := build0w
      have kpl := HP.out.l
      have zc : w2.heap.size < w3.heap.size := X4.out.l
      have EC : Hid (Ex w2.heap.size w3 ((w3.setCell ⟨w2.heap.size, 3, none⟩ (.bool true)).setCell ⟨w2.heap.size, 4, none⟩ (.int .i64 p.s))) := ((Ex.refl _ _).set 3 _).set 4 _
      have SCc : Hid (Sp w #[.string m.nm, .bool m.up, .int .i64 m.ck, .bool m.kn, .int .i64 m.se, .slice (some ⟨b1, 0, none⟩) m.ws.length m.ws.length, .slice (some ⟨b2, 0, none⟩) m.rs.length m.rs.length, .slice (some ⟨b3, 0, none⟩) m.qs.length m.qs.length, .slice (some ⟨b4, 0, none⟩) m.gs.length m.gs.length] #[.int .i64 p.k, .string p.b, .int .i64 p.s, .slice (some ⟨b5, 0, none⟩) p.ws.length p.ws.length, .string p.h, .string p.c, .int .i64 p.t] ((w3.setCell ⟨w2.heap.size, 3, none⟩ (.bool true)).setCell ⟨w2.heap.size, 4, none⟩ (.int .i64 p.s))) := S4.out.ex EC.out zw
      have zp : w.heap.size + 1 < w3.heap.size := by have := S4.out.f; omega
      have kpc := SCc.out.b2
      have kqc := SCc.out.c2
      go_wp2_with (first | (go_at_call 21; refine (specIn_any _ _ _ _).mono ?_; rintro e w' ⟨rfl, hw⟩; have hw2 := hw.symm; subst hw2; clear hw) | (at_builtin; refine Stop.out ?_))
      refine ⟨?_⟩
      obtain ⟨xc, hxc⟩ : ∃ x, x = ((w3.setCell ⟨w2.heap.size, 3, none⟩ (.bool true)).setCell ⟨w2.heap.size, 4, none⟩ (.int .i64 p.s)) := ⟨_, rfl⟩
      have SC : Hid (Sp w #[.string m.nm, .bool m.up, .int .i64 m.ck, .bool m.kn, .int .i64 m.se, .slice (some ⟨b1, 0, none⟩) m.ws.length m.ws.length, .slice (some ⟨b2, 0, none⟩) m.rs.length m.rs.length, .slice (some ⟨b3, 0, none⟩) m.qs.length m.qs.length, .slice (some ⟨b4, 0, none⟩) m.gs.length m.gs.length] #[.int .i64 p.k, .string p.b, .int .i64 p.s, .slice (some ⟨b5, 0, none⟩) p.ws.length p.ws.length, .string p.h, .string p.c, .int .i64 p.t] xc) := by rw [hxc]; exact S4.out.ex EC.out zw
      have RD : Hid (SlM xc m (.slice a1 m.ws.length p1) (.slice a2 m.rs.length p2) (.slice a3 m.qs.length p3) (.slice a4 m.gs.length p4) w1.heap.size) := by rw [hxc]; exact R4.out.exlt R2.out.lt EC.out
      have XD : Hid (Bx xc w2.heap.size #[.string m.nm, .bool true, .int .i64 m.ck, .bool true, .int .i64 p.s, .slice a1 m.ws.length p1, .slice a2 m.rs.length p2, .slice a3 m.qs.length p3, .slice a4 m.gs.length p4]) := by rw [hxc]; exact (X4.out.set 3 (by simp) _).set 4 (by simp) _
      have RC : Hid (W.RowsAt (xc.alloc (.cells #[] 57)) b5 0 p.ws) := (HR.out.keep l5 SC.out.e).keep (Nat.lt_of_lt_of_le l5 SC.out.e.size) (bl_alloc (Below.refl _ _) _)
      have zd : w2.heap.size < xc.heap.size := XD.out.l
      rw [← hxc]
      have hsz : xc.heap.size = w3.heap.size := by rw [hxc]; simp
      clear hxc EC SCc kpc kqc ka kf kp kq kx ky
      (refine wpList_append_own _ rfl (.tmp 55) (.tmp 57) 31 rfl xc.heap.size 57 iw _ 7 72 Tryz.underlying31 hiw zv0 zv1 zv2 rfl (by decide) (.slice (some ⟨xc.heap.size, 0, none⟩) 0 0) 0 [] (by first | rfl | simp [Act.eval, hsz]) (World.ownsRow_made xc #[] 0 (Nat.le_refl _) (Nat.zero_le _) rfl) ⟨b5, 0, none⟩ p.ws.length p.ws.length (W.flatR p.ws) rfl (W.flatR_len _) (W.flat_cells RC.out) (W.flatR_one _) (by unfold maxLen; omega) (by omega) (by simp) ?_; intro s5 w5 ho5 hg5 hn5)
      have V5 : Below xc.heap.size xc (xc.alloc (.cells #[] 57)) := bl_alloc (Below.refl _ _) _
      have B5 : Below xc.heap.size xc w5 := Below.grown V5 hg5 V5.size (fun j hj => by cases hj; exact Nat.le_refl _)
      have r5 : W.Sl w5 s5 p.ws xc.heap.size := W.Sl.of_owns (by simpa using ho5)
      obtain ⟨a5, p5, hs5⟩ := W.Sl.shape r5
      subst hs5
      have Q5 : Hid (W.Sl w5 (.slice a5 p.ws.length p5) p.ws xc.heap.size) := r5
      have S5 : Hid (Sp w #[.string m.nm, .bool m.up, .int .i64 m.ck, .bool m.kn, .int .i64 m.se, .slice (some ⟨b1, 0, none⟩) m.ws.length m.ws.length, .slice (some ⟨b2, 0, none⟩) m.rs.length m.rs.length, .slice (some ⟨b3, 0, none⟩) m.qs.length m.qs.length, .slice (some ⟨b4, 0, none⟩) m.gs.length m.gs.length] #[.int .i64 p.k, .string p.b, .int .i64 p.s, .slice (some ⟨b5, 0, none⟩) p.ws.length p.ws.length, .string p.h, .string p.c, .int .i64 p.t] w5) := SC.out.below B5
      have R5 : Hid (SlM w5 m (.slice a1 m.ws.length p1) (.slice a2 m.rs.length p2) (.slice a3 m.qs.length p3) (.slice a4 m.gs.length p4) w1.heap.size) := RD.out.keep B5
      have X5 : Hid (Bx w5 w2.heap.size #[.string m.nm, .bool true, .int .i64 m.ck, .bool true, .int .i64 p.s, .slice a1 m.ws.length p1, .slice a2 m.rs.length p2, .slice a3 m.qs.length p3, .slice a4 m.gs.length p4]) := XD.out.below B5
      clear ho5 hg5 hn5 V5 B5 r5 hsz
      have kx := X5.out.b
      have ky := X5.out.c
      have S7 : Hid (Sp w #[.string m.nm, .bool m.up, .int .i64 m.ck, .bool m.kn, .int .i64 m.se, .slice (some ⟨b1, 0, none⟩) m.ws.length m.ws.length, .slice (some ⟨b2, 0, none⟩) m.rs.length m.rs.length, .slice (some ⟨b3, 0, none⟩) m.qs.length m.qs.length, .slice (some ⟨b4, 0, none⟩) m.gs.length m.gs.length] #[.int .i64 p.k, .string p.b, .int .i64 p.s, .slice (some ⟨b5, 0, none⟩) p.ws.length p.ws.length, .string p.h, .string p.c, .int .i64 p.t] (w5.setCell ⟨w2.heap.size, 5, none⟩ (.slice a5 p.ws.length p5))) := S5.out.ex ((Ex.refl _ _).set 5 _) zw
      have R7 : Hid (SlM (w5.setCell ⟨w2.heap.size, 5, none⟩ (.slice a5 p.ws.length p5)) (⟨m.nm, true, m.ck, true, p.s, p.ws, m.rs, m.qs, m.gs⟩ : MateD) (.slice a5 p.ws.length p5) (.slice a2 m.rs.length p2) (.slice a3 m.qs.length p3) (.slice a4 m.gs.length p4) w1.heap.size) := slm_new1 R5.out Q5.out R2.out.lt zd (Nat.le_trans Z12.out (Nat.le_of_lt zd)) ((Ex.refl _ _).set 5 _)
      have ho := ones (⟨m.nm, true, m.ck, true, p.s, p.ws, m.rs, m.qs, m.gs⟩ : MateD) R7.out.a1 R7.out.a2 R7.out.a3 R7.out.a4
      go_wp2_with ((with_reducible show wpList _ _ _ [⟨_, Op.store 35 _ _, _, _, _, _⟩] _ _); refine Stop.out ?_)
      refine ⟨?_⟩
      (refine wpList_store_mid (by rfl) 35 _ _ (by rfl) (w.heap.size + 2) 0 #[.string m.nm, .bool true, .int .i64 m.ck, .bool true, .int .i64 p.s, .slice a5 p.ws.length p5, .slice a2 m.rs.length p2, .slice a3 m.qs.length p3, .slice a4 m.gs.length p4] (by rfl) (by rfl) (by exact S7.out.d) hinfo (by exact all_oneCell_toArray (ho)) ?_)
      go_wp2_with fail
      have hrg := World.rangeAt_setCells_same (w5.setCell ⟨w2.heap.size, 5, none⟩ (.slice a5 p.ws.length p5)) (w.heap.size + 2) 0 [.string m.nm, .bool true, .int .i64 m.ck, .bool true, .int .i64 p.s, .slice a5 p.ws.length p5, .slice a2 m.rs.length p2, .slice a3 m.qs.length p3, .slice a4 m.gs.length p4] S7.out.d
      have d0 := hrg 0 _ rfl
      have d1 := hrg 1 _ rfl
      have d2 := hrg 2 _ rfl
      have d3 := hrg 3 _ rfl
      have d4 := hrg 4 _ rfl
      have d5 := hrg 5 _ rfl
      have d6 := hrg 6 _ rfl
      have d7 := hrg 7 _ rfl
      have d8 := hrg 8 _ rfl
      simp only [Nat.zero_add] at d0 d1 d2 d3 d4 d5 d6 d7 d8
      exact bodyPost_ret (v := .agg #[.string m.nm, .bool true, .int .i64 m.ck, .bool true, .int .i64 p.s, .slice a5 p.ws.length p5, .slice a2 m.rs.length p2, .slice a3 m.qs.length p3, .slice a4 m.gs.length p4]) (by simp [results, Tryz.results6, go_sem, d0, d1, d2, d3, d4, d5, d6, d7, d8]) rfl ⟨⟨(⟨m.nm, true, m.ck, true, p.s, p.ws, m.rs, m.qs, m.gs⟩ : MateD), _, _, _, _, rfl, Or.inl ⟨hv.out, by rw [took_told HT.out k1 HH.out, Hu.out]⟩, (R7.out.ex ((Ex.refl _ _).cells _ _) zb).low (by omega)⟩, S7.out.put _⟩
    have ho := ones m R4.out.a1 R4.out.a2 R4.out.a3 R4.out.a4
    rw [Hu.out] at ho
    go_wp2_with (first | (go_at_call 21; refine (specIn_any _ _ _ _).mono ?_; rintro e w' ⟨rfl, hw⟩; have hw2 := hw.symm; subst hw2; clear hw) | ((with_reducible show wpList _ _ _ [⟨_, Op.store 35 _ _, _, _, _, _⟩] _ _); refine Stop.out ?_))
    refine ⟨?_⟩
    (refine wpList_store_mid (by rfl) 35 _ _ (by rfl) (w.heap.size + 2) 0 #[.string m.nm, .bool true, .int .i64 m.ck, .bool m.kn, .int .i64 m.se, .slice a1 m.ws.length p1, .slice a2 m.rs.length p2, .slice a3 m.qs.length p3, .slice a4 m.gs.length p4] (by rfl) (by rfl) (by exact S4.out.d) hinfo (by exact all_oneCell_toArray (ho)) ?_)
    go_wp2_with fail
    have hrg := World.rangeAt_setCells_same w3 (w.heap.size + 2) 0 [.string m.nm, .bool true, .int .i64 m.ck, .bool m.kn, .int .i64 m.se, .slice a1 m.ws.length p1, .slice a2 m.rs.length p2, .slice a3 m.qs.length p3, .slice a4 m.gs.length p4] S4.out.d
    have d0 := hrg 0 _ rfl
    have d1 := hrg 1 _ rfl
    have d2 := hrg 2 _ rfl
    have d3 := hrg 3 _ rfl
    have d4 := hrg 4 _ rfl
    have d5 := hrg 5 _ rfl
    have d6 := hrg 6 _ rfl
    have d7 := hrg 7 _ rfl
    have d8 := hrg 8 _ rfl
    simp only [Nat.zero_add] at d0 d1 d2 d3 d4 d5 d6 d7 d8
    exact bodyPost_ret (v := .agg #[.string m.nm, .bool true, .int .i64 m.ck, .bool m.kn, .int .i64 m.se, .slice a1 m.ws.length p1, .slice a2 m.rs.length p2, .slice a3 m.qs.length p3, .slice a4 m.gs.length p4]) (by simp [results, Tryz.results6, go_sem, d0, d1, d2, d3, d4, d5, d6, d7, d8]) rfl ⟨⟨m, _, _, _, _, by rw [Hu.out], Or.inl ⟨hv.out, (took_deaf HT.out k1 (fun h => by rcases h.1 with h | h; (rw [Hk2.out] at h; cases h); omega)).symm⟩, (R4.out.ex ((Ex.refl _ _).cells _ _) zb).low (by omega)⟩, S4.out.put _⟩
  by_cases k3 : p.k = 3
  · rw [k3] at kp
    go_wp2_with fail
    have F := A.specAsk_x b3 0 m.qs.length m.qs p.h (w2.alloc (.cells #[.string m.nm, .bool true, .int .i64 m.ck, .bool m.kn, .int .i64 m.se, .slice a1 m.ws.length p1, .slice a2 m.rs.length p2, .slice a3 m.qs.length p3, .slice a4 m.gs.length p4] 35)) (hL.keep S3.out.e).r3 (hL.keep S3.out.e).l3 hf.k3
    refine F.mono ?_
    clear F
    rintro e w3 ⟨rfl, hw3⟩
    have S4 : Hid (Sp w #[.string m.nm, .bool m.up, .int .i64 m.ck, .bool m.kn, .int .i64 m.se, .slice (some ⟨b1, 0, none⟩) m.ws.length m.ws.length, .slice (some ⟨b2, 0, none⟩) m.rs.length m.rs.length, .slice (some ⟨b3, 0, none⟩) m.qs.length m.qs.length, .slice (some ⟨b4, 0, none⟩) m.gs.length m.gs.length] #[.int .i64 p.k, .string p.b, .int .i64 p.s, .slice (some ⟨b5, 0, none⟩) p.ws.length p.ws.length, .string p.h, .string p.c, .int .i64 p.t] w3) := by rw [hw3]; exact S3.out
    have R4 : Hid (SlM w3 m (.slice a1 m.ws.length p1) (.slice a2 m.rs.length p2) (.slice a3 m.qs.length p3) (.slice a4 m.gs.length p4) w1.heap.size) := by rw [hw3]; exact R3.out
    have X4 : Hid (Bx w3 w2.heap.size #[.string m.nm, .bool true, .int .i64 m.ck, .bool m.kn, .int .i64 m.se, .slice a1 m.ws.length p1, .slice a2 m.rs.length p2, .slice a3 m.qs.length p3, .slice a4 m.gs.length p4]) := by rw [hw3]; exact bx_new _ _ _
    have L4 : Hid (Lists w3 m b1 b2 b3 b4) := hL.keep S4.out.e
    have Z4 : Hid (SrtM m) := valid_srt hv.out
    clear hw3 S3 R3 ka kf kp kq
    have ka := S4.out.b
    have kf := S4.out.c
    have kp := S4.out.b2
    have kq := S4.out.c2
    rw [Hu.out] at ka
    have kx := X4.out.b
    have ky := X4.out.c
    rw [k3] at kp
    rcases A.ask_cases m.qs p.h with ⟨ha, hn⟩ | ⟨k, a, ha, hk, he⟩
    · have Hn : Hid _ := hn
      clear hn
      rw [ha]
      go_wp2_with fail
      go_quiet (fail)
      obtain ⟨x4, hx4⟩ : ∃ x, x = w3.drewN nq := ⟨_, rfl⟩
      have BQ : Below w3.heap.size w3 x4 := by rw [hx4]; exact bl_dn3 (Below.refl _ _)
      have S5 : Hid (Sp w #[.string m.nm, .bool m.up, .int .i64 m.ck, .bool m.kn, .int .i64 m.se, .slice (some ⟨b1, 0, none⟩) m.ws.length m.ws.length, .slice (some ⟨b2, 0, none⟩) m.rs.length m.rs.length, .slice (some ⟨b3, 0, none⟩) m.qs.length m.qs.length, .slice (some ⟨b4, 0, none⟩) m.gs.length m.gs.length] #[.int .i64 p.k, .string p.b, .int .i64 p.s, .slice (some ⟨b5, 0, none⟩) p.ws.length p.ws.length, .string p.h, .string p.c, .int .i64 p.t] x4) := S4.out.below BQ
      have R5 : Hid (SlM x4 m (.slice a1 m.ws.length p1) (.slice a2 m.rs.length p2) (.slice a3 m.qs.length p3) (.slice a4 m.gs.length p4) w1.heap.size) := R4.out.keep BQ
      have X5 : Hid (Bx x4 w2.heap.size #[.string m.nm, .bool true, .int .i64 m.ck, .bool m.kn, .int .i64 m.se, .slice a1 m.ws.length p1, .slice a2 m.rs.length p2, .slice a3 m.qs.length p3, .slice a4 m.gs.length p4]) := X4.out.below BQ
      have L5 : Hid (Lists x4 m b1 b2 b3 b4) := hL.keep S5.out.e
      rw [← hx4]
      clear hx4 BQ ka kf kp kq kx ky S4 R4 X4 L4
      have ka := S5.out.b
      have kf := S5.out.c
      have kp := S5.out.b2
      have kq := S5.out.c2
      rw [Hu.out] at ka
      have kx := X5.out.b
      have ky := X5.out.c
      have ho := ones m R5.out.a1 R5.out.a2 R5.out.a3 R5.out.a4
      rw [Hu.out] at ho
      go_wp2_with ((with_reducible show wpList _ _ _ [⟨_, Op.store 35 _ _, _, _, _, _⟩] _ _); refine Stop.out ?_)
      refine ⟨?_⟩
      (refine wpList_store_mid (by rfl) 35 _ _ (by rfl) (w.heap.size + 2) 0 #[.string m.nm, .bool true, .int .i64 m.ck, .bool m.kn, .int .i64 m.se, .slice a1 m.ws.length p1, .slice a2 m.rs.length p2, .slice a3 m.qs.length p3, .slice a4 m.gs.length p4] (by rfl) (by rfl) (by exact S5.out.d) hinfo (by exact all_oneCell_toArray (ho)) ?_)
      go_wp2_with fail
      have hrg := World.rangeAt_setCells_same x4 (w.heap.size + 2) 0 [.string m.nm, .bool true, .int .i64 m.ck, .bool m.kn, .int .i64 m.se, .slice a1 m.ws.length p1, .slice a2 m.rs.length p2, .slice a3 m.qs.length p3, .slice a4 m.gs.length p4] S5.out.d
      have d0 := hrg 0 _ rfl
      have d1 := hrg 1 _ rfl
      have d2 := hrg 2 _ rfl
      have d3 := hrg 3 _ rfl
      have d4 := hrg 4 _ rfl
      have d5 := hrg 5 _ rfl
      have d6 := hrg 6 _ rfl
      have d7 := hrg 7 _ rfl
      have d8 := hrg 8 _ rfl
      simp only [Nat.zero_add] at d0 d1 d2 d3 d4 d5 d6 d7 d8
      exact bodyPost_ret (v := .agg #[.string m.nm, .bool true, .int .i64 m.ck, .bool m.kn, .int .i64 m.se, .slice a1 m.ws.length p1, .slice a2 m.rs.length p2, .slice a3 m.qs.length p3, .slice a4 m.gs.length p4]) (by simp [results, Tryz.results6, go_sem, d0, d1, d2, d3, d4, d5, d6, d7, d8]) rfl ⟨⟨m, _, _, _, _, by rw [Hu.out], Or.inl ⟨hv.out, by rw [took_given HT.out k3, prolR_no (fun ⟨a, h1, h2, _⟩ => Hn.out a h1 h2)]⟩, (R5.out.ex ((Ex.refl _ _).cells _ _) zb).low (by omega)⟩, S5.out.put _⟩
    rw [ha]
    have Hk : Hid (m.qs[k]? = some a) := hk
    have He : Hid (a.h = p.h) := he
    have klt : k < m.qs.length := (List.getElem?_eq_some_iff.1 hk).1
    have kle := hf.k3
    obtain ⟨c0, c1, c2, c3⟩ := L4.out.r3.at hk
    simp only [Nat.zero_add] at c0 c1 c2 c3
    have i0 : (0 : Int) ≤ (k : Int) := by omega
    have i1 : (k : Int) < (m.qs.length : Int) := by omega
    clear hk he ha
    cases hcc : (a.c.toList == p.c.toList)
    · have hcc2 : ¬ a.c.toList = p.c.toList := by simpa using hcc
      have Hcc : Hid (¬ a.c.toList = p.c.toList) := hcc2
      clear hcc2
      go_wp2_with fail
      have i2 : ((k : Int) < 0) = False := by simp
      go_big_quiet ((go_at_call 21; refine Calls.quiet_of_same (specIn_any _ _ _ _)))
      obtain ⟨x4, hx4⟩ : ∃ x, x = w3.drewN nq := ⟨_, rfl⟩
      have BQ : Below w3.heap.size w3 x4 := by rw [hx4]; exact bl_dn3 (Below.refl _ _)
      have S5 : Hid (Sp w #[.string m.nm, .bool m.up, .int .i64 m.ck, .bool m.kn, .int .i64 m.se, .slice (some ⟨b1, 0, none⟩) m.ws.length m.ws.length, .slice (some ⟨b2, 0, none⟩) m.rs.length m.rs.length, .slice (some ⟨b3, 0, none⟩) m.qs.length m.qs.length, .slice (some ⟨b4, 0, none⟩) m.gs.length m.gs.length] #[.int .i64 p.k, .string p.b, .int .i64 p.s, .slice (some ⟨b5, 0, none⟩) p.ws.length p.ws.length, .string p.h, .string p.c, .int .i64 p.t] x4) := S4.out.below BQ
      have R5 : Hid (SlM x4 m (.slice a1 m.ws.length p1) (.slice a2 m.rs.length p2) (.slice a3 m.qs.length p3) (.slice a4 m.gs.length p4) w1.heap.size) := R4.out.keep BQ
      have X5 : Hid (Bx x4 w2.heap.size #[.string m.nm, .bool true, .int .i64 m.ck, .bool m.kn, .int .i64 m.se, .slice a1 m.ws.length p1, .slice a2 m.rs.length p2, .slice a3 m.qs.length p3, .slice a4 m.gs.length p4]) := X4.out.below BQ
      have L5 : Hid (Lists x4 m b1 b2 b3 b4) := hL.keep S5.out.e
      rw [← hx4]
      clear hx4 BQ ka kf kp kq kx ky S4 R4 X4 L4 i2
      have ka := S5.out.b
      have kf := S5.out.c
      have kp := S5.out.b2
      have kq := S5.out.c2
      rw [Hu.out] at ka
      have kx := X5.out.b
      have ky := X5.out.c
      have ho := ones m R5.out.a1 R5.out.a2 R5.out.a3 R5.out.a4
      rw [Hu.out] at ho
      go_wp2_with ((with_reducible show wpList _ _ _ [⟨_, Op.store 35 _ _, _, _, _, _⟩] _ _); refine Stop.out ?_)
      refine ⟨?_⟩
      (refine wpList_store_mid (by rfl) 35 _ _ (by rfl) (w.heap.size + 2) 0 #[.string m.nm, .bool true, .int .i64 m.ck, .bool m.kn, .int .i64 m.se, .slice a1 m.ws.length p1, .slice a2 m.rs.length p2, .slice a3 m.qs.length p3, .slice a4 m.gs.length p4] (by rfl) (by rfl) (by exact S5.out.d) hinfo (by exact all_oneCell_toArray (ho)) ?_)
      go_wp2_with fail
      have hrg := World.rangeAt_setCells_same x4 (w.heap.size + 2) 0 [.string m.nm, .bool true, .int .i64 m.ck, .bool m.kn, .int .i64 m.se, .slice a1 m.ws.length p1, .slice a2 m.rs.length p2, .slice a3 m.qs.length p3, .slice a4 m.gs.length p4] S5.out.d
      have d0 := hrg 0 _ rfl
      have d1 := hrg 1 _ rfl
      have d2 := hrg 2 _ rfl
      have d3 := hrg 3 _ rfl
      have d4 := hrg 4 _ rfl
      have d5 := hrg 5 _ rfl
      have d6 := hrg 6 _ rfl
      have d7 := hrg 7 _ rfl
      have d8 := hrg 8 _ rfl
      simp only [Nat.zero_add] at d0 d1 d2 d3 d4 d5 d6 d7 d8
      exact bodyPost_ret (v := .agg #[.string m.nm, .bool true, .int .i64 m.ck, .bool m.kn, .int .i64 m.se, .slice a1 m.ws.length p1, .slice a2 m.rs.length p2, .slice a3 m.qs.length p3, .slice a4 m.gs.length p4]) (by simp [results, Tryz.results6, go_sem, d0, d1, d2, d3, d4, d5, d6, d7, d8]) rfl ⟨⟨m, _, _, _, _, by rw [Hu.out], Or.inl ⟨hv.out, by rw [took_given HT.out k3, prolR_no (fun h => Hcc.out ((lease_iff Z4.out.s3 (List.mem_of_getElem? Hk.out)).1 (by rw [He.out]; exact h)).1)]⟩, (R5.out.ex ((Ex.refl _ _).cells _ _) zb).low (by omega)⟩, S5.out.put _⟩
    cases hin : inB p.t a.f a.t
    · have Hin : Hid (inB p.t a.f a.t = false) := hin
      go_wp2_with fail
      have i2 : ((k : Int) < 0) = False := by simp
      go_big_quiet ((go_at_call 21; refine Calls.quiet_of_same (specIn_any _ _ _ _)))
      obtain ⟨x4, hx4⟩ : ∃ x, x = w3.drewN nq := ⟨_, rfl⟩
      have BQ : Below w3.heap.size w3 x4 := by rw [hx4]; exact bl_dn3 (Below.refl _ _)
      have S5 : Hid (Sp w #[.string m.nm, .bool m.up, .int .i64 m.ck, .bool m.kn, .int .i64 m.se, .slice (some ⟨b1, 0, none⟩) m.ws.length m.ws.length, .slice (some ⟨b2, 0, none⟩) m.rs.length m.rs.length, .slice (some ⟨b3, 0, none⟩) m.qs.length m.qs.length, .slice (some ⟨b4, 0, none⟩) m.gs.length m.gs.length] #[.int .i64 p.k, .string p.b, .int .i64 p.s, .slice (some ⟨b5, 0, none⟩) p.ws.length p.ws.length, .string p.h, .string p.c, .int .i64 p.t] x4) := S4.out.below BQ
      have R5 : Hid (SlM x4 m (.slice a1 m.ws.length p1) (.slice a2 m.rs.length p2) (.slice a3 m.qs.length p3) (.slice a4 m.gs.length p4) w1.heap.size) := R4.out.keep BQ
      have X5 : Hid (Bx x4 w2.heap.size #[.string m.nm, .bool true, .int .i64 m.ck, .bool m.kn, .int .i64 m.se, .slice a1 m.ws.length p1, .slice a2 m.rs.length p2, .slice a3 m.qs.length p3, .slice a4 m.gs.length p4]) := X4.out.below BQ
      have L5 : Hid (Lists x4 m b1 b2 b3 b4) := hL.keep S5.out.e
      rw [← hx4]
      clear hx4 BQ ka kf kp kq kx ky S4 R4 X4 L4 i2
      have ka := S5.out.b
      have kf := S5.out.c
      have kp := S5.out.b2
      have kq := S5.out.c2
      rw [Hu.out] at ka
      have kx := X5.out.b
      have ky := X5.out.c
      have ho := ones m R5.out.a1 R5.out.a2 R5.out.a3 R5.out.a4
      rw [Hu.out] at ho
      go_wp2_with ((with_reducible show wpList _ _ _ [⟨_, Op.store 35 _ _, _, _, _, _⟩] _ _); refine Stop.out ?_)
      refine ⟨?_⟩
      (refine wpList_store_mid (by rfl) 35 _ _ (by rfl) (w.heap.size + 2) 0 #[.string m.nm, .bool true, .int .i64 m.ck, .bool m.kn, .int .i64 m.se, .slice a1 m.ws.length p1, .slice a2 m.rs.length p2, .slice a3 m.qs.length p3, .slice a4 m.gs.length p4] (by rfl) (by rfl) (by exact S5.out.d) hinfo (by exact all_oneCell_toArray (ho)) ?_)
      go_wp2_with fail
      have hrg := World.rangeAt_setCells_same x4 (w.heap.size + 2) 0 [.string m.nm, .bool true, .int .i64 m.ck, .bool m.kn, .int .i64 m.se, .slice a1 m.ws.length p1, .slice a2 m.rs.length p2, .slice a3 m.qs.length p3, .slice a4 m.gs.length p4] S5.out.d
      have d0 := hrg 0 _ rfl
      have d1 := hrg 1 _ rfl
      have d2 := hrg 2 _ rfl
      have d3 := hrg 3 _ rfl
      have d4 := hrg 4 _ rfl
      have d5 := hrg 5 _ rfl
      have d6 := hrg 6 _ rfl
      have d7 := hrg 7 _ rfl
      have d8 := hrg 8 _ rfl
      simp only [Nat.zero_add] at d0 d1 d2 d3 d4 d5 d6 d7 d8
      exact bodyPost_ret (v := .agg #[.string m.nm, .bool true, .int .i64 m.ck, .bool m.kn, .int .i64 m.se, .slice a1 m.ws.length p1, .slice a2 m.rs.length p2, .slice a3 m.qs.length p3, .slice a4 m.gs.length p4]) (by simp [results, Tryz.results6, go_sem, d0, d1, d2, d3, d4, d5, d6, d7, d8]) rfl ⟨⟨m, _, _, _, _, by rw [Hu.out], Or.inl ⟨hv.out, by rw [took_given HT.out k3, prolR_no (fun h => by have := ((lease_iff Z4.out.s3 (List.mem_of_getElem? Hk.out)).1 (by rw [He.out]; exact h)).2; rw [Hin.out] at this; cases this)]⟩, (R5.out.ex ((Ex.refl _ _).cells _ _) zb).low (by omega)⟩, S5.out.put _⟩
    have HY : Hid (LeaseOk m.qs p.h p.c p.t) := by rw [← He.out]; exact (lease_iff Z4.out.s3 (List.mem_of_getElem? Hk.out)).2 ⟨by simpa using hcc, hin⟩
    have Hva : Hid (0 ≤ a.f ∧ a.t ≤ 1000000) := valid_ask hv.out a (List.mem_of_getElem? Hk.out)
    have Hin : Hid (inB p.t a.f a.t = true) := hin
    go_wp2_with fail
    have i2 : ((k : Int) < 0) = False := by simp
    go_big_quiet ((go_at_call 21; refine Calls.quiet_of_same (specIn_any _ _ _ _)))
    obtain ⟨x4, hx4⟩ : ∃ x, x = w3.drewN nq := ⟨_, rfl⟩
    have BQ : Below w3.heap.size w3 x4 := by rw [hx4]; exact bl_dn3 (Below.refl _ _)
    have S5 : Hid (Sp w #[.string m.nm, .bool m.up, .int .i64 m.ck, .bool m.kn, .int .i64 m.se, .slice (some ⟨b1, 0, none⟩) m.ws.length m.ws.length, .slice (some ⟨b2, 0, none⟩) m.rs.length m.rs.length, .slice (some ⟨b3, 0, none⟩) m.qs.length m.qs.length, .slice (some ⟨b4, 0, none⟩) m.gs.length m.gs.length] #[.int .i64 p.k, .string p.b, .int .i64 p.s, .slice (some ⟨b5, 0, none⟩) p.ws.length p.ws.length, .string p.h, .string p.c, .int .i64 p.t] x4) := S4.out.below BQ
    have R5 : Hid (SlM x4 m (.slice a1 m.ws.length p1) (.slice a2 m.rs.length p2) (.slice a3 m.qs.length p3) (.slice a4 m.gs.length p4) w1.heap.size) := R4.out.keep BQ
    have X5 : Hid (Bx x4 w2.heap.size #[.string m.nm, .bool true, .int .i64 m.ck, .bool m.kn, .int .i64 m.se, .slice a1 m.ws.length p1, .slice a2 m.rs.length p2, .slice a3 m.qs.length p3, .slice a4 m.gs.length p4]) := X4.out.below BQ
    have L5 : Hid (Lists x4 m b1 b2 b3 b4) := hL.keep S5.out.e
    rw [← hx4]
    clear hx4 BQ ka kf kp kq kx ky S4 R4 X4 L4 i2
    have ka := S5.out.b
    have kf := S5.out.c
    have kp := S5.out.b2
    have kq := S5.out.c2
    rw [Hu.out] at ka
    have kx := X5.out.b
    have ky := X5.out.c
    have hpt : 0 ≤ p.t ∧ p.t ≤ 1000000 := by
      have h1 := Hin.out
      have h2 := Hva.out
      simp only [inB, Bool.and_eq_true, decide_eq_true_eq] at h1
      omega
    obtain ⟨hp0, hp1⟩ := hpt
    clear c0 c1 c2 c3 i0 i1 klt kle hcc hin Hin Hva
    go_wp2_with fail
    have R6 : Hid (SlM x4 (⟨m.nm, true, m.ck, m.kn, m.se, m.ws, bumpK p.h p.c p.t 0 m.rs, m.qs, m.gs⟩ : MateD) (.slice a1 m.ws.length p1) (.slice a2 m.rs.length p2) (.slice a3 m.qs.length p3) (.slice a4 m.gs.length p4) w1.heap.size) := by
      have := R5.out
      rw [bumpK_zero]
      obtain ⟨q1, q2, q3, q4, q5, q6, q7, q8, q9, q10⟩ := this
      exact ⟨q1, q2, q3, q4, q5, q6, q7, q8, q9, q10⟩
    clear ka kf kp kq kx ky
    go_loopw [7] (fun i wx => ∃ (k : Nat), k ≤ m.rs.length ∧ i = .int .i64 k ∧ Sp w #[.string m.nm, .bool m.up, .int .i64 m.ck, .bool m.kn, .int .i64 m.se, .slice (some ⟨b1, 0, none⟩) m.ws.length m.ws.length, .slice (some ⟨b2, 0, none⟩) m.rs.length m.rs.length, .slice (some ⟨b3, 0, none⟩) m.qs.length m.qs.length, .slice (some ⟨b4, 0, none⟩) m.gs.length m.gs.length] #[.int .i64 p.k, .string p.b, .int .i64 p.s, .slice (some ⟨b5, 0, none⟩) p.ws.length p.ws.length, .string p.h, .string p.c, .int .i64 p.t] wx ∧ Bx wx w2.heap.size #[.string m.nm, .bool true, .int .i64 m.ck, .bool m.kn, .int .i64 m.se, .slice a1 m.ws.length p1, .slice a2 m.rs.length p2, .slice a3 m.qs.length p3, .slice a4 m.gs.length p4] ∧ SlM wx (⟨m.nm, true, m.ck, m.kn, m.se, m.ws, bumpK p.h p.c p.t k m.rs, m.qs, m.gs⟩ : MateD) (.slice a1 m.ws.length p1) (.slice a2 m.rs.length p2) (.slice a3 m.qs.length p3) (.slice a4 m.gs.length p4) w1.heap.size) (fun i _ => m.rs.length - (intOf i).toNat)
    case atStart => exact ⟨0, Nat.zero_le _, rfl, S5.out, X5.out, R6.out⟩
    case round =>
      obtain ⟨k, hk, rfl, hS, hX, hR⟩ := hrel
      have Sk : Hid (Sp w #[.string m.nm, .bool m.up, .int .i64 m.ck, .bool m.kn, .int .i64 m.se, .slice (some ⟨b1, 0, none⟩) m.ws.length m.ws.length, .slice (some ⟨b2, 0, none⟩) m.rs.length m.rs.length, .slice (some ⟨b3, 0, none⟩) m.qs.length m.qs.length, .slice (some ⟨b4, 0, none⟩) m.gs.length m.gs.length] #[.int .i64 p.k, .string p.b, .int .i64 p.s, .slice (some ⟨b5, 0, none⟩) p.ws.length p.ws.length, .string p.h, .string p.c, .int .i64 p.t] wr) := hS
      have Xk : Hid (Bx wr w2.heap.size #[.string m.nm, .bool true, .int .i64 m.ck, .bool m.kn, .int .i64 m.se, .slice a1 m.ws.length p1, .slice a2 m.rs.length p2, .slice a3 m.qs.length p3, .slice a4 m.gs.length p4]) := hX
      have Rk : Hid (SlM wr (⟨m.nm, true, m.ck, m.kn, m.se, m.ws, bumpK p.h p.c p.t k m.rs, m.qs, m.gs⟩ : MateD) (.slice a1 m.ws.length p1) (.slice a2 m.rs.length p2) (.slice a3 m.qs.length p3) (.slice a4 m.gs.length p4) w1.heap.size) := hR
      clear hS hX hR
      have kp := Sk.out.b2
      have kq := Sk.out.c2
      have kx := Xk.out.b
      have ky := Xk.out.c
      have kz := Xk.out.l
      have kw2 := Sk.out.f
      have kw1 : w.heap.size + 1 < wr.heap.size := by omega
      rw [k3] at kp
      by_cases hlt : k < m.rs.length
      · obtain ⟨r, hr⟩ : ∃ r, m.rs[k]? = some r := ⟨m.rs[k], List.getElem?_eq_getElem hlt⟩
        have Hr : Hid (m.rs[k]? = some r) := hr
        obtain ⟨g, hg, hgz, hc, hfz⟩ := sl_row Rk.out.a2 (bumpK_at hr)
        subst hg
        obtain ⟨c0, c1, c2, c3, c4, c5, c6, c7, c8, c9, c10⟩ := hc
        have f10 := hfz 10 (by omega)
        have klen := hf.k2
        clear hr hfz
        have hgk : g < w2.heap.size := R2.out.lt g (Or.inr (Or.inl rfl))
        have Hgk : Hid (g < w2.heap.size) := hgk
        cases hh : (r.h.toList == p.h.toList)
        · go_wp2_with fail
          refine ⟨⟨k + 1, by omega, by go_num, Sk.out.below (by repeat (first | exact Below.refl _ _ | with_reducible refine bl_drew ?_ | refine bl_alloc ?_ _)), Xk.out.below (by repeat (first | exact Below.refl _ _ | with_reducible refine bl_drew ?_ | refine bl_alloc ?_ _)), ?_⟩, by simp [intOf]; omega⟩
          rw [bumpK_same Hr.out (by unfold bump; rw [if_neg (fun h => by rw [h.1] at hh; simp at hh)])]
          exact Rk.out.keep (by repeat (first | exact Below.refl _ _ | with_reducible refine bl_drew ?_ | refine bl_alloc ?_ _))
        cases hcp : (r.c.toList == p.c.toList)
        · go_wp2_with fail
          refine ⟨⟨k + 1, by omega, by go_num, Sk.out.below (by repeat (first | exact Below.refl _ _ | with_reducible refine bl_drew ?_ | refine bl_alloc ?_ _)), Xk.out.below (by repeat (first | exact Below.refl _ _ | with_reducible refine bl_drew ?_ | refine bl_alloc ?_ _)), ?_⟩, by simp [intOf]; omega⟩
          rw [bumpK_same Hr.out (by unfold bump; rw [if_neg (fun h => by rw [h.2.1] at hcp; simp at hcp)])]
          exact Rk.out.keep (by repeat (first | exact Below.refl _ _ | with_reducible refine bl_drew ?_ | refine bl_alloc ?_ _))
        by_cases hu : r.u < p.t + 16
        rotate_left
        · have Hu2 : Hid (¬ r.u < p.t + 16) := hu
          go_wp2_with fail
          refine ⟨⟨k + 1, by omega, by go_num, Sk.out.below (by repeat (first | exact Below.refl _ _ | with_reducible refine bl_drew ?_ | refine bl_alloc ?_ _)), Xk.out.below (by repeat (first | exact Below.refl _ _ | with_reducible refine bl_drew ?_ | refine bl_alloc ?_ _)), ?_⟩, by simp [intOf]; omega⟩
          rw [bumpK_same Hr.out (by unfold bump; rw [if_neg (fun h => Hu2.out h.2.2)])]
          exact Rk.out.keep (by repeat (first | exact Below.refl _ _ | with_reducible refine bl_drew ?_ | refine bl_alloc ?_ _))
        have hgb : w1.heap.size ≤ g := R2.out.ge g (Or.inr (Or.inl rfl))
        have Hgb : Hid (w1.heap.size ≤ g) := hgb
        clear hgb hgk
        go_wp2_with fail
        refine ⟨⟨k + 1, by omega, by go_num, (Sk.out.ex ((Ex.refl g _).set _ _) (by have := Hgb.out; omega)).below (by repeat (first | exact Below.refl _ _ | with_reducible refine bl_drew ?_ | refine bl_alloc ?_ _)), (Xk.out.ex ((Ex.refl g _).set _ _) (Nat.ne_of_gt Hgk.out)).below (by repeat (first | exact Below.refl _ _ | with_reducible refine bl_drew ?_ | refine bl_alloc ?_ _)), ?_⟩, by simp [intOf]; omega⟩
        rw [bumpK_step Hr.out, bump_yes (by simpa using hh) (by simpa using hcp) hu]
        exact (Rk.out.put2 (sl_set10 Rk.out.a2 (bumpK_at Hr.out)) (ex_grown ((Ex.refl g _).set _ _))).keep (by repeat (first | exact Below.refl _ _ | with_reducible refine bl_drew ?_ | refine bl_alloc ?_ _))
      · have hk' : k = m.rs.length := by omega
        subst hk'
        have R8 : Hid (SlM wr (⟨m.nm, true, m.ck, m.kn, m.se, m.ws, m.rs.map (bump p.h p.c p.t), m.qs, m.gs⟩ : MateD) (.slice a1 m.ws.length p1) (.slice a2 m.rs.length p2) (.slice a3 m.qs.length p3) (.slice a4 m.gs.length p4) w1.heap.size) := by
          have := Rk.out
          rw [bumpK_all] at this
          exact this
        have ho := ones m R5.out.a1 R5.out.a2 R5.out.a3 R5.out.a4
        rw [Hu.out] at ho
        go_wp2_with ((with_reducible show wpList _ _ _ [⟨_, Op.store 35 _ _, _, _, _, _⟩] _ _); refine Stop.out ?_)
        refine ⟨?_⟩
        (refine wpList_store_mid (by rfl) 35 _ _ (by rfl) (w.heap.size + 2) 0 #[.string m.nm, .bool true, .int .i64 m.ck, .bool m.kn, .int .i64 m.se, .slice a1 m.ws.length p1, .slice a2 m.rs.length p2, .slice a3 m.qs.length p3, .slice a4 m.gs.length p4] (by rfl) (by rfl) (by exact Sk.out.d) hinfo (by exact all_oneCell_toArray (ho)) ?_)
        go_wp2_with fail
        have hrg := World.rangeAt_setCells_same wr (w.heap.size + 2) 0 [.string m.nm, .bool true, .int .i64 m.ck, .bool m.kn, .int .i64 m.se, .slice a1 m.ws.length p1, .slice a2 m.rs.length p2, .slice a3 m.qs.length p3, .slice a4 m.gs.length p4] Sk.out.d
        have d0 := hrg 0 _ rfl
        have d1 := hrg 1 _ rfl
        have d2 := hrg 2 _ rfl
        have d3 := hrg 3 _ rfl
        have d4 := hrg 4 _ rfl
        have d5 := hrg 5 _ rfl
        have d6 := hrg 6 _ rfl
        have d7 := hrg 7 _ rfl
        have d8 := hrg 8 _ rfl
        simp only [Nat.zero_add] at d0 d1 d2 d3 d4 d5 d6 d7 d8
        exact bodyPost_ret (v := .agg #[.string m.nm, .bool true, .int .i64 m.ck, .bool m.kn, .int .i64 m.se, .slice a1 m.ws.length p1, .slice a2 m.rs.length p2, .slice a3 m.qs.length p3, .slice a4 m.gs.length p4]) (by simp [results, Tryz.results6, go_sem, d0, d1, d2, d3, d4, d5, d6, d7, d8]) rfl ⟨⟨(⟨m.nm, true, m.ck, m.kn, m.se, m.ws, m.rs.map (bump p.h p.c p.t), m.qs, m.gs⟩ : MateD), _, _, _, _, rfl, Or.inl ⟨hv.out, by rw [took_given HT.out k3, Hu.out, prolR_yes HY.out]⟩, (R8.out.ex ((Ex.refl _ _).cells _ _) zb).low (by omega)⟩, Sk.out.put _⟩
  by_cases k5 : p.k = 5
  · rw [k5] at kp
    go_wp2_with fail
    have F := A.specAsk_x b4 0 m.gs.length m.gs p.h (w2.alloc (.cells #[.string m.nm, .bool true, .int .i64 m.ck, .bool m.kn, .int .i64 m.se, .slice a1 m.ws.length p1, .slice a2 m.rs.length p2, .slice a3 m.qs.length p3, .slice a4 m.gs.length p4] 35)) (hL.keep S3.out.e).r4 (hL.keep S3.out.e).l4 hf.k4
    refine F.mono ?_
    clear F
    rintro e w3 ⟨rfl, hw3⟩
    have S4 : Hid (Sp w #[.string m.nm, .bool m.up, .int .i64 m.ck, .bool m.kn, .int .i64 m.se, .slice (some ⟨b1, 0, none⟩) m.ws.length m.ws.length, .slice (some ⟨b2, 0, none⟩) m.rs.length m.rs.length, .slice (some ⟨b3, 0, none⟩) m.qs.length m.qs.length, .slice (some ⟨b4, 0, none⟩) m.gs.length m.gs.length] #[.int .i64 p.k, .string p.b, .int .i64 p.s, .slice (some ⟨b5, 0, none⟩) p.ws.length p.ws.length, .string p.h, .string p.c, .int .i64 p.t] w3) := by rw [hw3]; exact S3.out
    have R4 : Hid (SlM w3 m (.slice a1 m.ws.length p1) (.slice a2 m.rs.length p2) (.slice a3 m.qs.length p3) (.slice a4 m.gs.length p4) w1.heap.size) := by rw [hw3]; exact R3.out
    have X4 : Hid (Bx w3 w2.heap.size #[.string m.nm, .bool true, .int .i64 m.ck, .bool m.kn, .int .i64 m.se, .slice a1 m.ws.length p1, .slice a2 m.rs.length p2, .slice a3 m.qs.length p3, .slice a4 m.gs.length p4]) := by rw [hw3]; exact bx_new _ _ _
    have L4 : Hid (Lists w3 m b1 b2 b3 b4) := hL.keep S4.out.e
    have Z4 : Hid (SrtM m) := valid_srt hv.out
    clear hw3 S3 R3 ka kf kp kq
    have ka := S4.out.b
    have kf := S4.out.c
    have kp := S4.out.b2
    have kq := S4.out.c2
    rw [Hu.out] at ka
    have kx := X4.out.b
    have ky := X4.out.c
    rw [k5] at kp
    rcases A.ask_cases m.gs p.h with ⟨ha, hn⟩ | ⟨k, a, ha, hk, he⟩
    · have Hn : Hid _ := hn
      clear hn
      rw [ha]
      go_wp2_with fail
      go_quiet (fail)
      obtain ⟨x4, hx4⟩ : ∃ x, x = w3.drewN nq := ⟨_, rfl⟩
      have BQ : Below w3.heap.size w3 x4 := by rw [hx4]; exact bl_dn3 (Below.refl _ _)
      have S5 : Hid (Sp w #[.string m.nm, .bool m.up, .int .i64 m.ck, .bool m.kn, .int .i64 m.se, .slice (some ⟨b1, 0, none⟩) m.ws.length m.ws.length, .slice (some ⟨b2, 0, none⟩) m.rs.length m.rs.length, .slice (some ⟨b3, 0, none⟩) m.qs.length m.qs.length, .slice (some ⟨b4, 0, none⟩) m.gs.length m.gs.length] #[.int .i64 p.k, .string p.b, .int .i64 p.s, .slice (some ⟨b5, 0, none⟩) p.ws.length p.ws.length, .string p.h, .string p.c, .int .i64 p.t] x4) := S4.out.below BQ
      have R5 : Hid (SlM x4 m (.slice a1 m.ws.length p1) (.slice a2 m.rs.length p2) (.slice a3 m.qs.length p3) (.slice a4 m.gs.length p4) w1.heap.size) := R4.out.keep BQ
      have X5 : Hid (Bx x4 w2.heap.size #[.string m.nm, .bool true, .int .i64 m.ck, .bool m.kn, .int .i64 m.se, .slice a1 m.ws.length p1, .slice a2 m.rs.length p2, .slice a3 m.qs.length p3, .slice a4 m.gs.length p4]) := X4.out.below BQ
      have L5 : Hid (Lists x4 m b1 b2 b3 b4) := hL.keep S5.out.e
      rw [← hx4]
      clear hx4 BQ ka kf kp kq kx ky S4 R4 X4 L4
      have ka := S5.out.b
      have kf := S5.out.c
      have kp := S5.out.b2
      have kq := S5.out.c2
      rw [Hu.out] at ka
      have kx := X5.out.b
      have ky := X5.out.c
      have ho := ones m R5.out.a1 R5.out.a2 R5.out.a3 R5.out.a4
      rw [Hu.out] at ho
      go_wp2_with (refine wpList_store_mid (by rfl) 35 _ _ (by rfl) (w.heap.size + 2) 0 #[.string m.nm, .bool true, .int .i64 m.ck, .bool m.kn, .int .i64 m.se, .slice a1 m.ws.length p1, .slice a2 m.rs.length p2, .slice a3 m.qs.length p3, .slice a4 m.gs.length p4] (by rfl) (by rfl) (by exact S5.out.d) hinfo (by exact all_oneCell_toArray (ho)) ?_)
      have hrg := World.rangeAt_setCells_same x4 (w.heap.size + 2) 0 [.string m.nm, .bool true, .int .i64 m.ck, .bool m.kn, .int .i64 m.se, .slice a1 m.ws.length p1, .slice a2 m.rs.length p2, .slice a3 m.qs.length p3, .slice a4 m.gs.length p4] S5.out.d
      have d0 := hrg 0 _ rfl
      have d1 := hrg 1 _ rfl
      have d2 := hrg 2 _ rfl
      have d3 := hrg 3 _ rfl
      have d4 := hrg 4 _ rfl
      have d5 := hrg 5 _ rfl
      have d6 := hrg 6 _ rfl
      have d7 := hrg 7 _ rfl
      have d8 := hrg 8 _ rfl
      simp only [Nat.zero_add] at d0 d1 d2 d3 d4 d5 d6 d7 d8
      exact bodyPost_ret (v := .agg #[.string m.nm, .bool true, .int .i64 m.ck, .bool m.kn, .int .i64 m.se, .slice a1 m.ws.length p1, .slice a2 m.rs.length p2, .slice a3 m.qs.length p3, .slice a4 m.gs.length p4]) (by simp [results, Tryz.results6, go_sem, d0, d1, d2, d3, d4, d5, d6, d7, d8]) rfl ⟨⟨m, _, _, _, _, by rw [Hu.out], Or.inl ⟨hv.out, by rw [took_back HT.out k5, forgR_no (fun ⟨a, h1, h2, h3⟩ => Hn.out a h1 h2)]⟩, (R5.out.ex ((Ex.refl _ _).cells _ _) zb).low (by omega)⟩, S5.out.put _⟩
    rw [ha]
    have Hk : Hid (m.gs[k]? = some a) := hk
    have He : Hid (a.h = p.h) := he
    have klt : k < m.gs.length := (List.getElem?_eq_some_iff.1 hk).1
    have kle := hf.k4
    obtain ⟨c0, c1, c2, c3⟩ := L4.out.r4.at hk
    simp only [Nat.zero_add] at c0 c1 c2 c3
    have i0 : (0 : Int) ≤ (k : Int) := by omega
    have i1 : (k : Int) < (m.gs.length : Int) := by omega
    clear hk he ha
    by_cases hat : a.t = p.t
    rotate_left
    · have hat' : (a.t == p.t) = false := by simpa using hat
      have Hat : Hid (¬ a.t = p.t) := hat
      clear hat
      go_wp2_with fail
      go_quiet (fail)
      obtain ⟨x4, hx4⟩ : ∃ x, x = w3.drewN nq := ⟨_, rfl⟩
      have BQ : Below w3.heap.size w3 x4 := by rw [hx4]; exact bl_dn3 (Below.refl _ _)
      have S5 : Hid (Sp w #[.string m.nm, .bool m.up, .int .i64 m.ck, .bool m.kn, .int .i64 m.se, .slice (some ⟨b1, 0, none⟩) m.ws.length m.ws.length, .slice (some ⟨b2, 0, none⟩) m.rs.length m.rs.length, .slice (some ⟨b3, 0, none⟩) m.qs.length m.qs.length, .slice (some ⟨b4, 0, none⟩) m.gs.length m.gs.length] #[.int .i64 p.k, .string p.b, .int .i64 p.s, .slice (some ⟨b5, 0, none⟩) p.ws.length p.ws.length, .string p.h, .string p.c, .int .i64 p.t] x4) := S4.out.below BQ
      have R5 : Hid (SlM x4 m (.slice a1 m.ws.length p1) (.slice a2 m.rs.length p2) (.slice a3 m.qs.length p3) (.slice a4 m.gs.length p4) w1.heap.size) := R4.out.keep BQ
      have X5 : Hid (Bx x4 w2.heap.size #[.string m.nm, .bool true, .int .i64 m.ck, .bool m.kn, .int .i64 m.se, .slice a1 m.ws.length p1, .slice a2 m.rs.length p2, .slice a3 m.qs.length p3, .slice a4 m.gs.length p4]) := X4.out.below BQ
      have L5 : Hid (Lists x4 m b1 b2 b3 b4) := hL.keep S5.out.e
      rw [← hx4]
      clear hx4 BQ ka kf kp kq kx ky S4 R4 X4 L4
      have ka := S5.out.b
      have kf := S5.out.c
      have kp := S5.out.b2
      have kq := S5.out.c2
      rw [Hu.out] at ka
      have kx := X5.out.b
      have ky := X5.out.c
      have ho := ones m R5.out.a1 R5.out.a2 R5.out.a3 R5.out.a4
      rw [Hu.out] at ho
      go_wp2_with (refine wpList_store_mid (by rfl) 35 _ _ (by rfl) (w.heap.size + 2) 0 #[.string m.nm, .bool true, .int .i64 m.ck, .bool m.kn, .int .i64 m.se, .slice a1 m.ws.length p1, .slice a2 m.rs.length p2, .slice a3 m.qs.length p3, .slice a4 m.gs.length p4] (by rfl) (by rfl) (by exact S5.out.d) hinfo (by exact all_oneCell_toArray (ho)) ?_)
      have hrg := World.rangeAt_setCells_same x4 (w.heap.size + 2) 0 [.string m.nm, .bool true, .int .i64 m.ck, .bool m.kn, .int .i64 m.se, .slice a1 m.ws.length p1, .slice a2 m.rs.length p2, .slice a3 m.qs.length p3, .slice a4 m.gs.length p4] S5.out.d
      have d0 := hrg 0 _ rfl
      have d1 := hrg 1 _ rfl
      have d2 := hrg 2 _ rfl
      have d3 := hrg 3 _ rfl
      have d4 := hrg 4 _ rfl
      have d5 := hrg 5 _ rfl
      have d6 := hrg 6 _ rfl
      have d7 := hrg 7 _ rfl
      have d8 := hrg 8 _ rfl
      simp only [Nat.zero_add] at d0 d1 d2 d3 d4 d5 d6 d7 d8
      exact bodyPost_ret (v := .agg #[.string m.nm, .bool true, .int .i64 m.ck, .bool m.kn, .int .i64 m.se, .slice a1 m.ws.length p1, .slice a2 m.rs.length p2, .slice a3 m.qs.length p3, .slice a4 m.gs.length p4]) (by simp [results, Tryz.results6, go_sem, d0, d1, d2, d3, d4, d5, d6, d7, d8]) rfl ⟨⟨m, _, _, _, _, by rw [Hu.out], Or.inl ⟨hv.out, by rw [took_back HT.out k5, forgR_no (fun h => Hat.out ((back_iff Z4.out.s4 (List.mem_of_getElem? Hk.out)).1 (by rw [He.out]; exact h)))]⟩, (R5.out.ex ((Ex.refl _ _).cells _ _) zb).low (by omega)⟩, S5.out.put _⟩
    go_wp2_with fail
    go_quiet (fail)
    obtain ⟨x4, hx4⟩ : ∃ x, x = w3.drewN nq := ⟨_, rfl⟩
    have BQ : Below w3.heap.size w3 x4 := by rw [hx4]; exact bl_dn3 (Below.refl _ _)
    have S5 : Hid (Sp w #[.string m.nm, .bool m.up, .int .i64 m.ck, .bool m.kn, .int .i64 m.se, .slice (some ⟨b1, 0, none⟩) m.ws.length m.ws.length, .slice (some ⟨b2, 0, none⟩) m.rs.length m.rs.length, .slice (some ⟨b3, 0, none⟩) m.qs.length m.qs.length, .slice (some ⟨b4, 0, none⟩) m.gs.length m.gs.length] #[.int .i64 p.k, .string p.b, .int .i64 p.s, .slice (some ⟨b5, 0, none⟩) p.ws.length p.ws.length, .string p.h, .string p.c, .int .i64 p.t] x4) := S4.out.below BQ
    have R5 : Hid (SlM x4 m (.slice a1 m.ws.length p1) (.slice a2 m.rs.length p2) (.slice a3 m.qs.length p3) (.slice a4 m.gs.length p4) w1.heap.size) := R4.out.keep BQ
    have X5 : Hid (Bx x4 w2.heap.size #[.string m.nm, .bool true, .int .i64 m.ck, .bool m.kn, .int .i64 m.se, .slice a1 m.ws.length p1, .slice a2 m.rs.length p2, .slice a3 m.qs.length p3, .slice a4 m.gs.length p4]) := X4.out.below BQ
    have L5 : Hid (Lists x4 m b1 b2 b3 b4) := hL.keep S5.out.e
    rw [← hx4]
    clear hx4 BQ ka kf kp kq kx ky S4 R4 X4 L4
    have ka := S5.out.b
    have kf := S5.out.c
    have kp := S5.out.b2
    have kq := S5.out.c2
    rw [Hu.out] at ka
    have kx := X5.out.b
    have ky := X5.out.c
    have Hat : Hid (a.t = p.t) := hat
    clear hat c0 c1 c2 c3 i0 i1
    go_wp2_with fail
    refine (A.specDrop b4 0 _ m.gs p.h _ L5.out.r4 L5.out.l4 hf.k4).mono ?_
    rintro e w6 ⟨⟨v6, rfl, r6⟩, c6⟩
    obtain ⟨l6, hl6⟩ : ∃ l, l = A.dropA p.h m.gs := ⟨_, rfl⟩
    have Hl6 : Hid (l6 = A.dropA p.h m.gs) := hl6
    rw [← hl6] at r6
    have S6 : Hid (Sp w #[.string m.nm, .bool m.up, .int .i64 m.ck, .bool m.kn, .int .i64 m.se, .slice (some ⟨b1, 0, none⟩) m.ws.length m.ws.length, .slice (some ⟨b2, 0, none⟩) m.rs.length m.rs.length, .slice (some ⟨b3, 0, none⟩) m.qs.length m.qs.length, .slice (some ⟨b4, 0, none⟩) m.gs.length m.gs.length] #[.int .i64 p.k, .string p.b, .int .i64 p.s, .slice (some ⟨b5, 0, none⟩) p.ws.length p.ws.length, .string p.h, .string p.c, .int .i64 p.t] w6) := S5.out.below c6
    have X6 : Hid (Bx w6 w2.heap.size #[.string m.nm, .bool true, .int .i64 m.ck, .bool m.kn, .int .i64 m.se, .slice a1 m.ws.length p1, .slice a2 m.rs.length p2, .slice a3 m.qs.length p3, .slice a4 m.gs.length p4]) := X5.out.below c6
    have R6 : Hid (SlM w6 m (.slice a1 m.ws.length p1) (.slice a2 m.rs.length p2) (.slice a3 m.qs.length p3) (.slice a4 m.gs.length p4) w1.heap.size) := R5.out.keep c6
    obtain ⟨a6, p6, hs6⟩ := A.Sl.shape r6
    subst hs6
    have Q6 : Hid (A.Sl w6 (.slice a6 l6.length p6) l6 x4.heap.size) := r6
    have zx : w2.heap.size < x4.heap.size := X5.out.l
    have zy : w1.heap.size ≤ x4.heap.size := Nat.le_trans Z12.out (Nat.le_of_lt zx)
    clear hl6 r6 c6 ka kf kp kq kx ky
    have ka := S6.out.b
    have kf := S6.out.c
    have kp := S6.out.b2
    have kq := S6.out.c2
    rw [Hu.out] at ka
    have kx := X6.out.b
    have ky := X6.out.c
    have S7 : Hid (Sp w #[.string m.nm, .bool m.up, .int .i64 m.ck, .bool m.kn, .int .i64 m.se, .slice (some ⟨b1, 0, none⟩) m.ws.length m.ws.length, .slice (some ⟨b2, 0, none⟩) m.rs.length m.rs.length, .slice (some ⟨b3, 0, none⟩) m.qs.length m.qs.length, .slice (some ⟨b4, 0, none⟩) m.gs.length m.gs.length] #[.int .i64 p.k, .string p.b, .int .i64 p.s, .slice (some ⟨b5, 0, none⟩) p.ws.length p.ws.length, .string p.h, .string p.c, .int .i64 p.t] (w6.setCell ⟨w2.heap.size, 8, none⟩ (.slice a6 l6.length p6))) := S6.out.ex ((Ex.refl _ _).set 8 _) zw
    have R7 : Hid (SlM (w6.setCell ⟨w2.heap.size, 8, none⟩ (.slice a6 l6.length p6)) (⟨m.nm, true, m.ck, m.kn, m.se, m.ws, m.rs, m.qs, l6⟩ : MateD) (.slice a1 m.ws.length p1) (.slice a2 m.rs.length p2) (.slice a3 m.qs.length p3) (.slice a6 l6.length p6) w1.heap.size) := slm_new4 R6.out Q6.out R2.out.lt zx zy ((Ex.refl _ _).set 8 _)
    have ho := ones (⟨m.nm, true, m.ck, m.kn, m.se, m.ws, m.rs, m.qs, l6⟩ : MateD) R7.out.a1 R7.out.a2 R7.out.a3 R7.out.a4
    go_wp2_with (refine wpList_store_mid (by rfl) 35 _ _ (by rfl) (w.heap.size + 2) 0 #[.string m.nm, .bool true, .int .i64 m.ck, .bool m.kn, .int .i64 m.se, .slice a1 m.ws.length p1, .slice a2 m.rs.length p2, .slice a3 m.qs.length p3, .slice a6 l6.length p6] (by rfl) (by rfl) (by exact S7.out.d) hinfo (by exact all_oneCell_toArray (ho)) ?_)
    have hrg := World.rangeAt_setCells_same (w6.setCell ⟨w2.heap.size, 8, none⟩ (.slice a6 l6.length p6)) (w.heap.size + 2) 0 [.string m.nm, .bool true, .int .i64 m.ck, .bool m.kn, .int .i64 m.se, .slice a1 m.ws.length p1, .slice a2 m.rs.length p2, .slice a3 m.qs.length p3, .slice a6 l6.length p6] S7.out.d
    have d0 := hrg 0 _ rfl
    have d1 := hrg 1 _ rfl
    have d2 := hrg 2 _ rfl
    have d3 := hrg 3 _ rfl
    have d4 := hrg 4 _ rfl
    have d5 := hrg 5 _ rfl
    have d6 := hrg 6 _ rfl
    have d7 := hrg 7 _ rfl
    have d8 := hrg 8 _ rfl
    simp only [Nat.zero_add] at d0 d1 d2 d3 d4 d5 d6 d7 d8
    exact bodyPost_ret (v := .agg #[.string m.nm, .bool true, .int .i64 m.ck, .bool m.kn, .int .i64 m.se, .slice a1 m.ws.length p1, .slice a2 m.rs.length p2, .slice a3 m.qs.length p3, .slice a6 l6.length p6]) (by simp [results, Tryz.results6, go_sem, d0, d1, d2, d3, d4, d5, d6, d7, d8]) rfl ⟨⟨(⟨m.nm, true, m.ck, m.kn, m.se, m.ws, m.rs, m.qs, l6⟩ : MateD), _, _, _, _, rfl, Or.inl ⟨hv.out, by rw [took_back HT.out k5, Hu.out, forgR_yes ((back_iff Z4.out.s4 (List.mem_of_getElem? Hk.out)).2 Hat.out |> fun h => by rw [He.out] at h; exact h), ← A.dropA_out, ← Hl6.out]⟩, (R7.out.ex ((Ex.refl _ _).cells _ _) zb).low (by omega)⟩, S7.out.put _⟩
  have ho := ones m R3.out.a1 R3.out.a2 R3.out.a3 R3.out.a4
  rw [Hu.out] at ho
  go_wp2_with (refine wpList_store_mid (by rfl) 35 _ _ (by rfl) (w.heap.size + 2) 0 #[.string m.nm, .bool true, .int .i64 m.ck, .bool m.kn, .int .i64 m.se, .slice a1 m.ws.length p1, .slice a2 m.rs.length p2, .slice a3 m.qs.length p3, .slice a4 m.gs.length p4] (by rfl) (by rfl) (by exact S3.out.d) hinfo (by exact all_oneCell_toArray (ho)) ?_)
  have hrg := World.rangeAt_setCells_same (w2.alloc (.cells #[.string m.nm, .bool true, .int .i64 m.ck, .bool m.kn, .int .i64 m.se, .slice a1 m.ws.length p1, .slice a2 m.rs.length p2, .slice a3 m.qs.length p3, .slice a4 m.gs.length p4] 35)) (w.heap.size + 2) 0 [.string m.nm, .bool true, .int .i64 m.ck, .bool m.kn, .int .i64 m.se, .slice a1 m.ws.length p1, .slice a2 m.rs.length p2, .slice a3 m.qs.length p3, .slice a4 m.gs.length p4] S3.out.d
  have d0 := hrg 0 _ rfl
  have d1 := hrg 1 _ rfl
  have d2 := hrg 2 _ rfl
  have d3 := hrg 3 _ rfl
  have d4 := hrg 4 _ rfl
  have d5 := hrg 5 _ rfl
  have d6 := hrg 6 _ rfl
  have d7 := hrg 7 _ rfl
  have d8 := hrg 8 _ rfl
  simp only [Nat.zero_add] at d0 d1 d2 d3 d4 d5 d6 d7 d8
  exact bodyPost_ret (v := .agg #[.string m.nm, .bool true, .int .i64 m.ck, .bool m.kn, .int .i64 m.se, .slice a1 m.ws.length p1, .slice a2 m.rs.length p2, .slice a3 m.qs.length p3, .slice a4 m.gs.length p4]) (by simp [results, Tryz.results6, go_sem, d0, d1, d2, d3, d4, d5, d6, d7, d8]) rfl ⟨⟨m, _, _, _, _, by rw [Hu.out], Or.inl ⟨hv.out, (took_other k1 k3 k5).symm⟩, (R3.out.ex ((Ex.refl _ _).cells _ _) zb).low (by omega)⟩, S3.out.put _⟩
end Go.Proofs.YtiogkdafmgdbgaaGreat
