import Derived.Test.YtkebokkckmgloaaJ01
import Derived.Deep.MidRow
import Derived.Test.YtkebokkckmgloaaJ05
import Derived.Test.YtkebokkckmgloaaJ09
import Derived.Test.YtkebokkckmgloaaJ06
/- Nothing has turned but for one block. -/
namespace Go.Proofs.Ytkebokkckmgloaa
open Go.RowKit
set_option linter.unusedVariables false

/-- Nothing that was there has turned but for one block. -/
structure Ex (kr : Nat) (w w' : World) : Prop where
  os : w'.os = w.os
  tape : w'.tape = w.tape
  output : w'.output = w.output
  size : w.heap.size ≤ w'.heap.size
  block : ∀ k, k < w.heap.size → k ≠ kr → w'.heap[k]? = w.heap[k]?
theorem Ex.refl (kr : Nat) (w : World) : Ex kr w w := ⟨rfl, rfl, rfl, Nat.le_refl _, fun _ _ _ => rfl⟩
theorem Ex.trans {kr : Nat} {a b c : World} (h : Ex kr a b) (k : Ex kr b c) : Ex kr a c :=
  ⟨k.os.trans h.os, k.tape.trans h.tape, k.output.trans h.output, Nat.le_trans h.size k.size, fun i hi hne => (k.block i (Nat.lt_of_lt_of_le hi h.size) hne).trans (h.block i hi hne)⟩
theorem Ex.of_below {kr : Nat} {a b : World} (h : Below a.heap.size a b) : Ex kr a b := ⟨h.os, h.tape, h.output, h.size, fun i hi _ => h.block i hi⟩
theorem Ex.below {kr B : Nat} {a b : World} (h : Ex kr a b) (hB : B ≤ kr) (hz : B ≤ a.heap.size) : Below B a b := ⟨h.os, h.tape, h.output, h.size, fun i hi => h.block i (by omega) (by omega)⟩
theorem Ex.set {kr : Nat} {a b : World} (h : Ex kr a b) (o : Nat) (u : Value) : Ex kr a (b.setCell ⟨kr, o, none⟩ u) :=
  h.trans ⟨rfl, rfl, rfl, by simp [World.setCell], fun i hi hne => Below.heap_setCell _ _ _ _ hne⟩
theorem Ex.drewN {kr : Nat} {a b : World} (h : Ex kr a b) (n : Nat) : Ex kr a (b.drewN n) := ⟨h.os, h.tape, h.output, h.size, h.block⟩
theorem Ex.cell {kr : Nat} {a b : World} (h : Ex kr a b) {p : Addr} (hp : p.block < a.heap.size) (hne : p.block ≠ kr) : b.cell? p = a.cell? p := World.cell?_of_block (w := a) (h.block p.block hp hne)
theorem Ex.frozen {kr : Nat} {a b : World} (h : Ex kr a b) {p : Addr} (hp : p.block < a.heap.size) (hne : p.block ≠ kr) : b.frozen? p = a.frozen? p := World.frozen?_of_block (w := a) (h.block p.block hp hne)

theorem Ex.cells {kr : Nat} : ∀ (vs : List Value) (o : Nat) {a b : World}, Ex kr a b → Ex kr a (b.setCells kr o vs)
  | [], _, _, _, h => h
  | v :: r, o, _, _, h => Ex.cells r (o + 1) (h.set o v)
theorem Ex.mono {kr : Nat} {a b c : World} (h : Below a.heap.size a b) (k : Ex kr b c) (hk : a.heap.size ≤ kr) : Below a.heap.size a c := h.trans (k.below hk h.size)
theorem there_ex {kr : Nat} {x y : World} {k o n : Nat} (h : x.there k o n) (hk : k < x.heap.size) (hE : Ex kr x y) (hne : k ≠ kr) : y.there k o n :=
  fun j hj => ⟨by rw [hE.cell (p := ⟨k, o + j, none⟩) hk hne]; exact (h j hj).1, by rw [hE.frozen (p := ⟨k, o + j, none⟩) hk hne]; exact (h j hj).2⟩
theorem there_keep2 {x y : World} {k o n : Nat} (h : x.there k o n) (hk : k < x.heap.size) (hb : Below x.heap.size x y) : y.there k o n :=
  fun j hj => ⟨by rw [hb.cell (p := ⟨k, o + j, none⟩) hk]; exact (h j hj).1, by rw [hb.frozen (p := ⟨k, o + j, none⟩) hk]; exact (h j hj).2⟩
theorem range_keep {w w' : World} {b o : Nat} {vs : List Value} (h : w.rangeAt b o vs) (hb : b < w.heap.size) (hB : Below w.heap.size w w') : w'.rangeAt b o vs :=
  fun j v hj => (hB.cell (p := ⟨b, o + j, none⟩) hb).trans (h j v hj)
theorem range_append {w : World} {b o : Nat} {xs ys : List Value} (h1 : w.rangeAt b o xs) (h2 : w.rangeAt b (o + xs.length) ys) : w.rangeAt b o (xs ++ ys) := by
  intro j v hj
  rcases Nat.lt_or_ge j xs.length with hl | hl
  · rw [List.getElem?_append_left hl] at hj; exact h1 j v hj
  · rw [List.getElem?_append_right hl] at hj
    have := h2 (j - xs.length) v hj
    rwa [show o + xs.length + (j - xs.length) = o + j from by omega] at this
end Go.Proofs.Ytkebokkckmgloaa
/- Rows that lie elsewhere stay. -/
namespace Go.Proofs.Ytkebokkckmgloaa.W
theorem RowsAt.exq {kr : Nat} {w w' : World} {b off : Nat} {rs : List WantD} (h : RowsAt w b off rs) (hb : b < w.heap.size) (hE : Ex kr w w') (hne : b ≠ kr) : RowsAt w' b off rs :=
  fun k r hk j v hj => (hE.cell (p := ⟨b, off + k * 7 + j, none⟩) hb hne).trans (h k r hk j v hj)
end Go.Proofs.Ytkebokkckmgloaa.W
namespace Go.Proofs.Ytkebokkckmgloaa.A
theorem RowsAt.exq {kr : Nat} {w w' : World} {b off : Nat} {rs : List AskD} (h : RowsAt w b off rs) (hb : b < w.heap.size) (hE : Ex kr w w') (hne : b ≠ kr) : RowsAt w' b off rs :=
  fun k r hk j v hj => (hE.cell (p := ⟨b, off + k * 4 + j, none⟩) hb hne).trans (h k r hk j v hj)
end Go.Proofs.Ytkebokkckmgloaa.A
namespace Go.Proofs.Ytkebokkckmgloaa
open Go.RowKit
set_option linter.unusedVariables false

theorem RowsAt.exq {kr : Nat} {w w' : World} {b off : Nat} {rs : List RunD} (h : RowsAt w b off rs) (hb : b < w.heap.size) (hE : Ex kr w w') (hne : b ≠ kr) : RowsAt w' b off rs :=
  fun k r hk j v hj => (hE.cell (p := ⟨b, off + k * 11 + j, none⟩) hb hne).trans (h k r hk j v hj)
end Go.Proofs.Ytkebokkckmgloaa
/- A mate is copied. -/
namespace Go.Proofs.Ytkebokkckmgloaa
open Go.RowKit
set_option linter.unusedVariables false

/-- While a mate is copied: what came in, what is laid out so far. -/
structure St (w : World) (L O : Array Value) (x : World) : Prop where
  a : ∀ k, x.cell? ⟨w.heap.size, k, none⟩ = L[k]?
  b : ∀ k, x.cell? ⟨w.heap.size + 1 + 1, k, none⟩ = O[k]?
  c : ∀ k, x.frozen? ⟨w.heap.size + 1 + 1, k, none⟩ = false
  d : x.there (w.heap.size + 1) 0 9
  e : Below w.heap.size w x
  f : w.heap.size + 1 + 1 < x.heap.size
theorem St.below {w x y : World} {L O : Array Value} (h : St w L O x) (hb : Below x.heap.size x y) : St w L O y :=
  have hf := h.f
  ⟨fun k => (hb.cell (p := ⟨w.heap.size, k, none⟩) (by show w.heap.size < _; omega)).trans (h.a k), fun k => (hb.cell (p := ⟨w.heap.size + 1 + 1, k, none⟩) hf).trans (h.b k), fun k => (hb.frozen (p := ⟨w.heap.size + 1 + 1, k, none⟩) hf).trans (h.c k),
    fun j hj => ⟨by rw [hb.cell (p := ⟨w.heap.size + 1, 0 + j, none⟩) (by show w.heap.size + 1 < _; omega)]; exact (h.d j hj).1, by rw [hb.frozen (p := ⟨w.heap.size + 1, 0 + j, none⟩) (by show w.heap.size + 1 < _; omega)]; exact (h.d j hj).2⟩,
    bl_trans h.e hb, Nat.lt_of_lt_of_le hf hb.size⟩
theorem St.set {w x : World} {L O : Array Value} (h : St w L O x) (j : Nat) (hj : j < O.size) (u : Value) : St w L (O.setIfInBounds j u) (x.setCell ⟨w.heap.size + 1 + 1, j, none⟩ u) := by
  have he : Ex (w.heap.size + 1 + 1) x (x.setCell ⟨w.heap.size + 1 + 1, j, none⟩ u) := (Ex.refl _ _).set j u
  have hf := h.f
  refine ⟨fun k => (he.cell (p := ⟨w.heap.size, k, none⟩) (by show w.heap.size < _; omega) (by show w.heap.size ≠ _; omega)).trans (h.a k), fun k => ?_, fun k => ?_, there_ex h.d (by omega) he (by omega), bl_set (p := ⟨w.heap.size + 1 + 1, j, none⟩) h.e (by show w.heap.size ≤ w.heap.size + 1 + 1; omega) u, Nat.lt_of_lt_of_le hf he.size⟩
  · by_cases e : k = j
    · subst e
      have h1 := h.b k
      have h2 := h.c k
      rw [Array.getElem?_eq_getElem hj] at h1
      rw [Array.getElem?_setIfInBounds_self_of_lt hj]
      exact World.cell?_setCell_same _ _ _ h1
    · rw [Array.getElem?_setIfInBounds_ne (fun h' => e h'.symm), ← h.b k]
      exact World.cell?_setCell_other _ _ _ _ (fun h' => e (by have := congrArg Addr.off h'; exact this.symm))
  · rw [World.frozen?_setCell]; exact h.c k
theorem st_new (m : MateD) (v1 v2 v3 v4 : Value) (w : World) : St w #[.string m.nm, .bool m.up, .int .i64 m.ck, .bool m.kn, .int .i64 m.se, v1, v2, v3, v4] #[.string m.nm, .bool m.up, .int .i64 m.ck, .bool m.kn, .int .i64 m.se, .slice none 0 0, .slice none 0 0, .slice none 0 0, .slice none 0 0] ((((w.alloc (.cells #[.string m.nm, .bool m.up, .int .i64 m.ck, .bool m.kn, .int .i64 m.se, v1, v2, v3, v4] 70))).alloc (.cells #[.string { data := #[] }, .bool false, .int .i64 0, .bool false, .int .i64 0, .slice none 0 0, .slice none 0 0, .slice none 0 0, .slice none 0 0] 27)).alloc (.cells #[.string m.nm, .bool m.up, .int .i64 m.ck, .bool m.kn, .int .i64 m.se, .slice none 0 0, .slice none 0 0, .slice none 0 0, .slice none 0 0] 27)) := by
  refine ⟨fun k => by simp [go_sem, World.cell?_alloc_past], fun k => by simp [go_sem], fun k => by simp [go_sem], fun j hj => ⟨by simp [go_sem, World.cell?_alloc_past] <;> omega, by simp [go_sem]⟩, bl_alloc (bl_alloc (bl_alloc (Below.refl _ _) _) _) _, by simp⟩

set_option maxRecDepth 4000 in
set_option maxHeartbeats 4000000 in
theorem toMate_any (m : MateD) (v1 v2 v3 v4 : Value) (w : World) (i1 : W.In w v1 m.ws) (i2 : In w v2 m.rs) (i3 : A.In w v3 m.qs) (i4 : A.In w v4 m.gs) (l1 : m.ws.length ≤ 1048576) (l2 : m.rs.length ≤ 1048576) (l3 : m.qs.length ≤ 1048576) (l4 : m.gs.length ≤ 1048576) :
    Calls Try.prog 48 #[.agg #[.string m.nm, .bool m.up, .int .i64 m.ck, .bool m.kn, .int .i64 m.se, v1, v2, v3, v4]] w fun e w' => ∃ b1 b2 b3 b4, e = .returned (.agg #[.string m.nm, .bool m.up, .int .i64 m.ck, .bool m.kn, .int .i64 m.se, .slice (some ⟨b1, 0, none⟩) m.ws.length m.ws.length, .slice (some ⟨b2, 0, none⟩) m.rs.length m.rs.length, .slice (some ⟨b3, 0, none⟩) m.qs.length m.qs.length, .slice (some ⟨b4, 0, none⟩) m.gs.length m.gs.length]) ∧ Lists w' m b1 b2 b3 b4 ∧ Below w.heap.size w w' := by
  have S0 : Hid (St w #[.string m.nm, .bool m.up, .int .i64 m.ck, .bool m.kn, .int .i64 m.se, v1, v2, v3, v4] #[.string m.nm, .bool m.up, .int .i64 m.ck, .bool m.kn, .int .i64 m.se, .slice none 0 0, .slice none 0 0, .slice none 0 0, .slice none 0 0] ((((w.alloc (.cells #[.string m.nm, .bool m.up, .int .i64 m.ck, .bool m.kn, .int .i64 m.se, v1, v2, v3, v4] 70))).alloc (.cells #[.string { data := #[] }, .bool false, .int .i64 0, .bool false, .int .i64 0, .slice none 0 0, .slice none 0 0, .slice none 0 0, .slice none 0 0] 27)).alloc (.cells #[.string m.nm, .bool m.up, .int .i64 m.ck, .bool m.kn, .int .i64 m.se, .slice none 0 0, .slice none 0 0, .slice none 0 0, .slice none 0 0] 27))) := st_new m v1 v2 v3 v4 w
  have hinfo : (Try.prog.info? 27).map (·.size) = some 9 := by kernel_rfl
  go_enter Try.func48, Try.ntmps48
  go_wp2_with fail
  have hto1 := W.to_in (i1.keep S0.out.e) l1
  refine hto1.mono ?_
  clear hto1
  rintro e w1 ⟨rfl, r1, z1, c1⟩
  have T1 : Hid (St w #[.string m.nm, .bool m.up, .int .i64 m.ck, .bool m.kn, .int .i64 m.se, v1, v2, v3, v4] #[.string m.nm, .bool m.up, .int .i64 m.ck, .bool m.kn, .int .i64 m.se, .slice none 0 0, .slice none 0 0, .slice none 0 0, .slice none 0 0] w1) := S0.out.below c1
  have ka1 := T1.out.a
  have ko1 := T1.out.b
  have kf1 := T1.out.c
  have kz1 := T1.out.f
  obtain ⟨B1, hB1⟩ : ∃ B, B = ((((w.alloc (.cells #[.string m.nm, .bool m.up, .int .i64 m.ck, .bool m.kn, .int .i64 m.se, v1, v2, v3, v4] 70))).alloc (.cells #[.string { data := #[] }, .bool false, .int .i64 0, .bool false, .int .i64 0, .slice none 0 0, .slice none 0 0, .slice none 0 0, .slice none 0 0] 27)).alloc (.cells #[.string m.nm, .bool m.up, .int .i64 m.ck, .bool m.kn, .int .i64 m.se, .slice none 0 0, .slice none 0 0, .slice none 0 0, .slice none 0 0] 27)).heap.size := ⟨_, rfl⟩
  have HB1 : Hid (w.heap.size + 1 + 1 < B1) := by rw [hB1]; exact S0.out.f
  have Q1 : Hid (W.RowsAt w1 B1 0 m.ws) := by rw [hB1]; exact r1
  have LT1 : Hid (B1 < w1.heap.size) := by rw [hB1]; exact z1
  have Y1 : Hid (Below ((((w.alloc (.cells #[.string m.nm, .bool m.up, .int .i64 m.ck, .bool m.kn, .int .i64 m.se, v1, v2, v3, v4] 70))).alloc (.cells #[.string { data := #[] }, .bool false, .int .i64 0, .bool false, .int .i64 0, .slice none 0 0, .slice none 0 0, .slice none 0 0, .slice none 0 0] 27)).alloc (.cells #[.string m.nm, .bool m.up, .int .i64 m.ck, .bool m.kn, .int .i64 m.se, .slice none 0 0, .slice none 0 0, .slice none 0 0, .slice none 0 0] 27)).heap.size ((((w.alloc (.cells #[.string m.nm, .bool m.up, .int .i64 m.ck, .bool m.kn, .int .i64 m.se, v1, v2, v3, v4] 70))).alloc (.cells #[.string { data := #[] }, .bool false, .int .i64 0, .bool false, .int .i64 0, .slice none 0 0, .slice none 0 0, .slice none 0 0, .slice none 0 0] 27)).alloc (.cells #[.string m.nm, .bool m.up, .int .i64 m.ck, .bool m.kn, .int .i64 m.se, .slice none 0 0, .slice none 0 0, .slice none 0 0, .slice none 0 0] 27)) w1) := c1
  rw [← hB1]
  clear hB1 r1 z1 c1
  have S1 : Hid (St w #[.string m.nm, .bool m.up, .int .i64 m.ck, .bool m.kn, .int .i64 m.se, v1, v2, v3, v4] #[.string m.nm, .bool m.up, .int .i64 m.ck, .bool m.kn, .int .i64 m.se, .slice (some ⟨B1, 0, none⟩) m.ws.length m.ws.length, .slice none 0 0, .slice none 0 0, .slice none 0 0] (w1.setCell ⟨w.heap.size + 1 + 1, 5, none⟩ (.slice (some ⟨B1, 0, none⟩) m.ws.length m.ws.length))) := T1.out.set 5 (by simp) _
  have X1 : Hid (Ex (w.heap.size + 1 + 1) w1 (w1.setCell ⟨w.heap.size + 1 + 1, 5, none⟩ (.slice (some ⟨B1, 0, none⟩) m.ws.length m.ws.length))) := Ex.set (Ex.refl _ _) 5 _
  go_wp2_with fail
  clear ka1 ko1 kf1
  have hto2 := to_in (i2.keep S1.out.e) l2
  refine hto2.mono ?_
  clear hto2
  rintro e w2 ⟨rfl, r2, z2, c2⟩
  have T2 : Hid (St w #[.string m.nm, .bool m.up, .int .i64 m.ck, .bool m.kn, .int .i64 m.se, v1, v2, v3, v4] #[.string m.nm, .bool m.up, .int .i64 m.ck, .bool m.kn, .int .i64 m.se, .slice (some ⟨B1, 0, none⟩) m.ws.length m.ws.length, .slice none 0 0, .slice none 0 0, .slice none 0 0] w2) := S1.out.below c2
  have ka2 := T2.out.a
  have ko2 := T2.out.b
  have kf2 := T2.out.c
  have kz2 := T2.out.f
  obtain ⟨B2, hB2⟩ : ∃ B, B = (w1.setCell ⟨w.heap.size + 1 + 1, 5, none⟩ (.slice (some ⟨B1, 0, none⟩) m.ws.length m.ws.length)).heap.size := ⟨_, rfl⟩
  have HB2 : Hid (w.heap.size + 1 + 1 < B2) := by rw [hB2]; exact S1.out.f
  have Q2 : Hid (RowsAt w2 B2 0 m.rs) := by rw [hB2]; exact r2
  have LT2 : Hid (B2 < w2.heap.size) := by rw [hB2]; exact z2
  have Y2 : Hid (Below (w1.setCell ⟨w.heap.size + 1 + 1, 5, none⟩ (.slice (some ⟨B1, 0, none⟩) m.ws.length m.ws.length)).heap.size (w1.setCell ⟨w.heap.size + 1 + 1, 5, none⟩ (.slice (some ⟨B1, 0, none⟩) m.ws.length m.ws.length)) w2) := c2
  rw [← hB2]
  clear hB2 r2 z2 c2
  have S2 : Hid (St w #[.string m.nm, .bool m.up, .int .i64 m.ck, .bool m.kn, .int .i64 m.se, v1, v2, v3, v4] #[.string m.nm, .bool m.up, .int .i64 m.ck, .bool m.kn, .int .i64 m.se, .slice (some ⟨B1, 0, none⟩) m.ws.length m.ws.length, .slice (some ⟨B2, 0, none⟩) m.rs.length m.rs.length, .slice none 0 0, .slice none 0 0] (w2.setCell ⟨w.heap.size + 1 + 1, 6, none⟩ (.slice (some ⟨B2, 0, none⟩) m.rs.length m.rs.length))) := T2.out.set 6 (by simp) _
  have X2 : Hid (Ex (w.heap.size + 1 + 1) w2 (w2.setCell ⟨w.heap.size + 1 + 1, 6, none⟩ (.slice (some ⟨B2, 0, none⟩) m.rs.length m.rs.length))) := Ex.set (Ex.refl _ _) 6 _
  go_wp2_with fail
  clear ka2 ko2 kf2
  have hto3 := A.to_in (i3.keep S2.out.e) l3
  refine hto3.mono ?_
  clear hto3
  rintro e w3 ⟨rfl, r3, z3, c3⟩
  have T3 : Hid (St w #[.string m.nm, .bool m.up, .int .i64 m.ck, .bool m.kn, .int .i64 m.se, v1, v2, v3, v4] #[.string m.nm, .bool m.up, .int .i64 m.ck, .bool m.kn, .int .i64 m.se, .slice (some ⟨B1, 0, none⟩) m.ws.length m.ws.length, .slice (some ⟨B2, 0, none⟩) m.rs.length m.rs.length, .slice none 0 0, .slice none 0 0] w3) := S2.out.below c3
  have ka3 := T3.out.a
  have ko3 := T3.out.b
  have kf3 := T3.out.c
  have kz3 := T3.out.f
  obtain ⟨B3, hB3⟩ : ∃ B, B = (w2.setCell ⟨w.heap.size + 1 + 1, 6, none⟩ (.slice (some ⟨B2, 0, none⟩) m.rs.length m.rs.length)).heap.size := ⟨_, rfl⟩
  have HB3 : Hid (w.heap.size + 1 + 1 < B3) := by rw [hB3]; exact S2.out.f
  have Q3 : Hid (A.RowsAt w3 B3 0 m.qs) := by rw [hB3]; exact r3
  have LT3 : Hid (B3 < w3.heap.size) := by rw [hB3]; exact z3
  have Y3 : Hid (Below (w2.setCell ⟨w.heap.size + 1 + 1, 6, none⟩ (.slice (some ⟨B2, 0, none⟩) m.rs.length m.rs.length)).heap.size (w2.setCell ⟨w.heap.size + 1 + 1, 6, none⟩ (.slice (some ⟨B2, 0, none⟩) m.rs.length m.rs.length)) w3) := c3
  rw [← hB3]
  clear hB3 r3 z3 c3
  have S3 : Hid (St w #[.string m.nm, .bool m.up, .int .i64 m.ck, .bool m.kn, .int .i64 m.se, v1, v2, v3, v4] #[.string m.nm, .bool m.up, .int .i64 m.ck, .bool m.kn, .int .i64 m.se, .slice (some ⟨B1, 0, none⟩) m.ws.length m.ws.length, .slice (some ⟨B2, 0, none⟩) m.rs.length m.rs.length, .slice (some ⟨B3, 0, none⟩) m.qs.length m.qs.length, .slice none 0 0] (w3.setCell ⟨w.heap.size + 1 + 1, 7, none⟩ (.slice (some ⟨B3, 0, none⟩) m.qs.length m.qs.length))) := T3.out.set 7 (by simp) _
  have X3 : Hid (Ex (w.heap.size + 1 + 1) w3 (w3.setCell ⟨w.heap.size + 1 + 1, 7, none⟩ (.slice (some ⟨B3, 0, none⟩) m.qs.length m.qs.length))) := Ex.set (Ex.refl _ _) 7 _
  go_wp2_with fail
  clear ka3 ko3 kf3
  have hto4 := A.to_in (i4.keep S3.out.e) l4
  refine hto4.mono ?_
  clear hto4
  rintro e w4 ⟨rfl, r4, z4, c4⟩
  have T4 : Hid (St w #[.string m.nm, .bool m.up, .int .i64 m.ck, .bool m.kn, .int .i64 m.se, v1, v2, v3, v4] #[.string m.nm, .bool m.up, .int .i64 m.ck, .bool m.kn, .int .i64 m.se, .slice (some ⟨B1, 0, none⟩) m.ws.length m.ws.length, .slice (some ⟨B2, 0, none⟩) m.rs.length m.rs.length, .slice (some ⟨B3, 0, none⟩) m.qs.length m.qs.length, .slice none 0 0] w4) := S3.out.below c4
  have ka4 := T4.out.a
  have ko4 := T4.out.b
  have kf4 := T4.out.c
  have kz4 := T4.out.f
  obtain ⟨B4, hB4⟩ : ∃ B, B = (w3.setCell ⟨w.heap.size + 1 + 1, 7, none⟩ (.slice (some ⟨B3, 0, none⟩) m.qs.length m.qs.length)).heap.size := ⟨_, rfl⟩
  have HB4 : Hid (w.heap.size + 1 + 1 < B4) := by rw [hB4]; exact S3.out.f
  have Q4 : Hid (A.RowsAt w4 B4 0 m.gs) := by rw [hB4]; exact r4
  have LT4 : Hid (B4 < w4.heap.size) := by rw [hB4]; exact z4
  have Y4 : Hid (Below (w3.setCell ⟨w.heap.size + 1 + 1, 7, none⟩ (.slice (some ⟨B3, 0, none⟩) m.qs.length m.qs.length)).heap.size (w3.setCell ⟨w.heap.size + 1 + 1, 7, none⟩ (.slice (some ⟨B3, 0, none⟩) m.qs.length m.qs.length)) w4) := c4
  rw [← hB4]
  clear hB4 r4 z4 c4
  have S4 : Hid (St w #[.string m.nm, .bool m.up, .int .i64 m.ck, .bool m.kn, .int .i64 m.se, v1, v2, v3, v4] #[.string m.nm, .bool m.up, .int .i64 m.ck, .bool m.kn, .int .i64 m.se, .slice (some ⟨B1, 0, none⟩) m.ws.length m.ws.length, .slice (some ⟨B2, 0, none⟩) m.rs.length m.rs.length, .slice (some ⟨B3, 0, none⟩) m.qs.length m.qs.length, .slice (some ⟨B4, 0, none⟩) m.gs.length m.gs.length] (w4.setCell ⟨w.heap.size + 1 + 1, 8, none⟩ (.slice (some ⟨B4, 0, none⟩) m.gs.length m.gs.length))) := T4.out.set 8 (by simp) _
  have X4 : Hid (Ex (w.heap.size + 1 + 1) w4 (w4.setCell ⟨w.heap.size + 1 + 1, 8, none⟩ (.slice (some ⟨B4, 0, none⟩) m.gs.length m.gs.length))) := Ex.set (Ex.refl _ _) 8 _
  have hx1 : Ex (w.heap.size + 1) (w4.setCell ⟨w.heap.size + 1 + 1, 8, none⟩ (.slice (some ⟨B4, 0, none⟩) m.gs.length m.gs.length)) (World.setCells (w4.setCell ⟨w.heap.size + 1 + 1, 8, none⟩ (.slice (some ⟨B4, 0, none⟩) m.gs.length m.gs.length)) (w.heap.size + 1) 0 [.string m.nm, .bool m.up, .int .i64 m.ck, .bool m.kn, .int .i64 m.se, .slice (some ⟨B1, 0, none⟩) m.ws.length m.ws.length, .slice (some ⟨B2, 0, none⟩) m.rs.length m.rs.length, .slice (some ⟨B3, 0, none⟩) m.qs.length m.qs.length, .slice (some ⟨B4, 0, none⟩) m.gs.length m.gs.length]) := (Ex.refl _ _).cells _ _
  have B4' := X4.out.size
  have P4 : Hid (A.RowsAt (World.setCells (w4.setCell ⟨w.heap.size + 1 + 1, 8, none⟩ (.slice (some ⟨B4, 0, none⟩) m.gs.length m.gs.length)) (w.heap.size + 1) 0 [.string m.nm, .bool m.up, .int .i64 m.ck, .bool m.kn, .int .i64 m.se, .slice (some ⟨B1, 0, none⟩) m.ws.length m.ws.length, .slice (some ⟨B2, 0, none⟩) m.rs.length m.rs.length, .slice (some ⟨B3, 0, none⟩) m.qs.length m.qs.length, .slice (some ⟨B4, 0, none⟩) m.gs.length m.gs.length]) B4 0 m.gs) := A.RowsAt.exq (A.RowsAt.exq Q4.out LT4.out X4.out (by have := HB4.out; omega)) (Nat.lt_of_lt_of_le LT4.out X4.out.size) hx1 (by have := HB4.out; omega)
  have P3 : Hid (A.RowsAt (World.setCells (w4.setCell ⟨w.heap.size + 1 + 1, 8, none⟩ (.slice (some ⟨B4, 0, none⟩) m.gs.length m.gs.length)) (w.heap.size + 1) 0 [.string m.nm, .bool m.up, .int .i64 m.ck, .bool m.kn, .int .i64 m.se, .slice (some ⟨B1, 0, none⟩) m.ws.length m.ws.length, .slice (some ⟨B2, 0, none⟩) m.rs.length m.rs.length, .slice (some ⟨B3, 0, none⟩) m.qs.length m.qs.length, .slice (some ⟨B4, 0, none⟩) m.gs.length m.gs.length]) B3 0 m.qs) := A.RowsAt.exq (A.RowsAt.exq ((A.RowsAt.exq Q3.out LT3.out X3.out (by have := HB3.out; omega)).keep (Nat.lt_of_lt_of_le LT3.out X3.out.size) Y4.out) (Nat.lt_of_lt_of_le (Nat.lt_of_lt_of_le LT3.out X3.out.size) Y4.out.size) X4.out (by have := HB3.out; omega)) (Nat.lt_of_lt_of_le (Nat.lt_of_lt_of_le (Nat.lt_of_lt_of_le LT3.out X3.out.size) Y4.out.size) X4.out.size) hx1 (by have := HB3.out; omega)
  have LZ3 : Hid (B3 < w4.heap.size) := Nat.lt_of_lt_of_le (Nat.lt_of_lt_of_le LT3.out X3.out.size) Y4.out.size
  have q2a := RowsAt.exq Q2.out LT2.out X2.out (by have := HB2.out; omega)
  have q2b := q2a.keep (Nat.lt_of_lt_of_le LT2.out X2.out.size) Y3.out
  have z2b : B2 < w3.heap.size := Nat.lt_of_lt_of_le (Nat.lt_of_lt_of_le LT2.out X2.out.size) Y3.out.size
  have q2c := (RowsAt.exq q2b z2b X3.out (by have := HB2.out; omega)).keep (Nat.lt_of_lt_of_le z2b X3.out.size) Y4.out
  have z2c : B2 < w4.heap.size := Nat.lt_of_lt_of_le (Nat.lt_of_lt_of_le z2b X3.out.size) Y4.out.size
  have P2 : Hid (RowsAt (World.setCells (w4.setCell ⟨w.heap.size + 1 + 1, 8, none⟩ (.slice (some ⟨B4, 0, none⟩) m.gs.length m.gs.length)) (w.heap.size + 1) 0 [.string m.nm, .bool m.up, .int .i64 m.ck, .bool m.kn, .int .i64 m.se, .slice (some ⟨B1, 0, none⟩) m.ws.length m.ws.length, .slice (some ⟨B2, 0, none⟩) m.rs.length m.rs.length, .slice (some ⟨B3, 0, none⟩) m.qs.length m.qs.length, .slice (some ⟨B4, 0, none⟩) m.gs.length m.gs.length]) B2 0 m.rs) := RowsAt.exq (RowsAt.exq q2c z2c X4.out (by have := HB2.out; omega)) (Nat.lt_of_lt_of_le z2c X4.out.size) hx1 (by have := HB2.out; omega)
  have q1a := W.RowsAt.exq Q1.out LT1.out X1.out (by have := HB1.out; omega)
  have q1b := q1a.keep (Nat.lt_of_lt_of_le LT1.out X1.out.size) Y2.out
  have z1b : B1 < w2.heap.size := Nat.lt_of_lt_of_le (Nat.lt_of_lt_of_le LT1.out X1.out.size) Y2.out.size
  have q1c := (W.RowsAt.exq q1b z1b X2.out (by have := HB1.out; omega)).keep (Nat.lt_of_lt_of_le z1b X2.out.size) Y3.out
  have z1c : B1 < w3.heap.size := Nat.lt_of_lt_of_le (Nat.lt_of_lt_of_le z1b X2.out.size) Y3.out.size
  have q1d := (W.RowsAt.exq q1c z1c X3.out (by have := HB1.out; omega)).keep (Nat.lt_of_lt_of_le z1c X3.out.size) Y4.out
  have z1d : B1 < w4.heap.size := Nat.lt_of_lt_of_le (Nat.lt_of_lt_of_le z1c X3.out.size) Y4.out.size
  have P1 : Hid (W.RowsAt (World.setCells (w4.setCell ⟨w.heap.size + 1 + 1, 8, none⟩ (.slice (some ⟨B4, 0, none⟩) m.gs.length m.gs.length)) (w.heap.size + 1) 0 [.string m.nm, .bool m.up, .int .i64 m.ck, .bool m.kn, .int .i64 m.se, .slice (some ⟨B1, 0, none⟩) m.ws.length m.ws.length, .slice (some ⟨B2, 0, none⟩) m.rs.length m.rs.length, .slice (some ⟨B3, 0, none⟩) m.qs.length m.qs.length, .slice (some ⟨B4, 0, none⟩) m.gs.length m.gs.length]) B1 0 m.ws) := W.RowsAt.exq (W.RowsAt.exq q1d z1d X4.out (by have := HB1.out; omega)) (Nat.lt_of_lt_of_le z1d X4.out.size) hx1 (by have := HB1.out; omega)
  have zz : w4.heap.size ≤ (World.setCells (w4.setCell ⟨w.heap.size + 1 + 1, 8, none⟩ (.slice (some ⟨B4, 0, none⟩) m.gs.length m.gs.length)) (w.heap.size + 1) 0 [.string m.nm, .bool m.up, .int .i64 m.ck, .bool m.kn, .int .i64 m.se, .slice (some ⟨B1, 0, none⟩) m.ws.length m.ws.length, .slice (some ⟨B2, 0, none⟩) m.rs.length m.rs.length, .slice (some ⟨B3, 0, none⟩) m.qs.length m.qs.length, .slice (some ⟨B4, 0, none⟩) m.gs.length m.gs.length]).heap.size := Nat.le_trans X4.out.size hx1.size
  have LS : Hid (Lists (World.setCells (w4.setCell ⟨w.heap.size + 1 + 1, 8, none⟩ (.slice (some ⟨B4, 0, none⟩) m.gs.length m.gs.length)) (w.heap.size + 1) 0 [.string m.nm, .bool m.up, .int .i64 m.ck, .bool m.kn, .int .i64 m.se, .slice (some ⟨B1, 0, none⟩) m.ws.length m.ws.length, .slice (some ⟨B2, 0, none⟩) m.rs.length m.rs.length, .slice (some ⟨B3, 0, none⟩) m.qs.length m.qs.length, .slice (some ⟨B4, 0, none⟩) m.gs.length m.gs.length]) m B1 B2 B3 B4) := ⟨P1.out, P2.out, P3.out, P4.out, Nat.lt_of_lt_of_le z1d zz, Nat.lt_of_lt_of_le z2c zz, Nat.lt_of_lt_of_le LZ3.out zz, Nat.lt_of_lt_of_le LT4.out zz⟩
  have BE : Hid (Below w.heap.size w (World.setCells (w4.setCell ⟨w.heap.size + 1 + 1, 8, none⟩ (.slice (some ⟨B4, 0, none⟩) m.gs.length m.gs.length)) (w.heap.size + 1) 0 [.string m.nm, .bool m.up, .int .i64 m.ck, .bool m.kn, .int .i64 m.se, .slice (some ⟨B1, 0, none⟩) m.ws.length m.ws.length, .slice (some ⟨B2, 0, none⟩) m.rs.length m.rs.length, .slice (some ⟨B3, 0, none⟩) m.qs.length m.qs.length, .slice (some ⟨B4, 0, none⟩) m.gs.length m.gs.length])) := ⟨hx1.os.trans S4.out.e.os, hx1.tape.trans S4.out.e.tape, hx1.output.trans S4.out.e.output, Nat.le_trans S4.out.e.size hx1.size, fun k hk => (hx1.block k (Nat.lt_of_lt_of_le hk S4.out.e.size) (by omega)).trans (S4.out.e.block k hk)⟩
  have RG : Hid _ := World.rangeAt_setCells_same (w4.setCell ⟨w.heap.size + 1 + 1, 8, none⟩ (.slice (some ⟨B4, 0, none⟩) m.gs.length m.gs.length)) (w.heap.size + 1) 0 [.string m.nm, .bool m.up, .int .i64 m.ck, .bool m.kn, .int .i64 m.se, .slice (some ⟨B1, 0, none⟩) m.ws.length m.ws.length, .slice (some ⟨B2, 0, none⟩) m.rs.length m.rs.length, .slice (some ⟨B3, 0, none⟩) m.qs.length m.qs.length, .slice (some ⟨B4, 0, none⟩) m.gs.length m.gs.length] S4.out.d
  clear q2a q2b q2c z2b z2c q1a q1b q1c q1d z1b z1c z1d zz hx1 P1 P2 P3 P4 LZ3 B4'
  have kd := S4.out.d
  go_wp2_with (refine wpList_store_mid (by rfl) 27 _ _ (by rfl) (w.heap.size + 1) 0 #[.string m.nm, .bool m.up, .int .i64 m.ck, .bool m.kn, .int .i64 m.se, .slice (some ⟨B1, 0, none⟩) m.ws.length m.ws.length, .slice (some ⟨B2, 0, none⟩) m.rs.length m.rs.length, .slice (some ⟨B3, 0, none⟩) m.qs.length m.qs.length, .slice (some ⟨B4, 0, none⟩) m.gs.length m.gs.length] (by rfl) (by rfl) (by exact kd) hinfo (by simp [Value.oneCell']) ?_)
  have hrg := RG.out
  have d0 := hrg 0 _ rfl
  have d1 := hrg 1 _ rfl
  have d2 := hrg 2 _ rfl
  have d3 := hrg 3 _ rfl
  have d4 := hrg 4 _ rfl
  have d5 := hrg 5 _ rfl
  have d6 := hrg 6 _ rfl
  have d7 := hrg 7 _ rfl
  have d8 := hrg 8 _ rfl
  simp only [Nat.zero_add] at d0 d1 d2 d3 d4 d5 d6 d7 d8
  exact bodyPost_ret (v := .agg #[.string m.nm, .bool m.up, .int .i64 m.ck, .bool m.kn, .int .i64 m.se, .slice (some ⟨B1, 0, none⟩) m.ws.length m.ws.length, .slice (some ⟨B2, 0, none⟩) m.rs.length m.rs.length, .slice (some ⟨B3, 0, none⟩) m.qs.length m.qs.length, .slice (some ⟨B4, 0, none⟩) m.gs.length m.gs.length]) (by simp [results, Try.results48, go_sem, d0, d1, d2, d3, d4, d5, d6, d7, d8]) rfl ⟨B1, B2, B3, B4, rfl, LS.out, BE.out⟩
end Go.Proofs.Ytkebokkckmgloaa
/- FnExactMateValid: the law's walk. -/
namespace Go.Proofs.Ytkebokkckmgloaa
open Go.RowKit
set_option linter.unusedVariables false

set_option maxRecDepth 4000 in
set_option maxHeartbeats 4000000 in
theorem lawValid (m : MateD) (v1 v2 v3 v4 : Value) (w : World) (i1 : W.In w v1 m.ws) (i2 : In w v2 m.rs) (i3 : A.In w v3 m.qs) (i4 : A.In w v4 m.gs) (hn : m.nm.size ≤ maxLen) :
    Calls Try.prog 10 #[.agg #[.string m.nm, .bool m.up, .int .i64 m.ck, .bool m.kn, .int .i64 m.se, v1, v2, v3, v4]] w fun e w' => e = .returned (.bool true) ∧ Below w.heap.size w w' := by
  have Hb0 : Hid (Below w.heap.size w (w.alloc (.cells #[.string m.nm, .bool m.up, .int .i64 m.ck, .bool m.kn, .int .i64 m.se, v1, v2, v3, v4] 70))) := bl_alloc (Below.refl _ _) _
  go_enter Try.func10, Try.ntmps10
  go_wp2_with fail
  refine (szMate_any m v1 v2 v3 v4 _ (i1.keep Hb0.out) (i2.keep Hb0.out) (i3.keep Hb0.out) (i4.keep Hb0.out) hn).mono ?_
  rintro e w1 ⟨hx, c1⟩
  have D1 : Hid (Below (w.alloc (.cells #[.string m.nm, .bool m.up, .int .i64 m.ck, .bool m.kn, .int .i64 m.se, v1, v2, v3, v4] 70)).heap.size (w.alloc (.cells #[.string m.nm, .bool m.up, .int .i64 m.ck, .bool m.kn, .int .i64 m.se, v1, v2, v3, v4] 70)) w1) := c1
  have C1 : Hid (Below w.heap.size w w1) := bl_trans Hb0.out c1
  clear c1
  have ka := box_keep D1.out
  rcases hx with rfl | ⟨x, rfl, x0, l1, l2, l3, l4⟩
  · go_wp2
    go_ret
    exact ⟨rfl, C1.out⟩
  have hf : m.fits := ⟨hn, i1.fits, i2.fits, i3.fits, i4.fits, l1, l2, l3, l4⟩
  go_wp2_with fail
  refine (toMate_any m v1 v2 v3 v4 _ (i1.keep C1.out) (i2.keep C1.out) (i3.keep C1.out) (i4.keep C1.out) l1 l2 l3 l4).mono ?_
  rintro e w2 ⟨b1, b2, b3, b4, rfl, hL2, c2⟩
  have D2 : Hid (Below (w.alloc (.cells #[.string m.nm, .bool m.up, .int .i64 m.ck, .bool m.kn, .int .i64 m.se, v1, v2, v3, v4] 70)).heap.size (w.alloc (.cells #[.string m.nm, .bool m.up, .int .i64 m.ck, .bool m.kn, .int .i64 m.se, v1, v2, v3, v4] 70)) w2) := bl_trans D1.out c2
  have C2 : Hid (Below w.heap.size w w2) := bl_trans C1.out c2
  clear c2 ka
  go_wp2_with fail
  refine (specValid m b1 b2 b3 b4 _ hL2 hf).mono ?_
  rintro e w3 ⟨⟨q1, rfl, h1⟩, c3⟩
  have H1 : Hid _ := h1
  have D3 : Hid (Below (w.alloc (.cells #[.string m.nm, .bool m.up, .int .i64 m.ck, .bool m.kn, .int .i64 m.se, v1, v2, v3, v4] 70)).heap.size (w.alloc (.cells #[.string m.nm, .bool m.up, .int .i64 m.ck, .bool m.kn, .int .i64 m.se, v1, v2, v3, v4] 70)) w3) := bl_trans D2.out c3
  have C3 : Hid (Below w.heap.size w w3) := bl_trans C2.out c3
  clear c3 h1 hL2
  have ka := box_keep D3.out
  go_wp2_with fail
  refine (toMate_any m v1 v2 v3 v4 _ (i1.keep C3.out) (i2.keep C3.out) (i3.keep C3.out) (i4.keep C3.out) l1 l2 l3 l4).mono ?_
  rintro e w4 ⟨e1, e2, e3, e4, rfl, hL4, c4⟩
  have D4 : Hid (Below (w.alloc (.cells #[.string m.nm, .bool m.up, .int .i64 m.ck, .bool m.kn, .int .i64 m.se, v1, v2, v3, v4] 70)).heap.size (w.alloc (.cells #[.string m.nm, .bool m.up, .int .i64 m.ck, .bool m.kn, .int .i64 m.se, v1, v2, v3, v4] 70)) w4) := bl_trans D3.out c4
  have C4 : Hid (Below w.heap.size w w4) := bl_trans C3.out c4
  clear c4 ka
  have hb4 : Below w4.heap.size w4 (w4.alloc (.cells #[.string m.nm, .bool m.up, .int .i64 m.ck, .bool m.kn, .int .i64 m.se, .slice (some ⟨e1, 0, none⟩) m.ws.length m.ws.length, .slice (some ⟨e2, 0, none⟩) m.rs.length m.rs.length, .slice (some ⟨e3, 0, none⟩) m.qs.length m.qs.length, .slice (some ⟨e4, 0, none⟩) m.gs.length m.gs.length] 27)) := bl_alloc (Below.refl _ _) _
  have L5 : Hid (Lists (w4.alloc (.cells #[.string m.nm, .bool m.up, .int .i64 m.ck, .bool m.kn, .int .i64 m.se, .slice (some ⟨e1, 0, none⟩) m.ws.length m.ws.length, .slice (some ⟨e2, 0, none⟩) m.rs.length m.rs.length, .slice (some ⟨e3, 0, none⟩) m.qs.length m.qs.length, .slice (some ⟨e4, 0, none⟩) m.gs.length m.gs.length] 27)) m e1 e2 e3 e4) := hL4.keep hb4
  have D5 : Hid (Below (w.alloc (.cells #[.string m.nm, .bool m.up, .int .i64 m.ck, .bool m.kn, .int .i64 m.se, v1, v2, v3, v4] 70)).heap.size (w.alloc (.cells #[.string m.nm, .bool m.up, .int .i64 m.ck, .bool m.kn, .int .i64 m.se, v1, v2, v3, v4] 70)) (w4.alloc (.cells #[.string m.nm, .bool m.up, .int .i64 m.ck, .bool m.kn, .int .i64 m.se, .slice (some ⟨e1, 0, none⟩) m.ws.length m.ws.length, .slice (some ⟨e2, 0, none⟩) m.rs.length m.rs.length, .slice (some ⟨e3, 0, none⟩) m.qs.length m.qs.length, .slice (some ⟨e4, 0, none⟩) m.gs.length m.gs.length] 27))) := bl_trans D4.out hb4
  have C5 : Hid (Below w.heap.size w (w4.alloc (.cells #[.string m.nm, .bool m.up, .int .i64 m.ck, .bool m.kn, .int .i64 m.se, .slice (some ⟨e1, 0, none⟩) m.ws.length m.ws.length, .slice (some ⟨e2, 0, none⟩) m.rs.length m.rs.length, .slice (some ⟨e3, 0, none⟩) m.qs.length m.qs.length, .slice (some ⟨e4, 0, none⟩) m.gs.length m.gs.length] 27))) := bl_trans C4.out hb4
  clear hb4 hL4
  go_wp2_with fail
  refine (implValid m e1 e2 e3 e4 _ L5.out hf).mono ?_
  rintro e w5 ⟨⟨q2, rfl, h2⟩, c5⟩
  obtain rfl : q2 = q1 := by
    have := H1.out.trans h2.symm
    cases q1 <;> cases q2 <;> simp_all
  clear H1 h2
  have D6 : Hid (Below (w.alloc (.cells #[.string m.nm, .bool m.up, .int .i64 m.ck, .bool m.kn, .int .i64 m.se, v1, v2, v3, v4] 70)).heap.size (w.alloc (.cells #[.string m.nm, .bool m.up, .int .i64 m.ck, .bool m.kn, .int .i64 m.se, v1, v2, v3, v4] 70)) w5) := bl_trans D5.out c5
  have C6 : Hid (Below w.heap.size w w5) := bl_trans C5.out c5
  have L6 : Hid (Lists w5 m e1 e2 e3 e4) := L5.out.keep c5
  have hA : Hid (∀ k, w5.cell? ⟨w.heap.size, k, none⟩ = (#[.string m.nm, .bool m.up, .int .i64 m.ck, .bool m.kn, .int .i64 m.se, v1, v2, v3, v4] : Array Value)[k]?) := fun k => by rw [box_keep D6.out k]; simp [go_sem]
  have hX : Hid (∀ k, w5.cell? ⟨w4.heap.size, k, none⟩ = (#[.string m.nm, .bool m.up, .int .i64 m.ck, .bool m.kn, .int .i64 m.se, .slice (some ⟨e1, 0, none⟩) m.ws.length m.ws.length, .slice (some ⟨e2, 0, none⟩) m.rs.length m.rs.length, .slice (some ⟨e3, 0, none⟩) m.qs.length m.qs.length, .slice (some ⟨e4, 0, none⟩) m.gs.length m.gs.length] : Array Value)[k]?) := fun k => by rw [box_keep c5 k]; simp [go_sem]
  have zA : Hid (w.heap.size < w5.heap.size) := by have := D6.out.size; simp at this; show _ < _; omega
  have zX : Hid (w4.heap.size < w5.heap.size) := by have := c5.size; simp at this; show _ < _; omega
  clear c5
  cases q2
  · go_wp2_with fail
    go_region_held3 (fun y => Below w5.heap.size w5 y ∧ (y.cell? ⟨w.heap.size, 0, none⟩ = some (.string m.nm) ∧ y.cell? ⟨w.heap.size, 1, none⟩ = some (.bool m.up) ∧ y.cell? ⟨w.heap.size, 2, none⟩ = some (.int .i64 m.ck) ∧ y.cell? ⟨w.heap.size, 3, none⟩ = some (.bool m.kn) ∧ y.cell? ⟨w.heap.size, 4, none⟩ = some (.int .i64 m.se) ∧ y.cell? ⟨w.heap.size, 5, none⟩ = some (v1) ∧ y.cell? ⟨w.heap.size, 6, none⟩ = some (v2) ∧ y.cell? ⟨w.heap.size, 7, none⟩ = some (v3) ∧ y.cell? ⟨w.heap.size, 8, none⟩ = some (v4) ∧ y.cell? ⟨w4.heap.size, 0, none⟩ = some (.string m.nm) ∧ y.cell? ⟨w4.heap.size, 1, none⟩ = some (.bool m.up) ∧ y.cell? ⟨w4.heap.size, 2, none⟩ = some (.int .i64 m.ck) ∧ y.cell? ⟨w4.heap.size, 3, none⟩ = some (.bool m.kn) ∧ y.cell? ⟨w4.heap.size, 4, none⟩ = some (.int .i64 m.se) ∧ y.cell? ⟨w4.heap.size, 5, none⟩ = some (.slice (some ⟨e1, 0, none⟩) m.ws.length m.ws.length) ∧ y.cell? ⟨w4.heap.size, 6, none⟩ = some (.slice (some ⟨e2, 0, none⟩) m.rs.length m.rs.length) ∧ y.cell? ⟨w4.heap.size, 7, none⟩ = some (.slice (some ⟨e3, 0, none⟩) m.qs.length m.qs.length) ∧ y.cell? ⟨w4.heap.size, 8, none⟩ = some (.slice (some ⟨e4, 0, none⟩) m.gs.length m.gs.length)))
      (first | exact lawK hA.out hX.out zA.out zX.out (bl_drew (Below.refl _ _)) | exact lawK hA.out hX.out zA.out zX.out (bl_trans (bl_drew (Below.refl _ _)) hy) | exact lawK hA.out hX.out zA.out zX.out (bl_trans (bl_trans (bl_drew (Below.refl _ _)) hy) hz))
      (first | (go_at_call 48; refine (toMate_any m v1 v2 v3 v4 _ (i1.keep (bl_trans C6.out (bl_drew (Below.refl _ _)))) (i2.keep (bl_trans C6.out (bl_drew (Below.refl _ _)))) (i3.keep (bl_trans C6.out (bl_drew (Below.refl _ _)))) (i4.keep (bl_trans C6.out (bl_drew (Below.refl _ _)))) l1 l2 l3 l4).mono ?_; rintro e y' ⟨f1, f2, f3, f4, rfl, hL7, hy⟩) | (go_at_call 49; refine (eqMate_same m e1 e2 e3 e4 f1 f2 f3 f4 _ (L6.out.keep (bl_trans (bl_drew (Below.refl _ _)) hy)) hL7 hf).mono ?_; rintro e y'' ⟨rfl, hz⟩))
    have C7 : Hid _ := bl_trans C6.out (bl_trans (bl_trans (bl_drew (Below.refl _ w5)) hy) hz)
    clear hy hz hL7
    go_wp2
    go_ret
    exact ⟨rfl, C7.out⟩
  · go_wp2_with fail
    go_region_held3 (fun y => Below w5.heap.size w5 y ∧ (y.cell? ⟨w.heap.size, 0, none⟩ = some (.string m.nm) ∧ y.cell? ⟨w.heap.size, 1, none⟩ = some (.bool m.up) ∧ y.cell? ⟨w.heap.size, 2, none⟩ = some (.int .i64 m.ck) ∧ y.cell? ⟨w.heap.size, 3, none⟩ = some (.bool m.kn) ∧ y.cell? ⟨w.heap.size, 4, none⟩ = some (.int .i64 m.se) ∧ y.cell? ⟨w.heap.size, 5, none⟩ = some (v1) ∧ y.cell? ⟨w.heap.size, 6, none⟩ = some (v2) ∧ y.cell? ⟨w.heap.size, 7, none⟩ = some (v3) ∧ y.cell? ⟨w.heap.size, 8, none⟩ = some (v4) ∧ y.cell? ⟨w4.heap.size, 0, none⟩ = some (.string m.nm) ∧ y.cell? ⟨w4.heap.size, 1, none⟩ = some (.bool m.up) ∧ y.cell? ⟨w4.heap.size, 2, none⟩ = some (.int .i64 m.ck) ∧ y.cell? ⟨w4.heap.size, 3, none⟩ = some (.bool m.kn) ∧ y.cell? ⟨w4.heap.size, 4, none⟩ = some (.int .i64 m.se) ∧ y.cell? ⟨w4.heap.size, 5, none⟩ = some (.slice (some ⟨e1, 0, none⟩) m.ws.length m.ws.length) ∧ y.cell? ⟨w4.heap.size, 6, none⟩ = some (.slice (some ⟨e2, 0, none⟩) m.rs.length m.rs.length) ∧ y.cell? ⟨w4.heap.size, 7, none⟩ = some (.slice (some ⟨e3, 0, none⟩) m.qs.length m.qs.length) ∧ y.cell? ⟨w4.heap.size, 8, none⟩ = some (.slice (some ⟨e4, 0, none⟩) m.gs.length m.gs.length)))
      (first | exact lawK hA.out hX.out zA.out zX.out (bl_drew (Below.refl _ _)) | exact lawK hA.out hX.out zA.out zX.out (bl_trans (bl_drew (Below.refl _ _)) hy) | exact lawK hA.out hX.out zA.out zX.out (bl_trans (bl_trans (bl_drew (Below.refl _ _)) hy) hz))
      (first | (go_at_call 48; refine (toMate_any m v1 v2 v3 v4 _ (i1.keep (bl_trans C6.out (bl_drew (Below.refl _ _)))) (i2.keep (bl_trans C6.out (bl_drew (Below.refl _ _)))) (i3.keep (bl_trans C6.out (bl_drew (Below.refl _ _)))) (i4.keep (bl_trans C6.out (bl_drew (Below.refl _ _)))) l1 l2 l3 l4).mono ?_; rintro e y' ⟨f1, f2, f3, f4, rfl, hL7, hy⟩) | (go_at_call 49; refine (eqMate_same m e1 e2 e3 e4 f1 f2 f3 f4 _ (L6.out.keep (bl_trans (bl_drew (Below.refl _ _)) hy)) hL7 hf).mono ?_; rintro e y'' ⟨rfl, hz⟩))
    have C7 : Hid _ := bl_trans C6.out (bl_trans (bl_trans (bl_drew (Below.refl _ w5)) hy) hz)
    clear hy hz hL7
    go_wp2
    go_ret
    exact ⟨rfl, C7.out⟩
end Go.Proofs.Ytkebokkckmgloaa
