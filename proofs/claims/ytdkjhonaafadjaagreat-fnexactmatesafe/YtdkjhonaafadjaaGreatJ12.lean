import Derived.Test.YtdkjhonaafadjaaGreatJ03
import Derived.Test.YtdkjhonaafadjaaGreatJ11
import Derived.Test.YtdkjhonaafadjaaGreatJ10
import Derived.Test.YtdkjhonaafadjaaGreatJ04
import Derived.Test.YtdkjhonaafadjaaGreatJ09
import Derived.Deep.RegionHeld3
import Derived.Laws.Pointers
import Derived.StillTactics
/- A world is measured, copied, held against another. -/
namespace Go.Proofs.YtdkjhonaafadjaaGreat
open Go.RowKit
set_option linter.unusedVariables false

/-- A book's lists are the call's own, from block B on. -/
structure LandOwn (w : World) (gs : List G.GrantD) (ps : List P.PlaceD) (b1 b2 B : Nat) : Prop where
  a : P.LandAt w gs ps b1 b2
  l1 : B ≤ b1
  l2 : B ≤ b2
  k : ∀ q ∈ ps, q.blk B w
theorem LandOwn.keep {w w' : World} {gs : List G.GrantD} {ps : List P.PlaceD} {b1 b2 B : Nat} (h : LandOwn w gs ps b1 b2 B) (hb : Below w.heap.size w w') : LandOwn w' gs ps b1 b2 B := ⟨h.a.keep hb, h.l1, h.l2, fun q hq => (h.k q hq).keep hb⟩
theorem LandOwn.ex {w w' : World} {gs : List G.GrantD} {ps : List P.PlaceD} {b1 b2 B k : Nat} (h : LandOwn w gs ps b1 b2 B) (he : Ex k w w') (hk : k < B) : LandOwn w' gs ps b1 b2 B :=
  have hB : ∀ q ∈ ps, q.blk B w' := fun q hq => (h.k q hq).ex he (by omega)
  ⟨⟨G.RowsAt.exq h.a.g h.a.g1 he (by have := h.l1; omega), Nat.lt_of_lt_of_le h.a.g1 he.size, P.RowsAt.exq h.a.p h.a.p1 he (by have := h.l2; omega), Nat.lt_of_lt_of_le h.a.p1 he.size, fun q hq => (hB q hq).low (Nat.zero_le _)⟩, h.l1, h.l2, hB⟩
theorem Mt.RowsAt.exq {kr : Nat} {w w' : World} {b off : Nat} {rs : List Mt.MRow} (h : Mt.RowsAt w b off rs) (hb : b < w.heap.size) (hE : Ex kr w w') (hne : b ≠ kr) : Mt.RowsAt w' b off rs :=
  fun k r hk j v hj => (hE.cell (p := ⟨b, off + k * 9 + j, none⟩) hb hne).trans (h k r hk j v hj)
/-- A list of mates, from block B on. -/
structure MatesOwn (w : World) (rs : List Mt.MRow) (b B : Nat) : Prop where
  r : Mt.RowsAt w b 0 rs
  l : b < w.heap.size
  z : B ≤ b
  k : Mt.Blks B w rs
theorem MatesOwn.keep {w w' : World} {rs : List Mt.MRow} {b B : Nat} (h : MatesOwn w rs b B) (hb : Below w.heap.size w w') : MatesOwn w' rs b B := ⟨h.r.keep h.l hb, Nat.lt_of_lt_of_le h.l hb.size, h.z, h.k.keep hb⟩
theorem MatesOwn.ex {w w' : World} {rs : List Mt.MRow} {b B k : Nat} (h : MatesOwn w rs b B) (he : Ex k w w') (hk : k < B) : MatesOwn w' rs b B :=
  ⟨h.r.exq h.l he (by have := h.z; omega), Nat.lt_of_lt_of_le h.l he.size, h.z, fun r hr => by
    obtain ⟨g1, g2, g3, g4, hg⟩ := h.k r hr
    exact ⟨g1, g2, g3, g4, hg.ex he (by omega)⟩⟩
structure TextsOwn (w : World) (fs : List ByteArray) (b B : Nat) : Prop where
  r : Tx.RowsAt w b 0 fs
  l : b < w.heap.size
  z : B ≤ b
theorem TextsOwn.keep {w w' : World} {fs : List ByteArray} {b B : Nat} (h : TextsOwn w fs b B) (hb : Below w.heap.size w w') : TextsOwn w' fs b B := ⟨h.r.keep h.l hb, Nat.lt_of_lt_of_le h.l hb.size, h.z⟩
theorem TextsOwn.ex {w w' : World} {fs : List ByteArray} {b B k : Nat} (h : TextsOwn w fs b B) (he : Ex k w w') (hk : k < B) : TextsOwn w' fs b B := ⟨h.r.exq h.l he (by have := h.z; omega), Nat.lt_of_lt_of_le h.l he.size, h.z⟩
/-- A world's lists, from block B on. -/
structure WorldAt (w : World) (gs : List G.GrantD) (ps : List P.PlaceD) (ms : List Mt.MRow) (fs : List ByteArray) (b1 b2 b3 b4 B : Nat) : Prop where
  a : LandOwn w gs ps b1 b2 B
  m : MatesOwn w ms b3 B
  f : TextsOwn w fs b4 B
theorem WorldAt.keep {w w' : World} {gs : List G.GrantD} {ps : List P.PlaceD} {ms : List Mt.MRow} {fs : List ByteArray} {b1 b2 b3 b4 B : Nat} (h : WorldAt w gs ps ms fs b1 b2 b3 b4 B) (hb : Below w.heap.size w w') : WorldAt w' gs ps ms fs b1 b2 b3 b4 B := ⟨h.a.keep hb, h.m.keep hb, h.f.keep hb⟩
theorem world_low {w : World} {gs : List G.GrantD} {ps : List P.PlaceD} {ms : List Mt.MRow} {fs : List ByteArray} {b1 b2 b3 b4 B B' : Nat} (h : WorldAt w gs ps ms fs b1 b2 b3 b4 B) (hB : B' ≤ B) : WorldAt w gs ps ms fs b1 b2 b3 b4 B' :=
  ⟨⟨h.a.a, Nat.le_trans hB h.a.l1, Nat.le_trans hB h.a.l2, fun q hq => (h.a.k q hq).low hB⟩, ⟨h.m.r, h.m.l, Nat.le_trans hB h.m.z, fun r hr => by
    obtain ⟨g1, g2, g3, g4, hg⟩ := h.m.k r hr
    exact ⟨g1, g2, g3, g4, hg.low hB⟩⟩, ⟨h.f.r, h.f.l, Nat.le_trans hB h.f.z⟩⟩
/-- What came in. -/
structure WorldIn (w : World) (gs : List G.GrantD) (ps : List P.PlaceD) (ms : List Mt.MRow) (fs : List ByteArray) (v1 v2 v3 v4 : Value) : Prop where
  i1 : G.In w v1 gs
  i2 : P.In w v2 ps
  i3 : Mt.In w v3 ms
  i4 : Tx.In w v4 fs
theorem WorldIn.keep {w w' : World} {gs : List G.GrantD} {ps : List P.PlaceD} {ms : List Mt.MRow} {fs : List ByteArray} {v1 v2 v3 v4 : Value} (h : WorldIn w gs ps ms fs v1 v2 v3 v4) (hb : Below w.heap.size w w') : WorldIn w' gs ps ms fs v1 v2 v3 v4 := ⟨h.i1.keep hb, h.i2.keep hb, h.i3.keep hb, h.i4.keep hb⟩
structure WorldLen (gs : List G.GrantD) (ps : List P.PlaceD) (ms : List Mt.MRow) (fs : List ByteArray) : Prop where
  l1 : gs.length ≤ 1048576
  l2 : ps.length ≤ 1048576
  p : P.Lns ps
  l3 : ms.length ≤ 1048576
  m : Mt.Lns ms
  l4 : fs.length ≤ 1048576
theorem world_box {w w' : World} {t : Int} {v1 v2 v3 v4 : Value} (hb : Below (w.alloc (.cells #[.int .i64 t, v1, v2, v3, v4] 43)).heap.size (w.alloc (.cells #[.int .i64 t, v1, v2, v3, v4] 43)) w') : ∀ k, w'.cell? ⟨w.heap.size, k, none⟩ = (#[.int .i64 t, v1, v2, v3, v4] : Array Value)[k]? := by
  intro k
  rw [hb.cell (p := ⟨w.heap.size, k, none⟩) (by simp)]
  simp [go_sem]

set_option maxRecDepth 4000 in
set_option maxHeartbeats 2000000 in
theorem szWorld (t : Int) (gs : List G.GrantD) (ps : List P.PlaceD) (ms : List Mt.MRow) (fs : List ByteArray) (v1 v2 v3 v4 : Value) (w : World) (hi : WorldIn w gs ps ms fs v1 v2 v3 v4) :
    Calls Tryz.prog 16 #[.agg #[.int .i64 t, v1, v2, v3, v4], .int .i64 1048576] w fun e w' => (e = .returned (.int .i64 (-1)) ∨ ∃ x : Int, e = .returned (.int .i64 x) ∧ 0 ≤ x ∧ WorldLen gs ps ms fs) ∧ Below w.heap.size w w' := by
  have Hb0 : Hid (Below w.heap.size w (w.alloc (.cells #[.int .i64 t, v1, v2, v3, v4] 43))) := bl_alloc (Below.refl _ _) _
  have Hi : Hid (WorldIn w gs ps ms fs v1 v2 v3 v4) := hi
  clear hi
  go_enter Tryz.func16, Tryz.ntmps16
  go_wp2_with fail
  refine (P.szLand_le t gs ps v1 v2 _ (Hi.out.keep Hb0.out).i1 (Hi.out.keep Hb0.out).i2).mono ?_
  rintro e w1 ⟨hx1, c1⟩
  have C1 : Hid (Below w.heap.size w w1) := bl_trans Hb0.out c1
  have kb1 := world_box c1
  have D1 : Hid (Below (w.alloc (.cells #[.int .i64 t, v1, v2, v3, v4] 43)).heap.size (w.alloc (.cells #[.int .i64 t, v1, v2, v3, v4] 43)) w1) := c1
  clear c1
  rcases hx1 with rfl | ⟨x1, rfl, p1, r1, l1, l2, hL⟩
  · go_wp2
    go_ret
    exact ⟨Or.inl rfl, C1.out⟩
  have HL : Hid _ := hL
  clear hL
  go_wp2_with fail
  refine (Mt.sz_in (Hi.out.keep C1.out).i3 x1 (by omega) (by omega)).mono ?_
  rintro e w2 ⟨hx2, c2⟩
  have C2 : Hid (Below w.heap.size w w2) := bl_trans C1.out c2
  clear kb1
  have kb2 := world_box (bl_trans D1.out c2)
  clear c2
  rcases hx2 with rfl | ⟨x2, rfl, p2, r2, l3, hM⟩
  · go_wp2
    go_ret
    exact ⟨Or.inl rfl, C2.out⟩
  have HM : Hid _ := hM
  clear hM
  go_wp2_with fail
  refine (Tx.sz_in (Hi.out.keep C2.out).i4 x2 (by omega) (by omega)).mono ?_
  rintro e w3 ⟨hx3, c3⟩
  have C3 : Hid (Below w.heap.size w w3) := bl_trans C2.out c3
  clear kb2 c3
  rcases hx3 with rfl | ⟨x3, rfl, p3, r3, l4⟩
  · go_wp2
    go_ret
    exact ⟨Or.inl rfl, C3.out⟩
  go_wp2
  go_ret
  exact ⟨Or.inr ⟨x3, rfl, p3, ⟨l1, l2, HL.out, l3, HM.out, l4⟩⟩, C3.out⟩

/-- While a mate is copied: what came in, what is laid out so far. -/
structure St5 (w : World) (L O : Array Value) (x : World) : Prop where
  a : ∀ k, x.cell? ⟨w.heap.size, k, none⟩ = L[k]?
  b : ∀ k, x.cell? ⟨w.heap.size + 1 + 1, k, none⟩ = O[k]?
  c : ∀ k, x.frozen? ⟨w.heap.size + 1 + 1, k, none⟩ = false
  d : x.there (w.heap.size + 1) 0 5
  e : Below w.heap.size w x
  f : w.heap.size + 1 + 1 < x.heap.size
theorem St5.below {w x y : World} {L O : Array Value} (h : St5 w L O x) (hb : Below x.heap.size x y) : St5 w L O y :=
  have hf := h.f
  ⟨fun k => (hb.cell (p := ⟨w.heap.size, k, none⟩) (by show w.heap.size < _; omega)).trans (h.a k), fun k => (hb.cell (p := ⟨w.heap.size + 1 + 1, k, none⟩) hf).trans (h.b k), fun k => (hb.frozen (p := ⟨w.heap.size + 1 + 1, k, none⟩) hf).trans (h.c k),
    fun j hj => ⟨by rw [hb.cell (p := ⟨w.heap.size + 1, 0 + j, none⟩) (by show w.heap.size + 1 < _; omega)]; exact (h.d j hj).1, by rw [hb.frozen (p := ⟨w.heap.size + 1, 0 + j, none⟩) (by show w.heap.size + 1 < _; omega)]; exact (h.d j hj).2⟩,
    bl_trans h.e hb, Nat.lt_of_lt_of_le hf hb.size⟩
theorem St5.set {w x : World} {L O : Array Value} (h : St5 w L O x) (j : Nat) (hj : j < O.size) (u : Value) : St5 w L (O.setIfInBounds j u) (x.setCell ⟨w.heap.size + 1 + 1, j, none⟩ u) := by
  have he : Ex (w.heap.size + 1 + 1) x (x.setCell ⟨w.heap.size + 1 + 1, j, none⟩ u) := (Ex.refl _ _).set j u
  have hf := h.f
  refine ⟨fun k => (he.cell (p := ⟨w.heap.size, k, none⟩) (by show w.heap.size < _; omega) (by show w.heap.size ≠ _; omega)).trans (h.a k), fun k => ?_, fun k => ?_, there_ex h.d (by omega) he (by omega), bl_set (p := ⟨w.heap.size + 1 + 1, j, none⟩) h.e (by show w.heap.size ≤ w.heap.size + 1 + 1; omega) u, Nat.lt_of_lt_of_le hf he.size⟩
  · by_cases e : k = j
    · subst e
      have h1 := h.b k
      have h2 := h.c k
      rw [Array.getElem?_eq_getElem hj] at h1
      rw [Array.getElem?_setIfInBounds_self_of_lt hj]
      exact World.cell?_setCell_same _ _ _ h1
    · rw [Array.getElem?_setIfInBounds_ne (fun h' => e h'.symm), ← h.b k]
      exact World.cell?_setCell_other _ _ _ _ (fun h' => e (by have := congrArg Addr.off h'; exact this.symm))
  · rw [World.frozen?_setCell]; exact h.c k
theorem st5_new (t : Int) (v1 v2 v3 v4 : Value) (w : World) : St5 w #[.int .i64 t, v1, v2, v3, v4] #[.int .i64 0, .slice none 0 0, .slice none 0 0, .slice none 0 0, .slice none 0 0] (((w.alloc (.cells #[.int .i64 t, v1, v2, v3, v4] 43)).alloc (.cells #[.int .i64 0, .slice none 0 0, .slice none 0 0, .slice none 0 0, .slice none 0 0] 30)).alloc (.cells #[.int .i64 0, .slice none 0 0, .slice none 0 0, .slice none 0 0, .slice none 0 0] 30)) := by
  refine ⟨fun k => by simp [go_sem, World.cell?_alloc_past], fun k => by simp [go_sem], fun k => by simp [go_sem], fun j hj => ⟨by simp [go_sem, World.cell?_alloc_past] <;> omega, by simp [go_sem]⟩, bl_alloc (bl_alloc (bl_alloc (Below.refl _ _) _) _) _, by simp⟩

set_option maxRecDepth 4000 in
set_option maxHeartbeats 4000000 in
theorem toWorld (t : Int) (gs : List G.GrantD) (ps : List P.PlaceD) (ms : List Mt.MRow) (fs : List ByteArray) (v1 v2 v3 v4 : Value) (w : World) (hi : WorldIn w gs ps ms fs v1 v2 v3 v4) (hl : WorldLen gs ps ms fs) :
    Calls Tryz.prog 18 #[.agg #[.int .i64 t, v1, v2, v3, v4]] w fun e w' => (∃ b1 b2 b3 b4 qs rs, e = .returned (.agg #[.int .i64 t, .slice (some ⟨b1, 0, none⟩) gs.length gs.length, .slice (some ⟨b2, 0, none⟩) qs.length qs.length, .slice (some ⟨b3, 0, none⟩) rs.length rs.length, .slice (some ⟨b4, 0, none⟩) fs.length fs.length]) ∧ P.Like qs ps ∧ Mt.Like rs ms ∧ WorldAt w' gs qs rs fs b1 b2 b3 b4 w.heap.size) ∧ Below w.heap.size w w' := by
  have S0 : Hid (St5 w #[.int .i64 t, v1, v2, v3, v4] #[.int .i64 0, .slice none 0 0, .slice none 0 0, .slice none 0 0, .slice none 0 0] (((w.alloc (.cells #[.int .i64 t, v1, v2, v3, v4] 43)).alloc (.cells #[.int .i64 0, .slice none 0 0, .slice none 0 0, .slice none 0 0, .slice none 0 0] 30)).alloc (.cells #[.int .i64 0, .slice none 0 0, .slice none 0 0, .slice none 0 0, .slice none 0 0] 30))) := st5_new t v1 v2 v3 v4 w
  have Hi : Hid (WorldIn w gs ps ms fs v1 v2 v3 v4) := hi
  have Hl : Hid (WorldLen gs ps ms fs) := hl
  clear hi hl
  have hinfo : (Tryz.prog.info? 30).map (·.size) = some 5 := by kernel_rfl
  go_enter Tryz.func18, Tryz.ntmps18
  go_wp2_with fail
  have hto1 := P.toLand_own t gs ps v1 v2 _ (Hi.out.keep S0.out.e).i1 (Hi.out.keep S0.out.e).i2 Hl.out.l1 Hl.out.l2 Hl.out.p
  refine hto1.mono ?_
  clear hto1
  rintro e w1 ⟨⟨b1, b2, qs, rfl, hs, hA, z1, z2, hk⟩, c1⟩
  have T1 : Hid (St5 w #[.int .i64 t, v1, v2, v3, v4] #[.int .i64 0, .slice none 0 0, .slice none 0 0, .slice none 0 0, .slice none 0 0] w1) := S0.out.below c1
  have ka := T1.out.a
  have ko := T1.out.b
  have kf := T1.out.c
  have kz := T1.out.f
  have Hs : Hid (P.Like qs ps) := hs
  have zx : w.heap.size + 1 + 1 < (((w.alloc (.cells #[.int .i64 t, v1, v2, v3, v4] 43)).alloc (.cells #[.int .i64 0, .slice none 0 0, .slice none 0 0, .slice none 0 0, .slice none 0 0] 30)).alloc (.cells #[.int .i64 0, .slice none 0 0, .slice none 0 0, .slice none 0 0, .slice none 0 0] 30)).heap.size := S0.out.f
  have L1 : Hid (LandOwn w1 gs qs b1 b2 (w.heap.size + 1 + 1 + 1)) := ⟨hA, Nat.le_trans zx z1, Nat.le_trans zx z2, fun q hq => (hk q hq).low zx⟩
  clear hs hA z1 z2 hk c1 zx
  have S1 : Hid (St5 w #[.int .i64 t, v1, v2, v3, v4] #[.int .i64 t, .slice (some ⟨b1, 0, none⟩) gs.length gs.length, .slice (some ⟨b2, 0, none⟩) qs.length qs.length, .slice none 0 0, .slice none 0 0] (((w1.setCell ⟨w.heap.size + 1 + 1, 0, none⟩ (.int .i64 t)).setCell ⟨w.heap.size + 1 + 1, 1, none⟩ (.slice (some ⟨b1, 0, none⟩) gs.length gs.length)).setCell ⟨w.heap.size + 1 + 1, 2, none⟩ (.slice (some ⟨b2, 0, none⟩) qs.length qs.length))) := ((T1.out.set 0 (by simp) _).set 1 (by simp) _).set 2 (by simp) _
  have X1 : Hid (Ex (w.heap.size + 1 + 1) w1 (((w1.setCell ⟨w.heap.size + 1 + 1, 0, none⟩ (.int .i64 t)).setCell ⟨w.heap.size + 1 + 1, 1, none⟩ (.slice (some ⟨b1, 0, none⟩) gs.length gs.length)).setCell ⟨w.heap.size + 1 + 1, 2, none⟩ (.slice (some ⟨b2, 0, none⟩) qs.length qs.length))) := (((Ex.refl _ _).set 0 _).set 1 _).set 2 _
  have L1' : Hid (LandOwn (((w1.setCell ⟨w.heap.size + 1 + 1, 0, none⟩ (.int .i64 t)).setCell ⟨w.heap.size + 1 + 1, 1, none⟩ (.slice (some ⟨b1, 0, none⟩) gs.length gs.length)).setCell ⟨w.heap.size + 1 + 1, 2, none⟩ (.slice (some ⟨b2, 0, none⟩) qs.length qs.length)) gs qs b1 b2 (w.heap.size + 1 + 1 + 1)) := L1.out.ex X1.out (by omega)
  clear X1 L1
  go_wp2_with fail
  clear ka ko kf kz
  have hto2 := Mt.to_in (Hi.out.keep S1.out.e).i3 Hl.out.l3 Hl.out.m
  refine hto2.mono ?_
  clear hto2
  rintro e w2 ⟨⟨rs, hs, rfl, hr, hb, z⟩, c2⟩
  have T2 : Hid (St5 w #[.int .i64 t, v1, v2, v3, v4] #[.int .i64 t, .slice (some ⟨b1, 0, none⟩) gs.length gs.length, .slice (some ⟨b2, 0, none⟩) qs.length qs.length, .slice none 0 0, .slice none 0 0] w2) := S1.out.below c2
  have ka := T2.out.a
  have ko := T2.out.b
  have kf := T2.out.c
  have kz := T2.out.f
  have Hs2 : Hid (Mt.Like rs ms) := hs
  have zx : w.heap.size + 1 + 1 < (((w1.setCell ⟨w.heap.size + 1 + 1, 0, none⟩ (.int .i64 t)).setCell ⟨w.heap.size + 1 + 1, 1, none⟩ (.slice (some ⟨b1, 0, none⟩) gs.length gs.length)).setCell ⟨w.heap.size + 1 + 1, 2, none⟩ (.slice (some ⟨b2, 0, none⟩) qs.length qs.length)).heap.size := S1.out.f
  have L2 : Hid (LandOwn w2 gs qs b1 b2 (w.heap.size + 1 + 1 + 1)) := L1'.out.keep c2
  have M2 : Hid (MatesOwn w2 rs (((w1.setCell ⟨w.heap.size + 1 + 1, 0, none⟩ (.int .i64 t)).setCell ⟨w.heap.size + 1 + 1, 1, none⟩ (.slice (some ⟨b1, 0, none⟩) gs.length gs.length)).setCell ⟨w.heap.size + 1 + 1, 2, none⟩ (.slice (some ⟨b2, 0, none⟩) qs.length qs.length)).heap.size (w.heap.size + 1 + 1 + 1)) := ⟨hr, z, zx, fun r hr => by
    obtain ⟨g1, g2, g3, g4, hg⟩ := hb r hr
    exact ⟨g1, g2, g3, g4, hg.low zx⟩⟩
  obtain ⟨b3, hb3⟩ : ∃ b, b = (((w1.setCell ⟨w.heap.size + 1 + 1, 0, none⟩ (.int .i64 t)).setCell ⟨w.heap.size + 1 + 1, 1, none⟩ (.slice (some ⟨b1, 0, none⟩) gs.length gs.length)).setCell ⟨w.heap.size + 1 + 1, 2, none⟩ (.slice (some ⟨b2, 0, none⟩) qs.length qs.length)).heap.size := ⟨_, rfl⟩
  rw [← hb3] at M2
  rw [← hb3]
  clear hs hr hb z c2 zx hb3 L1'
  have S2 : Hid (St5 w #[.int .i64 t, v1, v2, v3, v4] #[.int .i64 t, .slice (some ⟨b1, 0, none⟩) gs.length gs.length, .slice (some ⟨b2, 0, none⟩) qs.length qs.length, .slice (some ⟨b3, 0, none⟩) rs.length rs.length, .slice none 0 0] (w2.setCell ⟨w.heap.size + 1 + 1, 3, none⟩ (.slice (some ⟨b3, 0, none⟩) rs.length rs.length))) := T2.out.set 3 (by simp) _
  have X2 : Hid (Ex (w.heap.size + 1 + 1) w2 (w2.setCell ⟨w.heap.size + 1 + 1, 3, none⟩ (.slice (some ⟨b3, 0, none⟩) rs.length rs.length))) := (Ex.refl _ _).set 3 _
  have L2' : Hid (LandOwn (w2.setCell ⟨w.heap.size + 1 + 1, 3, none⟩ (.slice (some ⟨b3, 0, none⟩) rs.length rs.length)) gs qs b1 b2 (w.heap.size + 1 + 1 + 1)) := L2.out.ex X2.out (by omega)
  have M2' : Hid (MatesOwn (w2.setCell ⟨w.heap.size + 1 + 1, 3, none⟩ (.slice (some ⟨b3, 0, none⟩) rs.length rs.length)) rs b3 (w.heap.size + 1 + 1 + 1)) := M2.out.ex X2.out (by omega)
  clear X2 L2 M2
  go_wp2_with fail
  clear ka ko kf kz
  have hto3 := Tx.to_in (Hi.out.keep S2.out.e).i4 Hl.out.l4
  refine hto3.mono ?_
  clear hto3
  rintro e w3 ⟨rfl, hr, hth, z, c3⟩
  have T3 : Hid (St5 w #[.int .i64 t, v1, v2, v3, v4] #[.int .i64 t, .slice (some ⟨b1, 0, none⟩) gs.length gs.length, .slice (some ⟨b2, 0, none⟩) qs.length qs.length, .slice (some ⟨b3, 0, none⟩) rs.length rs.length, .slice none 0 0] w3) := S2.out.below c3
  have ka := T3.out.a
  have ko := T3.out.b
  have kf := T3.out.c
  have kz := T3.out.f
  have L3 : Hid (LandOwn w3 gs qs b1 b2 (w.heap.size + 1 + 1 + 1)) := L2'.out.keep c3
  have M3 : Hid (MatesOwn w3 rs b3 (w.heap.size + 1 + 1 + 1)) := M2'.out.keep c3
  have zx : w.heap.size + 1 + 1 < (w2.setCell ⟨w.heap.size + 1 + 1, 3, none⟩ (.slice (some ⟨b3, 0, none⟩) rs.length rs.length)).heap.size := S2.out.f
  have F3 : Hid (TextsOwn w3 fs (w2.setCell ⟨w.heap.size + 1 + 1, 3, none⟩ (.slice (some ⟨b3, 0, none⟩) rs.length rs.length)).heap.size (w.heap.size + 1 + 1 + 1)) := ⟨hr, z, zx⟩
  obtain ⟨b4, hb4⟩ : ∃ b, b = (w2.setCell ⟨w.heap.size + 1 + 1, 3, none⟩ (.slice (some ⟨b3, 0, none⟩) rs.length rs.length)).heap.size := ⟨_, rfl⟩
  rw [← hb4] at F3
  rw [← hb4]
  clear hr hth z c3 zx hb4 L2' M2'
  have S3 : Hid (St5 w #[.int .i64 t, v1, v2, v3, v4] #[.int .i64 t, .slice (some ⟨b1, 0, none⟩) gs.length gs.length, .slice (some ⟨b2, 0, none⟩) qs.length qs.length, .slice (some ⟨b3, 0, none⟩) rs.length rs.length, .slice (some ⟨b4, 0, none⟩) fs.length fs.length] (w3.setCell ⟨w.heap.size + 1 + 1, 4, none⟩ (.slice (some ⟨b4, 0, none⟩) fs.length fs.length))) := T3.out.set 4 (by simp) _
  have X3 : Hid (Ex (w.heap.size + 1 + 1) w3 (w3.setCell ⟨w.heap.size + 1 + 1, 4, none⟩ (.slice (some ⟨b4, 0, none⟩) fs.length fs.length))) := (Ex.refl _ _).set 4 _
  have X4 : Hid (Ex (w.heap.size + 1) (w3.setCell ⟨w.heap.size + 1 + 1, 4, none⟩ (.slice (some ⟨b4, 0, none⟩) fs.length fs.length)) (World.setCells (w3.setCell ⟨w.heap.size + 1 + 1, 4, none⟩ (.slice (some ⟨b4, 0, none⟩) fs.length fs.length)) (w.heap.size + 1) 0 [.int .i64 t, .slice (some ⟨b1, 0, none⟩) gs.length gs.length, .slice (some ⟨b2, 0, none⟩) qs.length qs.length, .slice (some ⟨b3, 0, none⟩) rs.length rs.length, .slice (some ⟨b4, 0, none⟩) fs.length fs.length])) := (Ex.refl _ _).cells _ _
  have WW : Hid (WorldAt (World.setCells (w3.setCell ⟨w.heap.size + 1 + 1, 4, none⟩ (.slice (some ⟨b4, 0, none⟩) fs.length fs.length)) (w.heap.size + 1) 0 [.int .i64 t, .slice (some ⟨b1, 0, none⟩) gs.length gs.length, .slice (some ⟨b2, 0, none⟩) qs.length qs.length, .slice (some ⟨b3, 0, none⟩) rs.length rs.length, .slice (some ⟨b4, 0, none⟩) fs.length fs.length]) gs qs rs fs b1 b2 b3 b4 (w.heap.size + 1 + 1 + 1)) := ⟨(L3.out.ex X3.out (by omega)).ex X4.out (by omega), (M3.out.ex X3.out (by omega)).ex X4.out (by omega), (F3.out.ex X3.out (by omega)).ex X4.out (by omega)⟩
  have RG : Hid _ := World.rangeAt_setCells_same (w3.setCell ⟨w.heap.size + 1 + 1, 4, none⟩ (.slice (some ⟨b4, 0, none⟩) fs.length fs.length)) (w.heap.size + 1) 0 [.int .i64 t, .slice (some ⟨b1, 0, none⟩) gs.length gs.length, .slice (some ⟨b2, 0, none⟩) qs.length qs.length, .slice (some ⟨b3, 0, none⟩) rs.length rs.length, .slice (some ⟨b4, 0, none⟩) fs.length fs.length] S3.out.d
  have BE : Hid (Below w.heap.size w (World.setCells (w3.setCell ⟨w.heap.size + 1 + 1, 4, none⟩ (.slice (some ⟨b4, 0, none⟩) fs.length fs.length)) (w.heap.size + 1) 0 [.int .i64 t, .slice (some ⟨b1, 0, none⟩) gs.length gs.length, .slice (some ⟨b2, 0, none⟩) qs.length qs.length, .slice (some ⟨b3, 0, none⟩) rs.length rs.length, .slice (some ⟨b4, 0, none⟩) fs.length fs.length])) := Ex.mono S3.out.e X4.out (Nat.le_succ _)
  clear X3 X4 L3 M3 F3
  go_wp2_with (refine wpList_store_mid (by rfl) 30 _ _ (by rfl) (w.heap.size + 1) 0 #[.int .i64 t, .slice (some ⟨b1, 0, none⟩) gs.length gs.length, .slice (some ⟨b2, 0, none⟩) qs.length qs.length, .slice (some ⟨b3, 0, none⟩) rs.length rs.length, .slice (some ⟨b4, 0, none⟩) fs.length fs.length] (by rfl) (by rfl) (by exact S3.out.d) hinfo (by simp [Value.oneCell']) ?_)
  have hrg := RG.out
  have d0 := hrg 0 _ rfl
  have d1 := hrg 1 _ rfl
  have d2 := hrg 2 _ rfl
  have d3 := hrg 3 _ rfl
  have d4 := hrg 4 _ rfl
  simp only [Nat.zero_add] at d0 d1 d2 d3 d4
  exact bodyPost_ret (v := .agg #[.int .i64 t, .slice (some ⟨b1, 0, none⟩) gs.length gs.length, .slice (some ⟨b2, 0, none⟩) qs.length qs.length, .slice (some ⟨b3, 0, none⟩) rs.length rs.length, .slice (some ⟨b4, 0, none⟩) fs.length fs.length]) (by simp [results, Tryz.results18, go_sem, d0, d1, d2, d3, d4]) rfl ⟨⟨b1, b2, b3, b4, qs, rs, rfl, Hs.out, Hs2.out, world_low WW.out (by omega)⟩, BE.out⟩

theorem world_boxes {w w' : World} {t : Int} {gs : List G.GrantD} {ps qs : List P.PlaceD} {ms rs : List Mt.MRow} {fs : List ByteArray} {b1 b2 b3 b4 e1 e2 e3 e4 : Nat} (hb : Below ((w.alloc (.cells #[.int .i64 t, .slice (some ⟨b1, 0, none⟩) gs.length gs.length, .slice (some ⟨b2, 0, none⟩) ps.length ps.length, .slice (some ⟨b3, 0, none⟩) ms.length ms.length, .slice (some ⟨b4, 0, none⟩) fs.length fs.length] 30)).alloc (.cells #[.int .i64 t, .slice (some ⟨e1, 0, none⟩) gs.length gs.length, .slice (some ⟨e2, 0, none⟩) qs.length qs.length, .slice (some ⟨e3, 0, none⟩) rs.length rs.length, .slice (some ⟨e4, 0, none⟩) fs.length fs.length] 30)).heap.size ((w.alloc (.cells #[.int .i64 t, .slice (some ⟨b1, 0, none⟩) gs.length gs.length, .slice (some ⟨b2, 0, none⟩) ps.length ps.length, .slice (some ⟨b3, 0, none⟩) ms.length ms.length, .slice (some ⟨b4, 0, none⟩) fs.length fs.length] 30)).alloc (.cells #[.int .i64 t, .slice (some ⟨e1, 0, none⟩) gs.length gs.length, .slice (some ⟨e2, 0, none⟩) qs.length qs.length, .slice (some ⟨e3, 0, none⟩) rs.length rs.length, .slice (some ⟨e4, 0, none⟩) fs.length fs.length] 30)) w') :
    (∀ k, w'.cell? ⟨w.heap.size, k, none⟩ = (#[.int .i64 t, .slice (some ⟨b1, 0, none⟩) gs.length gs.length, .slice (some ⟨b2, 0, none⟩) ps.length ps.length, .slice (some ⟨b3, 0, none⟩) ms.length ms.length, .slice (some ⟨b4, 0, none⟩) fs.length fs.length] : Array Value)[k]?) ∧ (∀ k, w'.cell? ⟨w.heap.size + 1, k, none⟩ = (#[.int .i64 t, .slice (some ⟨e1, 0, none⟩) gs.length gs.length, .slice (some ⟨e2, 0, none⟩) qs.length qs.length, .slice (some ⟨e3, 0, none⟩) rs.length rs.length, .slice (some ⟨e4, 0, none⟩) fs.length fs.length] : Array Value)[k]?) := by
  constructor
  · intro k
    rw [hb.cell (p := ⟨w.heap.size, k, none⟩) (by simp; omega)]
    simp [go_sem]
  · intro k
    rw [hb.cell (p := ⟨w.heap.size + 1, k, none⟩) (by simp)]
    simp [go_sem]

set_option maxRecDepth 4000 in
set_option maxHeartbeats 2000000 in
theorem eqWorld (t : Int) (gs : List G.GrantD) (ps qs : List P.PlaceD) (ms rs : List Mt.MRow) (fs : List ByteArray) (b1 b2 b3 b4 e1 e2 e3 e4 B1 B2 : Nat) (w : World) (h1 : WorldAt w gs ps ms fs b1 b2 b3 b4 B1) (h2 : WorldAt w gs qs rs fs e1 e2 e3 e4 B2) (hp : P.Like ps qs) (hm : Mt.Like ms rs) (hl : WorldLen gs ps ms fs) (hf : ∀ r ∈ ms, r.m.fits) :
    Calls Tryz.prog 11 #[.agg #[.int .i64 t, .slice (some ⟨b1, 0, none⟩) gs.length gs.length, .slice (some ⟨b2, 0, none⟩) ps.length ps.length, .slice (some ⟨b3, 0, none⟩) ms.length ms.length, .slice (some ⟨b4, 0, none⟩) fs.length fs.length], .agg #[.int .i64 t, .slice (some ⟨e1, 0, none⟩) gs.length gs.length, .slice (some ⟨e2, 0, none⟩) qs.length qs.length, .slice (some ⟨e3, 0, none⟩) rs.length rs.length, .slice (some ⟨e4, 0, none⟩) fs.length fs.length]] w fun e w' => e = .returned (.bool true) ∧ Below w.heap.size w w' := by
  have Hb0 : Hid (Below w.heap.size w ((w.alloc (.cells #[.int .i64 t, .slice (some ⟨b1, 0, none⟩) gs.length gs.length, .slice (some ⟨b2, 0, none⟩) ps.length ps.length, .slice (some ⟨b3, 0, none⟩) ms.length ms.length, .slice (some ⟨b4, 0, none⟩) fs.length fs.length] 30)).alloc (.cells #[.int .i64 t, .slice (some ⟨e1, 0, none⟩) gs.length gs.length, .slice (some ⟨e2, 0, none⟩) qs.length qs.length, .slice (some ⟨e3, 0, none⟩) rs.length rs.length, .slice (some ⟨e4, 0, none⟩) fs.length fs.length] 30))) := bl_alloc (bl_alloc (Below.refl _ _) _) _
  have P0 : Hid (WorldAt ((w.alloc (.cells #[.int .i64 t, .slice (some ⟨b1, 0, none⟩) gs.length gs.length, .slice (some ⟨b2, 0, none⟩) ps.length ps.length, .slice (some ⟨b3, 0, none⟩) ms.length ms.length, .slice (some ⟨b4, 0, none⟩) fs.length fs.length] 30)).alloc (.cells #[.int .i64 t, .slice (some ⟨e1, 0, none⟩) gs.length gs.length, .slice (some ⟨e2, 0, none⟩) qs.length qs.length, .slice (some ⟨e3, 0, none⟩) rs.length rs.length, .slice (some ⟨e4, 0, none⟩) fs.length fs.length] 30)) gs ps ms fs b1 b2 b3 b4 B1) := h1.keep Hb0.out
  have Q0 : Hid (WorldAt ((w.alloc (.cells #[.int .i64 t, .slice (some ⟨b1, 0, none⟩) gs.length gs.length, .slice (some ⟨b2, 0, none⟩) ps.length ps.length, .slice (some ⟨b3, 0, none⟩) ms.length ms.length, .slice (some ⟨b4, 0, none⟩) fs.length fs.length] 30)).alloc (.cells #[.int .i64 t, .slice (some ⟨e1, 0, none⟩) gs.length gs.length, .slice (some ⟨e2, 0, none⟩) qs.length qs.length, .slice (some ⟨e3, 0, none⟩) rs.length rs.length, .slice (some ⟨e4, 0, none⟩) fs.length fs.length] 30)) gs qs rs fs e1 e2 e3 e4 B2) := h2.keep Hb0.out
  have Hp : Hid (P.Like ps qs) := hp
  have Hm : Hid (Mt.Like ms rs) := hm
  have Hl : Hid (WorldLen gs ps ms fs) := hl
  have Hf : Hid (∀ r ∈ ms, r.m.fits) := hf
  clear h1 h2 hp hm hl hf
  go_enter Tryz.func11, Tryz.ntmps11
  go_wp2_with fail
  refine (P.eqLand t gs ps qs b1 b2 e1 e2 _ P0.out.a.a Q0.out.a.a Hp.out Hl.out.l1 Hl.out.l2 Hl.out.p).mono ?_
  rintro e w1 ⟨rfl, c1⟩
  have D1 : Hid (Below ((w.alloc (.cells #[.int .i64 t, .slice (some ⟨b1, 0, none⟩) gs.length gs.length, .slice (some ⟨b2, 0, none⟩) ps.length ps.length, .slice (some ⟨b3, 0, none⟩) ms.length ms.length, .slice (some ⟨b4, 0, none⟩) fs.length fs.length] 30)).alloc (.cells #[.int .i64 t, .slice (some ⟨e1, 0, none⟩) gs.length gs.length, .slice (some ⟨e2, 0, none⟩) qs.length qs.length, .slice (some ⟨e3, 0, none⟩) rs.length rs.length, .slice (some ⟨e4, 0, none⟩) fs.length fs.length] 30)).heap.size ((w.alloc (.cells #[.int .i64 t, .slice (some ⟨b1, 0, none⟩) gs.length gs.length, .slice (some ⟨b2, 0, none⟩) ps.length ps.length, .slice (some ⟨b3, 0, none⟩) ms.length ms.length, .slice (some ⟨b4, 0, none⟩) fs.length fs.length] 30)).alloc (.cells #[.int .i64 t, .slice (some ⟨e1, 0, none⟩) gs.length gs.length, .slice (some ⟨e2, 0, none⟩) qs.length qs.length, .slice (some ⟨e3, 0, none⟩) rs.length rs.length, .slice (some ⟨e4, 0, none⟩) fs.length fs.length] 30)) w1) := c1
  have P1 : Hid (WorldAt w1 gs ps ms fs b1 b2 b3 b4 B1) := P0.out.keep D1.out
  have Q1 : Hid (WorldAt w1 gs qs rs fs e1 e2 e3 e4 B2) := Q0.out.keep D1.out
  obtain ⟨ka1, kb1⟩ := world_boxes c1
  clear c1
  go_wp2_with fail
  refine (Mt.eqMateS b3 0 _ e3 0 _ B1 B2 ms rs _ P1.out.m.r Q1.out.m.r P1.out.m.l Q1.out.m.l P1.out.m.k Q1.out.m.k Hm.out Hl.out.l3 Hf.out).mono ?_
  rintro e w2 ⟨rfl, c2⟩
  have D2 : Hid (Below ((w.alloc (.cells #[.int .i64 t, .slice (some ⟨b1, 0, none⟩) gs.length gs.length, .slice (some ⟨b2, 0, none⟩) ps.length ps.length, .slice (some ⟨b3, 0, none⟩) ms.length ms.length, .slice (some ⟨b4, 0, none⟩) fs.length fs.length] 30)).alloc (.cells #[.int .i64 t, .slice (some ⟨e1, 0, none⟩) gs.length gs.length, .slice (some ⟨e2, 0, none⟩) qs.length qs.length, .slice (some ⟨e3, 0, none⟩) rs.length rs.length, .slice (some ⟨e4, 0, none⟩) fs.length fs.length] 30)).heap.size ((w.alloc (.cells #[.int .i64 t, .slice (some ⟨b1, 0, none⟩) gs.length gs.length, .slice (some ⟨b2, 0, none⟩) ps.length ps.length, .slice (some ⟨b3, 0, none⟩) ms.length ms.length, .slice (some ⟨b4, 0, none⟩) fs.length fs.length] 30)).alloc (.cells #[.int .i64 t, .slice (some ⟨e1, 0, none⟩) gs.length gs.length, .slice (some ⟨e2, 0, none⟩) qs.length qs.length, .slice (some ⟨e3, 0, none⟩) rs.length rs.length, .slice (some ⟨e4, 0, none⟩) fs.length fs.length] 30)) w2) := bl_trans D1.out c2
  have P2 : Hid (WorldAt w2 gs ps ms fs b1 b2 b3 b4 B1) := P0.out.keep D2.out
  have Q2 : Hid (WorldAt w2 gs qs rs fs e1 e2 e3 e4 B2) := Q0.out.keep D2.out
  clear c2 ka1 kb1 P1 Q1 D1
  obtain ⟨ka2, kb2⟩ := world_boxes D2.out
  go_wp2_with fail
  refine (Tx.eqStringS b4 0 _ e4 0 _ fs _ P2.out.f.r Q2.out.f.r Hl.out.l4).mono ?_
  rintro e w3 ⟨rfl, c3⟩
  have D3 : Hid (Below w.heap.size w w3) := bl_trans Hb0.out (bl_trans D2.out c3)
  clear c3 ka2 kb2
  go_wp2
  go_ret
  exact ⟨rfl, D3.out⟩
end Go.Proofs.YtdkjhonaafadjaaGreat
/- What the reading of a world says of memory. -/
namespace Go.Proofs.YtdkjhonaafadjaaGreat
open Go.ChangeShapes Go.WideShapes Go.ChangeAt Go.RowKit

theorem cells_world : Tryz.prog.cellsOf 43 = 5 := by kernel_rfl
theorem cells_ms : Tryz.prog.cellsOf 41 = 1 := by kernel_rfl
theorem cells_fs : Tryz.prog.cellsOf 22 = 1 := by kernel_rfl
theorem list5w {α : Type} {l : List α} (h : l.length = 5) : ∃ a b c d e, l = [a, b, c, d, e] := by
  match l, h with
  | [a, b, c, d, e], _ => exact ⟨a, b, c, d, e, rfl⟩
section
variable {H : Type} {enc : TypeId × Value → H} {Z : World} {base : Nat} {spare : Nat → Bool} {held : Bool} {fuel : Nat} {cs : List Value} {x : DataW H × List MemPlace}
theorem in_mates {v : Value} (hx : DataW.trod enc Tryz.prog Z base spare held fuel 41 [v] = some x) : ∃ l, Mt.In Z v l := by
  rcases Mt.read_mates hx with ⟨a, cap, h⟩ | ⟨b, off, cap, rs, h, -, hl, hb, hR, hf⟩
  · simp only [List.cons.injEq, and_true] at h; exact ⟨[], Or.inl ⟨rfl, a, cap, h⟩⟩
  · simp only [List.cons.injEq, and_true] at h; exact ⟨rs, Or.inr ⟨b, off, cap, h, hl, hb, hR, hf⟩⟩
theorem in_texts {v : Value} (hx : DataW.trod enc Tryz.prog Z base spare held fuel 22 [v] = some x) : ∃ l, Tx.In Z v l := by
  rcases Tx.read_texts hx with ⟨a, cap, h⟩ | ⟨b, off, cap, rs, h, -, hl, hb, hR, hf⟩
  · simp only [List.cons.injEq, and_true] at h; exact ⟨[], Or.inl ⟨rfl, a, cap, h⟩⟩
  · simp only [List.cons.injEq, and_true] at h; exact ⟨rs, Or.inr ⟨b, off, cap, h, hl, hb, hR, hf⟩⟩
theorem read_world (hx : DataW.trod enc Tryz.prog Z base spare held fuel 43 cs = some x) :
    ∃ (t : Int) (gs : List G.GrantD) (ps : List P.PlaceD) (ms : List Mt.MRow) (fs : List ByteArray) (v1 v2 v3 v4 : Value), cs = [.int .i64 t, v1, v2, v3, v4] ∧ WorldIn Z gs ps ms fs v1 v2 v3 v4 := by
  obtain ⟨xs, n, rfl, -, hl, hn, hf⟩ := DataW.trod_struct Tryz.underlying43 hx
  rw [cells_world] at hl
  obtain ⟨c0, c1, c2, c3, c4, rfl⟩ := list5w hl
  have hn' : xs.length = 3 := hn
  have f0 : DataW.trod enc Tryz.prog Z base spare held n 40 (List.take (Tryz.prog.cellsOf 40) [c0, c1, c2, c3, c4]) = xs[0]? := hf 0 _ rfl
  have f1 : DataW.trod enc Tryz.prog Z base spare held n 41 (List.take (Tryz.prog.cellsOf 41) [c3, c4]) = xs[1]? := hf 1 _ rfl
  have f2 : DataW.trod enc Tryz.prog Z base spare held n 22 (List.take (Tryz.prog.cellsOf 22) [c4]) = xs[2]? := hf 2 _ rfl
  simp only [P.cells_land, cells_ms, cells_fs, List.take_succ_cons, List.take_zero] at f0 f1 f2
  obtain ⟨y0, g0⟩ := some_of hn' (by decide) f0
  obtain ⟨y1, g1⟩ := some_of hn' (by decide) f1
  obtain ⟨y2, g2⟩ := some_of hn' (by decide) f2
  obtain ⟨t, gs, ps, v1, v2, e0, h1, h2⟩ := P.read_land g0
  obtain ⟨ms, h3⟩ := in_mates g1
  obtain ⟨fs, h4⟩ := in_texts g2
  simp only [List.cons.injEq, and_true] at e0
  obtain ⟨e0, e1, e2⟩ := e0
  subst e0 e1 e2
  exact ⟨t, gs, ps, ms, fs, c1, c2, c3, c4, rfl, h1, h2, h3, h4⟩
end
end Go.Proofs.YtdkjhonaafadjaaGreat
/- Places that came in; what fits. -/
namespace Go.Proofs.YtdkjhonaafadjaaGreat.P
open Go.RowKit
set_option linter.unusedVariables false

theorem In.inn {w : World} {v : Value} {l : List PlaceD} (h : In w v l) : ∀ r ∈ l, r.inn w := by
  rcases h with ⟨rfl, -⟩ | ⟨b, off, cap, h1, h2, h3, h4, h5⟩
  · intro r hr; cases hr
  · exact h5
theorem Fit.like {gs : List G.GrantD} {ps qs : List PlaceD} (h : Fit gs ps) (hs : Like qs ps) : Fit gs qs := by
  have get : ∀ q ∈ qs, ∃ p ∈ ps, q.b = p.b ∧ q.ws = p.ws := fun q hq => by
    obtain ⟨k, hk⟩ := List.getElem?_of_mem hq
    obtain ⟨p, hp, e1, e2, e3⟩ := hs.get hk
    exact ⟨p, List.mem_of_getElem? hp, e1, e3⟩
  refine ⟨h.g, fun q hq => ?_, h.gl, by rw [hs.len]; exact h.pl, fun q hq => ?_⟩
  · obtain ⟨p, hp, e1, e2⟩ := get q hq
    rw [e1, e2]; exact h.p p hp
  · obtain ⟨p, hp, e1, e2⟩ := get q hq
    rw [e2]; exact h.ln p hp
end Go.Proofs.YtdkjhonaafadjaaGreat.P
/- all and ascends, at mates. -/
namespace Go.Proofs.YtdkjhonaafadjaaGreat.Mt
open Go.RowKit
set_option linter.unusedVariables false

set_option maxRecDepth 4000 in
set_option maxHeartbeats 1000000 in
theorem allOk (P : MRow → Bool) (b off cap : Nat) (rs : List MRow) (w : World) (hR : RowsAt w b off rs) (l1 : b < w.heap.size) (hl : rs.length ≤ 1048576)
    (hF : ∀ r ∈ rs, ∀ x, Below w.heap.size w x → Calls Tryz.prog 84 #[.agg #[.string r.m.nm, .bool r.m.up, .int .i64 r.m.ck, .bool r.m.kn, .int .i64 r.m.se, .slice r.a1 r.m.ws.length r.c1, .slice r.a2 r.m.rs.length r.c2, .slice r.a3 r.m.qs.length r.c3, .slice r.a4 r.m.gs.length r.c4]] x fun e x' => e = .returned (.bool (P r)) ∧ Below x.heap.size x x') :
    Calls Tryz.prog 50 #[.slice (some ⟨b, off, none⟩) rs.length cap, .func (.func 84) #[] #[]] w fun e w' => (∃ q : Bool, e = .returned (.bool q) ∧ (q = true ↔ ∀ r ∈ rs, P r = true)) ∧ Below w.heap.size w w' := by
  have HF : Hid _ := hF
  clear hF
  go_enter Tryz.func50, Tryz.ntmps50
  go_wp2
  go_loopw [9] (fun i wx => ∃ (k : Nat), k ≤ rs.length ∧ i = .int .i64 k ∧ Hid (∀ j r, j < k → rs[j]? = some r → P r = true) ∧ Below w.heap.size w wx) (fun i _ => rs.length - (intOf i).toNat)
  case atStart => exact ⟨0, Nat.zero_le _, rfl, fun j r h => by omega, Below.refl _ _⟩
  case round =>
    obtain ⟨k, hk, rfl, Ha, hB⟩ := hrel
    by_cases hlt : k < rs.length
    · obtain ⟨r, hr⟩ : ∃ r, rs[k]? = some r := ⟨rs[k], List.getElem?_eq_getElem hlt⟩
      have Hr : Hid _ := hr
      clear hr
      obtain ⟨c0, c1, c2, c3, c4, c5, c6, c7, c8⟩ := (hR.keep l1 hB).at Hr.out
      go_wp2_with fail
      refine (HF.out r (List.mem_of_getElem? Hr.out) _ (bl_alloc hB _)).mono ?_
      rintro e w1 ⟨rfl, hb⟩
      have hB1 := bl_trans (bl_alloc hB _) hb
      have Hb1 : Hid _ := hB1
      clear hB hb hB1
      cases hP : P r
      · go_wp2
        go_ret
        exact ⟨⟨false, rfl, ⟨fun h => (by cases h), fun h => by have := h r (List.mem_of_getElem? Hr.out); rw [hP] at this; cases this⟩⟩, Hb1.out⟩
      · go_wp2
        exact ⟨⟨k + 1, by omega, by go_num, (fun j q hj hq => by
          by_cases e : j = k
          · subst e; have hh := Hr.out; rw [hh] at hq; cases hq; exact hP
          · exact Ha.out j q (by omega) hq), Hb1.out⟩, by simp [intOf]; omega⟩
    · go_wp2
      go_ret
      exact ⟨⟨true, rfl, ⟨fun _ r hr => by
        obtain ⟨j, hj⟩ := List.getElem?_of_mem hr
        have hjl : j < rs.length := (List.getElem?_eq_some_iff.1 hj).1
        exact Ha.out j r (by omega) hj, fun _ => rfl⟩⟩, hB⟩

theorem name_any (r : MRow) (w : World) :
    Calls Tryz.prog 83 #[.agg #[.string r.m.nm, .bool r.m.up, .int .i64 r.m.ck, .bool r.m.kn, .int .i64 r.m.se, .slice r.a1 r.m.ws.length r.c1, .slice r.a2 r.m.rs.length r.c2, .slice r.a3 r.m.qs.length r.c3, .slice r.a4 r.m.gs.length r.c4]] w fun e w' => e = .returned (.string r.m.nm) ∧ Below w.heap.size w w' := by
  go_enter Tryz.func83, Tryz.ntmps83
  go_wp2
  go_ret
  exact ⟨rfl, by repeat (first | exact Below.refl _ _ | refine bl_alloc ?_ _)⟩
/-- Ascending by their names, the first n. -/
def AscN (rs : List MRow) (n : Nat) : Prop := ∀ j q r, j + 1 < n → rs[j]? = some q → rs[j + 1]? = some r → Op.bytesLess q.m.nm.toList r.m.nm.toList = true
theorem AscN.step {rs : List MRow} {k : Nat} {q r : MRow} (h : AscN rs (k + 1)) (hq : rs[k]? = some q) (hr : rs[k + 1]? = some r) (hs : Op.bytesLess q.m.nm.toList r.m.nm.toList = true) : AscN rs (k + 1 + 1) := by
  intro j q' r' hj hq' hr'
  by_cases e : j = k
  · subst e; rw [hq] at hq'; rw [hr] at hr'; cases hq'; cases hr'; exact hs
  · exact h j q' r' (by omega) hq' hr'
theorem keepAsc {x w' : World} {b off m : Nat} {rs : List MRow} {r q : MRow} (hk : rs[m + 1]? = some r) (hq : rs[m]? = some q) (h1 : RowsAt x b off rs) (l1 : b < x.heap.size) (hb : Below x.heap.size x w') :
    Below x.heap.size x w' ∧ (w'.cell? ⟨b, off + (m + 1) * 9, none⟩ = some (.string r.m.nm) ∧ w'.cell? ⟨b, off + (m + 1) * 9 + 1, none⟩ = some (.bool r.m.up) ∧ w'.cell? ⟨b, off + (m + 1) * 9 + 2, none⟩ = some (.int .i64 r.m.ck) ∧ w'.cell? ⟨b, off + (m + 1) * 9 + 3, none⟩ = some (.bool r.m.kn) ∧ w'.cell? ⟨b, off + (m + 1) * 9 + 4, none⟩ = some (.int .i64 r.m.se) ∧ w'.cell? ⟨b, off + (m + 1) * 9 + 5, none⟩ = some (.slice r.a1 r.m.ws.length r.c1) ∧ w'.cell? ⟨b, off + (m + 1) * 9 + 6, none⟩ = some (.slice r.a2 r.m.rs.length r.c2) ∧ w'.cell? ⟨b, off + (m + 1) * 9 + 7, none⟩ = some (.slice r.a3 r.m.qs.length r.c3) ∧ w'.cell? ⟨b, off + (m + 1) * 9 + 8, none⟩ = some (.slice r.a4 r.m.gs.length r.c4)) ∧ (w'.cell? ⟨b, off + m * 9, none⟩ = some (.string q.m.nm) ∧ w'.cell? ⟨b, off + m * 9 + 1, none⟩ = some (.bool q.m.up) ∧ w'.cell? ⟨b, off + m * 9 + 2, none⟩ = some (.int .i64 q.m.ck) ∧ w'.cell? ⟨b, off + m * 9 + 3, none⟩ = some (.bool q.m.kn) ∧ w'.cell? ⟨b, off + m * 9 + 4, none⟩ = some (.int .i64 q.m.se) ∧ w'.cell? ⟨b, off + m * 9 + 5, none⟩ = some (.slice q.a1 q.m.ws.length q.c1) ∧ w'.cell? ⟨b, off + m * 9 + 6, none⟩ = some (.slice q.a2 q.m.rs.length q.c2) ∧ w'.cell? ⟨b, off + m * 9 + 7, none⟩ = some (.slice q.a3 q.m.qs.length q.c3) ∧ w'.cell? ⟨b, off + m * 9 + 8, none⟩ = some (.slice q.a4 q.m.gs.length q.c4)) := ⟨hb, (h1.keep l1 hb).at hk, (h1.keep l1 hb).at hq⟩

set_option maxRecDepth 4000 in
set_option maxHeartbeats 2000000 in
theorem ascends (b off cap : Nat) (rs : List MRow) (w : World) (hR : RowsAt w b off rs) (l1 : b < w.heap.size) (hl : rs.length ≤ 1048576) :
    Calls Tryz.prog 82 #[.slice (some ⟨b, off, none⟩) rs.length cap, .func (.func 83) #[] #[]] w fun e w' => (∃ q : Bool, e = .returned (.bool q) ∧ (q = true ↔ AscN rs rs.length)) ∧ Below w.heap.size w w' := by
  go_enter Tryz.func82, Tryz.ntmps82
  go_wp2
  go_loopw [5] (fun i wx => ∃ (m : Nat), m ≤ rs.length ∧ i = .int .i64 ((m : Int) + 1) ∧ Hid (AscN rs (m + 1)) ∧ Below w.heap.size w wx) (fun i _ => rs.length + 1 - (intOf i).toNat)
  case atStart => exact ⟨0, Nat.zero_le _, rfl, (fun j q r hj _ _ => by omega), Below.refl _ _⟩
  case round =>
    obtain ⟨m, hk, rfl, Ha, hB⟩ := hrel
    by_cases hlt : m + 1 < rs.length
    · obtain ⟨r, hr⟩ : ∃ r, rs[m + 1]? = some r := ⟨rs[m + 1], List.getElem?_eq_getElem hlt⟩
      obtain ⟨q, hq⟩ : ∃ q, rs[m]? = some q := ⟨rs[m], List.getElem?_eq_getElem (by omega)⟩
      have Hr : Hid _ := hr
      have Hq : Hid _ := hq
      clear hr hq
      have g1 := hR.keep l1 hB
      have z1 : b < wr.heap.size := Nat.lt_of_lt_of_le l1 hB.size
      have i0 : (0 : Int) ≤ (m : Int) := by omega
      have i1 : (m : Int) + 1 < (rs.length : Int) := by omega
      have i2 : (m : Int) < (rs.length : Int) := by omega
      have i3 : (0 : Int) ≤ (m : Int) + 1 := by omega
      have iw : IntKind.i64.wrap (m : Int) = (m : Int) := by rw [IntKind.wrap_i64]; omega
      cases hasc : Op.bytesLess q.m.nm.toList r.m.nm.toList
      · go_wp2_with fail
        go_region_held3 (fun w' => Below wr.heap.size wr w' ∧ (w'.cell? ⟨b, off + (m + 1) * 9, none⟩ = some (.string r.m.nm) ∧ w'.cell? ⟨b, off + (m + 1) * 9 + 1, none⟩ = some (.bool r.m.up) ∧ w'.cell? ⟨b, off + (m + 1) * 9 + 2, none⟩ = some (.int .i64 r.m.ck) ∧ w'.cell? ⟨b, off + (m + 1) * 9 + 3, none⟩ = some (.bool r.m.kn) ∧ w'.cell? ⟨b, off + (m + 1) * 9 + 4, none⟩ = some (.int .i64 r.m.se) ∧ w'.cell? ⟨b, off + (m + 1) * 9 + 5, none⟩ = some (.slice r.a1 r.m.ws.length r.c1) ∧ w'.cell? ⟨b, off + (m + 1) * 9 + 6, none⟩ = some (.slice r.a2 r.m.rs.length r.c2) ∧ w'.cell? ⟨b, off + (m + 1) * 9 + 7, none⟩ = some (.slice r.a3 r.m.qs.length r.c3) ∧ w'.cell? ⟨b, off + (m + 1) * 9 + 8, none⟩ = some (.slice r.a4 r.m.gs.length r.c4)) ∧ (w'.cell? ⟨b, off + m * 9, none⟩ = some (.string q.m.nm) ∧ w'.cell? ⟨b, off + m * 9 + 1, none⟩ = some (.bool q.m.up) ∧ w'.cell? ⟨b, off + m * 9 + 2, none⟩ = some (.int .i64 q.m.ck) ∧ w'.cell? ⟨b, off + m * 9 + 3, none⟩ = some (.bool q.m.kn) ∧ w'.cell? ⟨b, off + m * 9 + 4, none⟩ = some (.int .i64 q.m.se) ∧ w'.cell? ⟨b, off + m * 9 + 5, none⟩ = some (.slice q.a1 q.m.ws.length q.c1) ∧ w'.cell? ⟨b, off + m * 9 + 6, none⟩ = some (.slice q.a2 q.m.rs.length q.c2) ∧ w'.cell? ⟨b, off + m * 9 + 7, none⟩ = some (.slice q.a3 q.m.qs.length q.c3) ∧ w'.cell? ⟨b, off + m * 9 + 8, none⟩ = some (.slice q.a4 q.m.gs.length q.c4)))
          (first | exact keepAsc Hr.out Hq.out g1 z1 (bl_drew (Below.refl _ _)) | exact keepAsc Hr.out Hq.out g1 z1 (bl_trans (bl_drew (Below.refl _ _)) hx) | exact keepAsc Hr.out Hq.out g1 z1 (bl_trans (bl_trans (bl_drew (Below.refl _ _)) hx) hy))
          (first | (go_at_call 83; refine (name_any q _).mono ?_; rintro e w' ⟨rfl, hx⟩) | (go_at_call 83; refine (name_any r _).mono ?_; rintro e w'' ⟨rfl, hy⟩))
        have y1 := bl_trans (bl_trans (bl_drew (Below.refl _ wr)) hx) hy
        have Hb1 : Hid _ := bl_trans hB y1
        clear hx hy y1 hB g1
        go_wp2
        go_ret
        exact ⟨⟨false, rfl, ⟨fun h => (by cases h), fun h => by have := h m q r (by omega) Hq.out Hr.out; rw [hasc] at this; cases this⟩⟩, Hb1.out⟩
      · go_wp2_with fail
        go_region_held3 (fun w' => Below wr.heap.size wr w' ∧ (w'.cell? ⟨b, off + (m + 1) * 9, none⟩ = some (.string r.m.nm) ∧ w'.cell? ⟨b, off + (m + 1) * 9 + 1, none⟩ = some (.bool r.m.up) ∧ w'.cell? ⟨b, off + (m + 1) * 9 + 2, none⟩ = some (.int .i64 r.m.ck) ∧ w'.cell? ⟨b, off + (m + 1) * 9 + 3, none⟩ = some (.bool r.m.kn) ∧ w'.cell? ⟨b, off + (m + 1) * 9 + 4, none⟩ = some (.int .i64 r.m.se) ∧ w'.cell? ⟨b, off + (m + 1) * 9 + 5, none⟩ = some (.slice r.a1 r.m.ws.length r.c1) ∧ w'.cell? ⟨b, off + (m + 1) * 9 + 6, none⟩ = some (.slice r.a2 r.m.rs.length r.c2) ∧ w'.cell? ⟨b, off + (m + 1) * 9 + 7, none⟩ = some (.slice r.a3 r.m.qs.length r.c3) ∧ w'.cell? ⟨b, off + (m + 1) * 9 + 8, none⟩ = some (.slice r.a4 r.m.gs.length r.c4)) ∧ (w'.cell? ⟨b, off + m * 9, none⟩ = some (.string q.m.nm) ∧ w'.cell? ⟨b, off + m * 9 + 1, none⟩ = some (.bool q.m.up) ∧ w'.cell? ⟨b, off + m * 9 + 2, none⟩ = some (.int .i64 q.m.ck) ∧ w'.cell? ⟨b, off + m * 9 + 3, none⟩ = some (.bool q.m.kn) ∧ w'.cell? ⟨b, off + m * 9 + 4, none⟩ = some (.int .i64 q.m.se) ∧ w'.cell? ⟨b, off + m * 9 + 5, none⟩ = some (.slice q.a1 q.m.ws.length q.c1) ∧ w'.cell? ⟨b, off + m * 9 + 6, none⟩ = some (.slice q.a2 q.m.rs.length q.c2) ∧ w'.cell? ⟨b, off + m * 9 + 7, none⟩ = some (.slice q.a3 q.m.qs.length q.c3) ∧ w'.cell? ⟨b, off + m * 9 + 8, none⟩ = some (.slice q.a4 q.m.gs.length q.c4)))
          (first | exact keepAsc Hr.out Hq.out g1 z1 (bl_drew (Below.refl _ _)) | exact keepAsc Hr.out Hq.out g1 z1 (bl_trans (bl_drew (Below.refl _ _)) hx) | exact keepAsc Hr.out Hq.out g1 z1 (bl_trans (bl_trans (bl_drew (Below.refl _ _)) hx) hy))
          (first | (go_at_call 83; refine (name_any q _).mono ?_; rintro e w' ⟨rfl, hx⟩) | (go_at_call 83; refine (name_any r _).mono ?_; rintro e w'' ⟨rfl, hy⟩))
        have y1 := bl_trans (bl_trans (bl_drew (Below.refl _ wr)) hx) hy
        have Hb1 : Hid _ := bl_trans hB y1
        clear hx hy y1 hB g1
        go_wp2
        exact ⟨⟨m + 1, by omega, by go_num, Ha.out.step Hq.out Hr.out hasc, Hb1.out⟩, by simp [intOf]; omega⟩
    · go_wp2
      go_ret
      exact ⟨⟨true, rfl, ⟨fun _ j q r hj hq hr => Ha.out j q r (by omega) hq hr, fun _ => rfl⟩⟩, hB⟩
end Go.Proofs.YtdkjhonaafadjaaGreat.Mt
/- all and ascends, at wants. -/
namespace Go.Proofs.YtdkjhonaafadjaaGreat.W
open Go.RowKit
set_option linter.unusedVariables false

set_option maxRecDepth 4000 in
set_option maxHeartbeats 1000000 in
theorem allOk (P : WantD → Bool) (b off cap : Nat) (rs : List WantD) (w : World) (hR : RowsAt w b off rs) (l1 : b < w.heap.size) (hl : rs.length ≤ 1048576)
    (hF : ∀ r ∈ rs, ∀ x, Below w.heap.size w x → Calls Tryz.prog 158 #[.agg #[.string r.c, .int .i64 r.v, .string r.h, .int .i64 r.p, .int .i64 r.s, .int .i64 r.d, .int .i64 r.g]] x fun e x' => e = .returned (.bool (P r)) ∧ Below x.heap.size x x') :
    Calls Tryz.prog 157 #[.slice (some ⟨b, off, none⟩) rs.length cap, .func (.func 158) #[] #[]] w fun e w' => (∃ q : Bool, e = .returned (.bool q) ∧ (q = true ↔ ∀ r ∈ rs, P r = true)) ∧ Below w.heap.size w w' := by
  have HF : Hid _ := hF
  clear hF
  go_enter Tryz.func157, Tryz.ntmps157
  go_wp2
  go_loopw [9] (fun i wx => ∃ (k : Nat), k ≤ rs.length ∧ i = .int .i64 k ∧ Hid (∀ j r, j < k → rs[j]? = some r → P r = true) ∧ Below w.heap.size w wx) (fun i _ => rs.length - (intOf i).toNat)
  case atStart => exact ⟨0, Nat.zero_le _, rfl, fun j r h => by omega, Below.refl _ _⟩
  case round =>
    obtain ⟨k, hk, rfl, Ha, hB⟩ := hrel
    by_cases hlt : k < rs.length
    · obtain ⟨r, hr⟩ : ∃ r, rs[k]? = some r := ⟨rs[k], List.getElem?_eq_getElem hlt⟩
      have Hr : Hid _ := hr
      clear hr
      obtain ⟨c0, c1, c2, c3, c4, c5, c6⟩ := (hR.keep l1 hB).at Hr.out
      go_wp2_with fail
      refine (HF.out r (List.mem_of_getElem? Hr.out) _ (bl_alloc hB _)).mono ?_
      rintro e w1 ⟨rfl, hb⟩
      have hB1 := bl_trans (bl_alloc hB _) hb
      have Hb1 : Hid _ := hB1
      clear hB hb hB1
      cases hP : P r
      · go_wp2
        go_ret
        exact ⟨⟨false, rfl, ⟨fun h => (by cases h), fun h => by have := h r (List.mem_of_getElem? Hr.out); rw [hP] at this; cases this⟩⟩, Hb1.out⟩
      · go_wp2
        exact ⟨⟨k + 1, by omega, by go_num, (fun j q hj hq => by
          by_cases e : j = k
          · subst e; have hh := Hr.out; rw [hh] at hq; cases hq; exact hP
          · exact Ha.out j q (by omega) hq), Hb1.out⟩, by simp [intOf]; omega⟩
    · go_wp2
      go_ret
      exact ⟨⟨true, rfl, ⟨fun _ r hr => by
        obtain ⟨j, hj⟩ := List.getElem?_of_mem hr
        have hjl : j < rs.length := (List.getElem?_eq_some_iff.1 hj).1
        exact Ha.out j r (by omega) hj, fun _ => rfl⟩⟩, hB⟩

theorem name_any (r : WantD) (w : World) :
    Calls Tryz.prog 160 #[.agg #[.string r.c, .int .i64 r.v, .string r.h, .int .i64 r.p, .int .i64 r.s, .int .i64 r.d, .int .i64 r.g]] w fun e w' => e = .returned (.string r.c) ∧ Below w.heap.size w w' := by
  go_enter Tryz.func160, Tryz.ntmps160
  go_wp2
  go_ret
  exact ⟨rfl, by repeat (first | exact Below.refl _ _ | refine bl_alloc ?_ _)⟩
/-- Ascending by their names, the first n. -/
def AscN (rs : List WantD) (n : Nat) : Prop := ∀ j q r, j + 1 < n → rs[j]? = some q → rs[j + 1]? = some r → Op.bytesLess q.c.toList r.c.toList = true
theorem AscN.step {rs : List WantD} {k : Nat} {q r : WantD} (h : AscN rs (k + 1)) (hq : rs[k]? = some q) (hr : rs[k + 1]? = some r) (hs : Op.bytesLess q.c.toList r.c.toList = true) : AscN rs (k + 1 + 1) := by
  intro j q' r' hj hq' hr'
  by_cases e : j = k
  · subst e; rw [hq] at hq'; rw [hr] at hr'; cases hq'; cases hr'; exact hs
  · exact h j q' r' (by omega) hq' hr'
theorem keepAsc {x w' : World} {b off m : Nat} {rs : List WantD} {r q : WantD} (hk : rs[m + 1]? = some r) (hq : rs[m]? = some q) (h1 : RowsAt x b off rs) (l1 : b < x.heap.size) (hb : Below x.heap.size x w') :
    Below x.heap.size x w' ∧ (w'.cell? ⟨b, off + (m + 1) * 7, none⟩ = some (.string r.c) ∧ w'.cell? ⟨b, off + (m + 1) * 7 + 1, none⟩ = some (.int .i64 r.v) ∧ w'.cell? ⟨b, off + (m + 1) * 7 + 2, none⟩ = some (.string r.h) ∧ w'.cell? ⟨b, off + (m + 1) * 7 + 3, none⟩ = some (.int .i64 r.p) ∧ w'.cell? ⟨b, off + (m + 1) * 7 + 4, none⟩ = some (.int .i64 r.s) ∧ w'.cell? ⟨b, off + (m + 1) * 7 + 5, none⟩ = some (.int .i64 r.d) ∧ w'.cell? ⟨b, off + (m + 1) * 7 + 6, none⟩ = some (.int .i64 r.g)) ∧ (w'.cell? ⟨b, off + m * 7, none⟩ = some (.string q.c) ∧ w'.cell? ⟨b, off + m * 7 + 1, none⟩ = some (.int .i64 q.v) ∧ w'.cell? ⟨b, off + m * 7 + 2, none⟩ = some (.string q.h) ∧ w'.cell? ⟨b, off + m * 7 + 3, none⟩ = some (.int .i64 q.p) ∧ w'.cell? ⟨b, off + m * 7 + 4, none⟩ = some (.int .i64 q.s) ∧ w'.cell? ⟨b, off + m * 7 + 5, none⟩ = some (.int .i64 q.d) ∧ w'.cell? ⟨b, off + m * 7 + 6, none⟩ = some (.int .i64 q.g)) := ⟨hb, (h1.keep l1 hb).at hk, (h1.keep l1 hb).at hq⟩

set_option maxRecDepth 4000 in
set_option maxHeartbeats 2000000 in
theorem ascends (b off cap : Nat) (rs : List WantD) (w : World) (hR : RowsAt w b off rs) (l1 : b < w.heap.size) (hl : rs.length ≤ 1048576) :
    Calls Tryz.prog 159 #[.slice (some ⟨b, off, none⟩) rs.length cap, .func (.func 160) #[] #[]] w fun e w' => (∃ q : Bool, e = .returned (.bool q) ∧ (q = true ↔ AscN rs rs.length)) ∧ Below w.heap.size w w' := by
  go_enter Tryz.func159, Tryz.ntmps159
  go_wp2
  go_loopw [5] (fun i wx => ∃ (m : Nat), m ≤ rs.length ∧ i = .int .i64 ((m : Int) + 1) ∧ Hid (AscN rs (m + 1)) ∧ Below w.heap.size w wx) (fun i _ => rs.length + 1 - (intOf i).toNat)
  case atStart => exact ⟨0, Nat.zero_le _, rfl, (fun j q r hj _ _ => by omega), Below.refl _ _⟩
  case round =>
    obtain ⟨m, hk, rfl, Ha, hB⟩ := hrel
    by_cases hlt : m + 1 < rs.length
    · obtain ⟨r, hr⟩ : ∃ r, rs[m + 1]? = some r := ⟨rs[m + 1], List.getElem?_eq_getElem hlt⟩
      obtain ⟨q, hq⟩ : ∃ q, rs[m]? = some q := ⟨rs[m], List.getElem?_eq_getElem (by omega)⟩
      have Hr : Hid _ := hr
      have Hq : Hid _ := hq
      clear hr hq
      have g1 := hR.keep l1 hB
      have z1 : b < wr.heap.size := Nat.lt_of_lt_of_le l1 hB.size
      have i0 : (0 : Int) ≤ (m : Int) := by omega
      have i1 : (m : Int) + 1 < (rs.length : Int) := by omega
      have i2 : (m : Int) < (rs.length : Int) := by omega
      have i3 : (0 : Int) ≤ (m : Int) + 1 := by omega
      have iw : IntKind.i64.wrap (m : Int) = (m : Int) := by rw [IntKind.wrap_i64]; omega
      cases hasc : Op.bytesLess q.c.toList r.c.toList
      · go_wp2_with fail
        go_region_held3 (fun w' => Below wr.heap.size wr w' ∧ (w'.cell? ⟨b, off + (m + 1) * 7, none⟩ = some (.string r.c) ∧ w'.cell? ⟨b, off + (m + 1) * 7 + 1, none⟩ = some (.int .i64 r.v) ∧ w'.cell? ⟨b, off + (m + 1) * 7 + 2, none⟩ = some (.string r.h) ∧ w'.cell? ⟨b, off + (m + 1) * 7 + 3, none⟩ = some (.int .i64 r.p) ∧ w'.cell? ⟨b, off + (m + 1) * 7 + 4, none⟩ = some (.int .i64 r.s) ∧ w'.cell? ⟨b, off + (m + 1) * 7 + 5, none⟩ = some (.int .i64 r.d) ∧ w'.cell? ⟨b, off + (m + 1) * 7 + 6, none⟩ = some (.int .i64 r.g)) ∧ (w'.cell? ⟨b, off + m * 7, none⟩ = some (.string q.c) ∧ w'.cell? ⟨b, off + m * 7 + 1, none⟩ = some (.int .i64 q.v) ∧ w'.cell? ⟨b, off + m * 7 + 2, none⟩ = some (.string q.h) ∧ w'.cell? ⟨b, off + m * 7 + 3, none⟩ = some (.int .i64 q.p) ∧ w'.cell? ⟨b, off + m * 7 + 4, none⟩ = some (.int .i64 q.s) ∧ w'.cell? ⟨b, off + m * 7 + 5, none⟩ = some (.int .i64 q.d) ∧ w'.cell? ⟨b, off + m * 7 + 6, none⟩ = some (.int .i64 q.g)))
          (first | exact keepAsc Hr.out Hq.out g1 z1 (bl_drew (Below.refl _ _)) | exact keepAsc Hr.out Hq.out g1 z1 (bl_trans (bl_drew (Below.refl _ _)) hx) | exact keepAsc Hr.out Hq.out g1 z1 (bl_trans (bl_trans (bl_drew (Below.refl _ _)) hx) hy))
          (first | (go_at_call 160; refine (name_any q _).mono ?_; rintro e w' ⟨rfl, hx⟩) | (go_at_call 160; refine (name_any r _).mono ?_; rintro e w'' ⟨rfl, hy⟩))
        have y1 := bl_trans (bl_trans (bl_drew (Below.refl _ wr)) hx) hy
        have Hb1 : Hid _ := bl_trans hB y1
        clear hx hy y1 hB g1
        go_wp2
        go_ret
        exact ⟨⟨false, rfl, ⟨fun h => (by cases h), fun h => by have := h m q r (by omega) Hq.out Hr.out; rw [hasc] at this; cases this⟩⟩, Hb1.out⟩
      · go_wp2_with fail
        go_region_held3 (fun w' => Below wr.heap.size wr w' ∧ (w'.cell? ⟨b, off + (m + 1) * 7, none⟩ = some (.string r.c) ∧ w'.cell? ⟨b, off + (m + 1) * 7 + 1, none⟩ = some (.int .i64 r.v) ∧ w'.cell? ⟨b, off + (m + 1) * 7 + 2, none⟩ = some (.string r.h) ∧ w'.cell? ⟨b, off + (m + 1) * 7 + 3, none⟩ = some (.int .i64 r.p) ∧ w'.cell? ⟨b, off + (m + 1) * 7 + 4, none⟩ = some (.int .i64 r.s) ∧ w'.cell? ⟨b, off + (m + 1) * 7 + 5, none⟩ = some (.int .i64 r.d) ∧ w'.cell? ⟨b, off + (m + 1) * 7 + 6, none⟩ = some (.int .i64 r.g)) ∧ (w'.cell? ⟨b, off + m * 7, none⟩ = some (.string q.c) ∧ w'.cell? ⟨b, off + m * 7 + 1, none⟩ = some (.int .i64 q.v) ∧ w'.cell? ⟨b, off + m * 7 + 2, none⟩ = some (.string q.h) ∧ w'.cell? ⟨b, off + m * 7 + 3, none⟩ = some (.int .i64 q.p) ∧ w'.cell? ⟨b, off + m * 7 + 4, none⟩ = some (.int .i64 q.s) ∧ w'.cell? ⟨b, off + m * 7 + 5, none⟩ = some (.int .i64 q.d) ∧ w'.cell? ⟨b, off + m * 7 + 6, none⟩ = some (.int .i64 q.g)))
          (first | exact keepAsc Hr.out Hq.out g1 z1 (bl_drew (Below.refl _ _)) | exact keepAsc Hr.out Hq.out g1 z1 (bl_trans (bl_drew (Below.refl _ _)) hx) | exact keepAsc Hr.out Hq.out g1 z1 (bl_trans (bl_trans (bl_drew (Below.refl _ _)) hx) hy))
          (first | (go_at_call 160; refine (name_any q _).mono ?_; rintro e w' ⟨rfl, hx⟩) | (go_at_call 160; refine (name_any r _).mono ?_; rintro e w'' ⟨rfl, hy⟩))
        have y1 := bl_trans (bl_trans (bl_drew (Below.refl _ wr)) hx) hy
        have Hb1 : Hid _ := bl_trans hB y1
        clear hx hy y1 hB g1
        go_wp2
        exact ⟨⟨m + 1, by omega, by go_num, Ha.out.step Hq.out Hr.out hasc, Hb1.out⟩, by simp [intOf]; omega⟩
    · go_wp2
      go_ret
      exact ⟨⟨true, rfl, ⟨fun _ j q r hj hq hr => Ha.out j q r (by omega) hq hr, fun _ => rfl⟩⟩, hB⟩
end Go.Proofs.YtdkjhonaafadjaaGreat.W
