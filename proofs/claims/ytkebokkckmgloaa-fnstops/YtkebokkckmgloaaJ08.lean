import Derived.Test.YtkebokkckmgloaaJ07
/- What FnStops draws. -/
namespace Go.Proofs.Ytkebokkckmgloaa
open Go.RowKit
set_option linter.unusedVariables false

theorem there_keep3 {x y : World} {k o n : Nat} (h : x.there k o n) (hk : k < x.heap.size) (hb : Below x.heap.size x y) : y.there k o n :=
  fun j hj => ⟨by rw [hb.cell (p := ⟨k, o + j, none⟩) hk]; exact (h j hj).1, by rw [hb.frozen (p := ⟨k, o + j, none⟩) hk]; exact (h j hj).2⟩
theorem cell_of {x : World} {b n : Nat} (h : x.there b 0 n) (j : Nat) (hj : j < n) : (∃ v, x.cell? ⟨b, j, none⟩ = some v) ∧ x.frozen? ⟨b, j, none⟩ = false := by
  have h1 := h j hj
  rw [Nat.zero_add] at h1
  exact ⟨Option.isSome_iff_exists.1 h1.1, h1.2⟩
theorem bl_set2 {w w' : World} (h : Below w.heap.size w w') (b o : Nat) (u : Value) (hp : w.heap.size ≤ b) : Below w.heap.size w (w'.setCell ⟨b, o, none⟩ u) := bl_set h hp u
theorem CodeIn.below {w w' : World} {a : Option Addr} {n : Nat} {zs : List Int} (h : CodeIn w a n zs) (hb : Below w.heap.size w w') : CodeIn w' a n zs := by
  rcases h with h | ⟨b, off, ha, hbb, hc⟩
  · exact Or.inl h
  · exact Or.inr ⟨b, off, ha, Nat.lt_of_lt_of_le hbb hb.size, fun i hi => ⟨(hb.cell (p := ⟨b, off + i, none⟩) hbb).trans (hc i hi).1, (hc i hi).2⟩⟩

set_option maxRecDepth 4000 in
set_option maxHeartbeats 4000000 in
theorem drawLive (sl : Option Addr) (n cap : Nat) (zs : List Int) (w : World) (hz : CodeIn w sl n zs) (hn : n ≤ 1048576) (hcap : n ≤ cap) :
    Calls Try.prog 25 #[.slice sl n cap] w fun e w' => ∃ (c h c2 h2 : ByteArray) (v p s d g a b i u v2 p2 s2 d2 g2 clock : Int) (wanted : Bool), e = .returned (.tuple #[.agg #[.string c, .int .i64 v, .string h, .int .i64 p, .int .i64 s, .int .i64 d, .int .i64 g, .int .i64 a, .int .i64 b, .int .i64 i, .int .i64 u], .agg #[.string c2, .int .i64 v2, .string h2, .int .i64 p2, .int .i64 s2, .int .i64 d2, .int .i64 g2], .bool wanted, .int .i64 clock]) ∧ b ≤ 2000000 ∧ (-2000000 ≤ i ∧ i ≤ 2000000) ∧ (-2000000 ≤ clock ∧ clock ≤ 2000000) ∧ Below w.heap.size w w' := by
  go_enter Try.func25, Try.ntmps25
  go_wp2_with fail
  have hb0 : Below w.heap.size w ((w.alloc (.cells #[.string { data := #[] }, .int .i64 0, .string { data := #[] }, .int .i64 0, .int .i64 0, .int .i64 0, .int .i64 0, .int .i64 0, .int .i64 0, .int .i64 0, .int .i64 0] 38)).alloc (.cells #[.string { data := #[] }, .int .i64 0, .string { data := #[] }, .int .i64 0, .int .i64 0, .int .i64 0, .int .i64 0] 36)) := bl_alloc (bl_alloc (Below.refl _ _) _) _
  refine (open_any sl n cap zs _ (hz.below hb0) hn hcap).mono ?_
  rintro e w1 ⟨rfl, m, r1, b1⟩
  have T1 : w1.there w.heap.size 0 11 := there_keep3 (World.there_alloc (there11 w 38) _) (by simp; omega) b1
  have U1 : w1.there (w.heap.size + 1) 0 7 := there_keep3 (by have := there7 (w.alloc (.cells #[.string { data := #[] }, .int .i64 0, .string { data := #[] }, .int .i64 0, .int .i64 0, .int .i64 0, .int .i64 0, .int .i64 0, .int .i64 0, .int .i64 0, .int .i64 0] 38)) 36; simpa using this) (by simp) b1
  have B1 : Below w.heap.size w w1 := bl_trans hb0 b1
  have z1 : w.heap.size + 1 + 1 < w1.heap.size := by have := r1.lt; simpa using this
  have R1 : Rd w1 (w.heap.size + 1 + 1) sl m cap zs 0 := by simpa using r1
  clear hb0 b1 r1
  have kw : w.heap.size ≤ w.heap.size + 1 + 1 := by omega
  have nr1 : w.heap.size ≠ w.heap.size + 1 + 1 := by omega
  have nr2 : w.heap.size + 1 ≠ w.heap.size + 1 + 1 := by omega
  go_wp2_with fail
  refine (pick_rd (w.heap.size + 1 + 1) sl m cap zs 0 40 _ R1 (by omega) (by omega) (by omega)).mono ?_
  rintro e w2 ⟨k0, rfl, k00, k01, r2, e2⟩
  have B2 := Ex.mono B1 e2 kw
  have T2 := there_ex T1 (by omega) e2 nr1
  have U2 := there_ex U1 (by omega) e2 nr2
  have z2 : (w.heap.size + 1 + 1) < w2.heap.size := Nat.lt_of_lt_of_le z1 e2.size
  clear R1 e2 B1 T1 U1 z1
  go_wp2_with fail
  refine (drawRun (w.heap.size + 1 + 1) sl m cap zs _ k0 _ _ r2 (by omega) k00 (by omega)).mono ?_
  rintro e w3 ⟨h, v, p, s, d, g, st, lf, fl, un, rfl, ⟨lf0, lf1⟩, ⟨fl0, fl1⟩, ⟨q3, r3, hq3⟩, e3, hhz, -⟩
  have B3 := Ex.mono B2 e3 kw
  have T3 := there_ex T2 (by omega) e3 nr1
  have U3 := there_ex U2 (by omega) e3 nr2
  have z3 : (w.heap.size + 1 + 1) < w3.heap.size := Nat.lt_of_lt_of_le z2 e3.size
  clear r2 e3 B2 T2 U2 z2
  have T3' : Hid _ := T3
  have U3' : Hid _ := U3
  have B3' : Hid _ := B3
  have R3' : Hid _ := r3
  clear T3 U3 B3 r3
  go_wp2_with fail
  have T3 := T3'.out
  have U3 := U3'.out
  have B3 := B3'.out
  have r3 := R3'.out
  clear T3' U3' B3' R3'
  have hb3 : Below w3.heap.size w3 ((w3.alloc (.cells #[.string { data := #[99] }, .int .i64 v, .string h, .int .i64 p, .int .i64 s, .int .i64 d, .int .i64 g, .int .i64 st, .int .i64 lf, .int .i64 fl, .int .i64 un] 38)).alloc (.cells #[.string { data := #[99] }, .int .i64 v, .string h, .int .i64 p, .int .i64 s, .int .i64 d, .int .i64 g] 36)) := bl_alloc (bl_alloc (Below.refl _ _) _) _
  refine (pick_rd (w.heap.size + 1 + 1) sl m cap zs _ 8 _ (r3.below hb3) (by omega) (by omega) (by omega)).mono ?_
  rintro e w4 ⟨m8, rfl, m80, m81, r4, e4⟩
  have B4 := Ex.mono (bl_trans B3 hb3) e4 kw
  have T4 : w4.there w.heap.size 0 11 := there_ex (there_keep3 T3 (by omega) hb3) (by simp; omega) e4 nr1
  have U4 : w4.there (w.heap.size + 1) 0 7 := there_ex (there_keep3 U3 (by omega) hb3) (by simp; omega) e4 nr2
  have z4 : w3.heap.size + 1 < w4.heap.size := Nat.lt_of_lt_of_le (by simp) e4.size
  have hbx : ∀ j, w4.cell? ⟨w3.heap.size, j, none⟩ = _ := fun j => e4.cell (p := ⟨w3.heap.size, j, none⟩) (by simp; omega) (by show w3.heap.size ≠ (w.heap.size + 1 + 1); omega)
  have hfx : ∀ j, w4.frozen? ⟨w3.heap.size, j, none⟩ = _ := fun j => e4.frozen (p := ⟨w3.heap.size, j, none⟩) (by simp; omega) (by show w3.heap.size ≠ (w.heap.size + 1 + 1); omega)
  have hby : ∀ j, w4.cell? ⟨w3.heap.size + 1, j, none⟩ = _ := fun j => e4.cell (p := ⟨w3.heap.size + 1, j, none⟩) (by simp) (by show w3.heap.size + 1 ≠ (w.heap.size + 1 + 1); omega)
  have hfy : ∀ j, w4.frozen? ⟨w3.heap.size + 1, j, none⟩ = _ := fun j => e4.frozen (p := ⟨w3.heap.size + 1, j, none⟩) (by simp) (by show w3.heap.size + 1 ≠ (w.heap.size + 1 + 1); omega)
  have x0 : w4.cell? ⟨w3.heap.size, 0, none⟩ = some (.string { data := #[99] }) := by rw [hbx 0]; simp [go_sem]
  have fx0 : w4.frozen? ⟨w3.heap.size, 0, none⟩ = false := by rw [hfx 0]; simp [go_sem]
  have x1 : w4.cell? ⟨w3.heap.size, 1, none⟩ = some (.int .i64 v) := by rw [hbx 1]; simp [go_sem]
  have fx1 : w4.frozen? ⟨w3.heap.size, 1, none⟩ = false := by rw [hfx 1]; simp [go_sem]
  have x2 : w4.cell? ⟨w3.heap.size, 2, none⟩ = some (.string h) := by rw [hbx 2]; simp [go_sem]
  have fx2 : w4.frozen? ⟨w3.heap.size, 2, none⟩ = false := by rw [hfx 2]; simp [go_sem]
  have x3 : w4.cell? ⟨w3.heap.size, 3, none⟩ = some (.int .i64 p) := by rw [hbx 3]; simp [go_sem]
  have fx3 : w4.frozen? ⟨w3.heap.size, 3, none⟩ = false := by rw [hfx 3]; simp [go_sem]
  have x4 : w4.cell? ⟨w3.heap.size, 4, none⟩ = some (.int .i64 s) := by rw [hbx 4]; simp [go_sem]
  have fx4 : w4.frozen? ⟨w3.heap.size, 4, none⟩ = false := by rw [hfx 4]; simp [go_sem]
  have x5 : w4.cell? ⟨w3.heap.size, 5, none⟩ = some (.int .i64 d) := by rw [hbx 5]; simp [go_sem]
  have fx5 : w4.frozen? ⟨w3.heap.size, 5, none⟩ = false := by rw [hfx 5]; simp [go_sem]
  have x6 : w4.cell? ⟨w3.heap.size, 6, none⟩ = some (.int .i64 g) := by rw [hbx 6]; simp [go_sem]
  have fx6 : w4.frozen? ⟨w3.heap.size, 6, none⟩ = false := by rw [hfx 6]; simp [go_sem]
  have x7 : w4.cell? ⟨w3.heap.size, 7, none⟩ = some (.int .i64 st) := by rw [hbx 7]; simp [go_sem]
  have fx7 : w4.frozen? ⟨w3.heap.size, 7, none⟩ = false := by rw [hfx 7]; simp [go_sem]
  have x8 : w4.cell? ⟨w3.heap.size, 8, none⟩ = some (.int .i64 lf) := by rw [hbx 8]; simp [go_sem]
  have fx8 : w4.frozen? ⟨w3.heap.size, 8, none⟩ = false := by rw [hfx 8]; simp [go_sem]
  have x9 : w4.cell? ⟨w3.heap.size, 9, none⟩ = some (.int .i64 fl) := by rw [hbx 9]; simp [go_sem]
  have fx9 : w4.frozen? ⟨w3.heap.size, 9, none⟩ = false := by rw [hfx 9]; simp [go_sem]
  have x10 : w4.cell? ⟨w3.heap.size, 10, none⟩ = some (.int .i64 un) := by rw [hbx 10]; simp [go_sem]
  have fx10 : w4.frozen? ⟨w3.heap.size, 10, none⟩ = false := by rw [hfx 10]; simp [go_sem]
  have y0 : w4.cell? ⟨w3.heap.size + 1, 0, none⟩ = some (.string { data := #[99] }) := by rw [hby 0]; simp [go_sem]
  have fy0 : w4.frozen? ⟨w3.heap.size + 1, 0, none⟩ = false := by rw [hfy 0]; simp [go_sem]
  have y1 : w4.cell? ⟨w3.heap.size + 1, 1, none⟩ = some (.int .i64 v) := by rw [hby 1]; simp [go_sem]
  have fy1 : w4.frozen? ⟨w3.heap.size + 1, 1, none⟩ = false := by rw [hfy 1]; simp [go_sem]
  have y2 : w4.cell? ⟨w3.heap.size + 1, 2, none⟩ = some (.string h) := by rw [hby 2]; simp [go_sem]
  have fy2 : w4.frozen? ⟨w3.heap.size + 1, 2, none⟩ = false := by rw [hfy 2]; simp [go_sem]
  have y3 : w4.cell? ⟨w3.heap.size + 1, 3, none⟩ = some (.int .i64 p) := by rw [hby 3]; simp [go_sem]
  have fy3 : w4.frozen? ⟨w3.heap.size + 1, 3, none⟩ = false := by rw [hfy 3]; simp [go_sem]
  have y4 : w4.cell? ⟨w3.heap.size + 1, 4, none⟩ = some (.int .i64 s) := by rw [hby 4]; simp [go_sem]
  have fy4 : w4.frozen? ⟨w3.heap.size + 1, 4, none⟩ = false := by rw [hfy 4]; simp [go_sem]
  have y5 : w4.cell? ⟨w3.heap.size + 1, 5, none⟩ = some (.int .i64 d) := by rw [hby 5]; simp [go_sem]
  have fy5 : w4.frozen? ⟨w3.heap.size + 1, 5, none⟩ = false := by rw [hfy 5]; simp [go_sem]
  have y6 : w4.cell? ⟨w3.heap.size + 1, 6, none⟩ = some (.int .i64 g) := by rw [hby 6]; simp [go_sem]
  have fy6 : w4.frozen? ⟨w3.heap.size + 1, 6, none⟩ = false := by rw [hfy 6]; simp [go_sem]
  clear hbx hfx hby hfy e4 hb3 r3 B3 T3 U3
  have T4' : Hid _ := T4
  have U4' : Hid _ := U4
  have B4' : Hid _ := B4
  have R4' : Hid _ := r4
  clear T4 U4 B4 r4
  have n0 : w.heap.size ≠ w3.heap.size := by omega
  have n1 : w3.heap.size ≠ w.heap.size := by omega
  have n2 : w.heap.size ≠ w3.heap.size + 1 := by omega
  have n3 : w3.heap.size + 1 ≠ w.heap.size := by omega
  have n4 : w.heap.size + 1 ≠ w3.heap.size := by omega
  have n5 : w3.heap.size ≠ w.heap.size + 1 := by omega
  have n6 : w.heap.size + 1 ≠ w3.heap.size + 1 := by omega
  have n7 : w3.heap.size + 1 ≠ w.heap.size + 1 := by omega
  have n8 : w3.heap.size ≠ w3.heap.size + 1 := by omega
  have n9 : w3.heap.size + 1 ≠ w3.heap.size := by omega
  rcases (by omega : m8 = 0 ∨ m8 = 1 ∨ m8 = 2 ∨ m8 = 3 ∨ 4 ≤ m8) with hm | hm | hm | hm | hm
  · subst hm
    go_wp2_with fail
    refine (drawWant _ sl m cap zs _ _ _ R4'.out (by omega)).mono ?_
    rintro e w5 ⟨h2, v2, p2, s2, d2, g2, rfl, -, -, -, -, -, -, -, e5⟩
    have mx : ∀ j, w5.cell? ⟨w3.heap.size, j, none⟩ = w4.cell? ⟨w3.heap.size, j, none⟩ := fun j => e5.cell (p := ⟨w3.heap.size, j, none⟩) (by show w3.heap.size < w4.heap.size; omega) (by show w3.heap.size ≠ w.heap.size + 1 + 1; omega)
    have mf : ∀ j, w5.frozen? ⟨w3.heap.size, j, none⟩ = w4.frozen? ⟨w3.heap.size, j, none⟩ := fun j => e5.frozen (p := ⟨w3.heap.size, j, none⟩) (by show w3.heap.size < w4.heap.size; omega) (by show w3.heap.size ≠ w.heap.size + 1 + 1; omega)
    have my : ∀ j, w5.cell? ⟨w3.heap.size + 1, j, none⟩ = w4.cell? ⟨w3.heap.size + 1, j, none⟩ := fun j => e5.cell (p := ⟨w3.heap.size + 1, j, none⟩) (by show w3.heap.size + 1 < w4.heap.size; omega) (by show w3.heap.size + 1 ≠ w.heap.size + 1 + 1; omega)
    have mg : ∀ j, w5.frozen? ⟨w3.heap.size + 1, j, none⟩ = w4.frozen? ⟨w3.heap.size + 1, j, none⟩ := fun j => e5.frozen (p := ⟨w3.heap.size + 1, j, none⟩) (by show w3.heap.size + 1 < w4.heap.size; omega) (by show w3.heap.size + 1 ≠ w.heap.size + 1 + 1; omega)
    replace x0 := (mx 0).trans x0
    replace fx0 := (mf 0).trans fx0
    replace x1 := (mx 1).trans x1
    replace fx1 := (mf 1).trans fx1
    replace x2 := (mx 2).trans x2
    replace fx2 := (mf 2).trans fx2
    replace x3 := (mx 3).trans x3
    replace fx3 := (mf 3).trans fx3
    replace x4 := (mx 4).trans x4
    replace fx4 := (mf 4).trans fx4
    replace x5 := (mx 5).trans x5
    replace fx5 := (mf 5).trans fx5
    replace x6 := (mx 6).trans x6
    replace fx6 := (mf 6).trans fx6
    replace x7 := (mx 7).trans x7
    replace fx7 := (mf 7).trans fx7
    replace x8 := (mx 8).trans x8
    replace fx8 := (mf 8).trans fx8
    replace x9 := (mx 9).trans x9
    replace fx9 := (mf 9).trans fx9
    replace x10 := (mx 10).trans x10
    replace fx10 := (mf 10).trans fx10
    replace y0 := (my 0).trans y0
    replace fy0 := (mg 0).trans fy0
    replace y1 := (my 1).trans y1
    replace fy1 := (mg 1).trans fy1
    replace y2 := (my 2).trans y2
    replace fy2 := (mg 2).trans fy2
    replace y3 := (my 3).trans y3
    replace fy3 := (mg 3).trans fy3
    replace y4 := (my 4).trans y4
    replace fy4 := (mg 4).trans fy4
    replace y5 := (my 5).trans y5
    replace fy5 := (mg 5).trans fy5
    replace y6 := (my 6).trans y6
    replace fy6 := (mg 6).trans fy6
    replace T4' : Hid (w5.there w.heap.size 0 11) := there_ex T4'.out (by omega) e5 nr1
    replace U4' : Hid (w5.there (w.heap.size + 1) 0 7) := there_ex U4'.out (by omega) e5 nr2
    replace B4' : Hid (Below w.heap.size w w5) := Ex.mono B4'.out e5 kw
    clear mx mf my mg e5
    obtain ⟨⟨u0, tu0⟩, tf0⟩ := cell_of T4'.out 0 (by omega)
    obtain ⟨⟨u1, tu1⟩, tf1⟩ := cell_of T4'.out 1 (by omega)
    obtain ⟨⟨u2, tu2⟩, tf2⟩ := cell_of T4'.out 2 (by omega)
    obtain ⟨⟨u3, tu3⟩, tf3⟩ := cell_of T4'.out 3 (by omega)
    obtain ⟨⟨u4, tu4⟩, tf4⟩ := cell_of T4'.out 4 (by omega)
    obtain ⟨⟨u5, tu5⟩, tf5⟩ := cell_of T4'.out 5 (by omega)
    obtain ⟨⟨u6, tu6⟩, tf6⟩ := cell_of T4'.out 6 (by omega)
    obtain ⟨⟨u7, tu7⟩, tf7⟩ := cell_of T4'.out 7 (by omega)
    obtain ⟨⟨u8, tu8⟩, tf8⟩ := cell_of T4'.out 8 (by omega)
    obtain ⟨⟨u9, tu9⟩, tf9⟩ := cell_of T4'.out 9 (by omega)
    obtain ⟨⟨u10, tu10⟩, tf10⟩ := cell_of T4'.out 10 (by omega)
    obtain ⟨⟨su0, ts0⟩, tg0⟩ := cell_of U4'.out 0 (by omega)
    obtain ⟨⟨su1, ts1⟩, tg1⟩ := cell_of U4'.out 1 (by omega)
    obtain ⟨⟨su2, ts2⟩, tg2⟩ := cell_of U4'.out 2 (by omega)
    obtain ⟨⟨su3, ts3⟩, tg3⟩ := cell_of U4'.out 3 (by omega)
    obtain ⟨⟨su4, ts4⟩, tg4⟩ := cell_of U4'.out 4 (by omega)
    obtain ⟨⟨su5, ts5⟩, tg5⟩ := cell_of U4'.out 5 (by omega)
    obtain ⟨⟨su6, ts6⟩, tg6⟩ := cell_of U4'.out 6 (by omega)
    go_wp2_with fail
    go_region
    all_goals go_wp2
    exact bodyPost_ret (v := .tuple #[.agg #[.string { data := #[99] }, .int .i64 v, .string h, .int .i64 p, .int .i64 s, .int .i64 d, .int .i64 g, .int .i64 st, .int .i64 lf, .int .i64 fl, .int .i64 un], .agg #[.string { data := #[99] }, .int .i64 v2, .string h2, .int .i64 p2, .int .i64 s2, .int .i64 d2, .int .i64 g2], .bool true, .int .i64 k0]) (by simp [results, Try.results25, go_sem, *]) rfl ⟨{ data := #[99] }, h, { data := #[99] }, h2, v, p, s, d, g, st, lf, fl, un, v2, p2, s2, d2, g2, k0, true, rfl, by omega, ⟨by omega, by omega⟩, ⟨by omega, by omega⟩, by repeat (first | with_reducible exact B4'.out | with_reducible refine bl_drew ?_ | with_reducible refine bl_set2 ?_ _ _ _ (by omega))⟩
  · subst hm
    obtain ⟨⟨u0, tu0⟩, tf0⟩ := cell_of T4'.out 0 (by omega)
    obtain ⟨⟨u1, tu1⟩, tf1⟩ := cell_of T4'.out 1 (by omega)
    obtain ⟨⟨u2, tu2⟩, tf2⟩ := cell_of T4'.out 2 (by omega)
    obtain ⟨⟨u3, tu3⟩, tf3⟩ := cell_of T4'.out 3 (by omega)
    obtain ⟨⟨u4, tu4⟩, tf4⟩ := cell_of T4'.out 4 (by omega)
    obtain ⟨⟨u5, tu5⟩, tf5⟩ := cell_of T4'.out 5 (by omega)
    obtain ⟨⟨u6, tu6⟩, tf6⟩ := cell_of T4'.out 6 (by omega)
    obtain ⟨⟨u7, tu7⟩, tf7⟩ := cell_of T4'.out 7 (by omega)
    obtain ⟨⟨u8, tu8⟩, tf8⟩ := cell_of T4'.out 8 (by omega)
    obtain ⟨⟨u9, tu9⟩, tf9⟩ := cell_of T4'.out 9 (by omega)
    obtain ⟨⟨u10, tu10⟩, tf10⟩ := cell_of T4'.out 10 (by omega)
    obtain ⟨⟨su0, ts0⟩, tg0⟩ := cell_of U4'.out 0 (by omega)
    obtain ⟨⟨su1, ts1⟩, tg1⟩ := cell_of U4'.out 1 (by omega)
    obtain ⟨⟨su2, ts2⟩, tg2⟩ := cell_of U4'.out 2 (by omega)
    obtain ⟨⟨su3, ts3⟩, tg3⟩ := cell_of U4'.out 3 (by omega)
    obtain ⟨⟨su4, ts4⟩, tg4⟩ := cell_of U4'.out 4 (by omega)
    obtain ⟨⟨su5, ts5⟩, tg5⟩ := cell_of U4'.out 5 (by omega)
    obtain ⟨⟨su6, ts6⟩, tg6⟩ := cell_of U4'.out 6 (by omega)
    go_wp2
    exact bodyPost_ret (v := .tuple #[.agg #[.string { data := #[99] }, .int .i64 v, .string h, .int .i64 p, .int .i64 s, .int .i64 d, .int .i64 g, .int .i64 st, .int .i64 lf, .int .i64 fl, .int .i64 un], .agg #[.string { data := #[] }, .int .i64 0, .string { data := #[] }, .int .i64 0, .int .i64 0, .int .i64 0, .int .i64 0], .bool false, .int .i64 k0]) (by simp [results, Try.results25, go_sem, *]) rfl ⟨{ data := #[99] }, h, { data := #[] }, { data := #[] }, v, p, s, d, g, st, lf, fl, un, 0, 0, 0, 0, 0, k0, false, rfl, by omega, ⟨by omega, by omega⟩, ⟨by omega, by omega⟩, by repeat (first | with_reducible exact B4'.out | with_reducible refine bl_drew ?_ | with_reducible refine bl_set2 ?_ _ _ _ (by omega))⟩
  · subst hm
    go_wp2_with fail
    refine (spoilRun _ sl m cap zs _ { data := #[99] } h v p s d g st lf fl un _ R4'.out (by omega) (by omega) ⟨by omega, by omega⟩ (by unfold maxLen; decide) (by unfold maxLen; omega)).mono ?_
    rintro e w5 ⟨c2, h2, v2, p2, s2, d2, g2, st2, lf2, fl2, un2, rfl, hlf, ⟨hf1, hf2⟩, -, e5, -⟩
    have mx : ∀ j, w5.cell? ⟨w3.heap.size, j, none⟩ = w4.cell? ⟨w3.heap.size, j, none⟩ := fun j => e5.cell (p := ⟨w3.heap.size, j, none⟩) (by show w3.heap.size < w4.heap.size; omega) (by show w3.heap.size ≠ w.heap.size + 1 + 1; omega)
    have mf : ∀ j, w5.frozen? ⟨w3.heap.size, j, none⟩ = w4.frozen? ⟨w3.heap.size, j, none⟩ := fun j => e5.frozen (p := ⟨w3.heap.size, j, none⟩) (by show w3.heap.size < w4.heap.size; omega) (by show w3.heap.size ≠ w.heap.size + 1 + 1; omega)
    have my : ∀ j, w5.cell? ⟨w3.heap.size + 1, j, none⟩ = w4.cell? ⟨w3.heap.size + 1, j, none⟩ := fun j => e5.cell (p := ⟨w3.heap.size + 1, j, none⟩) (by show w3.heap.size + 1 < w4.heap.size; omega) (by show w3.heap.size + 1 ≠ w.heap.size + 1 + 1; omega)
    have mg : ∀ j, w5.frozen? ⟨w3.heap.size + 1, j, none⟩ = w4.frozen? ⟨w3.heap.size + 1, j, none⟩ := fun j => e5.frozen (p := ⟨w3.heap.size + 1, j, none⟩) (by show w3.heap.size + 1 < w4.heap.size; omega) (by show w3.heap.size + 1 ≠ w.heap.size + 1 + 1; omega)
    replace x0 := (mx 0).trans x0
    replace fx0 := (mf 0).trans fx0
    replace x1 := (mx 1).trans x1
    replace fx1 := (mf 1).trans fx1
    replace x2 := (mx 2).trans x2
    replace fx2 := (mf 2).trans fx2
    replace x3 := (mx 3).trans x3
    replace fx3 := (mf 3).trans fx3
    replace x4 := (mx 4).trans x4
    replace fx4 := (mf 4).trans fx4
    replace x5 := (mx 5).trans x5
    replace fx5 := (mf 5).trans fx5
    replace x6 := (mx 6).trans x6
    replace fx6 := (mf 6).trans fx6
    replace x7 := (mx 7).trans x7
    replace fx7 := (mf 7).trans fx7
    replace x8 := (mx 8).trans x8
    replace fx8 := (mf 8).trans fx8
    replace x9 := (mx 9).trans x9
    replace fx9 := (mf 9).trans fx9
    replace x10 := (mx 10).trans x10
    replace fx10 := (mf 10).trans fx10
    replace y0 := (my 0).trans y0
    replace fy0 := (mg 0).trans fy0
    replace y1 := (my 1).trans y1
    replace fy1 := (mg 1).trans fy1
    replace y2 := (my 2).trans y2
    replace fy2 := (mg 2).trans fy2
    replace y3 := (my 3).trans y3
    replace fy3 := (mg 3).trans fy3
    replace y4 := (my 4).trans y4
    replace fy4 := (mg 4).trans fy4
    replace y5 := (my 5).trans y5
    replace fy5 := (mg 5).trans fy5
    replace y6 := (my 6).trans y6
    replace fy6 := (mg 6).trans fy6
    replace T4' : Hid (w5.there w.heap.size 0 11) := there_ex T4'.out (by omega) e5 nr1
    replace U4' : Hid (w5.there (w.heap.size + 1) 0 7) := there_ex U4'.out (by omega) e5 nr2
    replace B4' : Hid (Below w.heap.size w w5) := Ex.mono B4'.out e5 kw
    clear mx mf my mg e5
    obtain ⟨⟨u0, tu0⟩, tf0⟩ := cell_of T4'.out 0 (by omega)
    obtain ⟨⟨u1, tu1⟩, tf1⟩ := cell_of T4'.out 1 (by omega)
    obtain ⟨⟨u2, tu2⟩, tf2⟩ := cell_of T4'.out 2 (by omega)
    obtain ⟨⟨u3, tu3⟩, tf3⟩ := cell_of T4'.out 3 (by omega)
    obtain ⟨⟨u4, tu4⟩, tf4⟩ := cell_of T4'.out 4 (by omega)
    obtain ⟨⟨u5, tu5⟩, tf5⟩ := cell_of T4'.out 5 (by omega)
    obtain ⟨⟨u6, tu6⟩, tf6⟩ := cell_of T4'.out 6 (by omega)
    obtain ⟨⟨u7, tu7⟩, tf7⟩ := cell_of T4'.out 7 (by omega)
    obtain ⟨⟨u8, tu8⟩, tf8⟩ := cell_of T4'.out 8 (by omega)
    obtain ⟨⟨u9, tu9⟩, tf9⟩ := cell_of T4'.out 9 (by omega)
    obtain ⟨⟨u10, tu10⟩, tf10⟩ := cell_of T4'.out 10 (by omega)
    obtain ⟨⟨su0, ts0⟩, tg0⟩ := cell_of U4'.out 0 (by omega)
    obtain ⟨⟨su1, ts1⟩, tg1⟩ := cell_of U4'.out 1 (by omega)
    obtain ⟨⟨su2, ts2⟩, tg2⟩ := cell_of U4'.out 2 (by omega)
    obtain ⟨⟨su3, ts3⟩, tg3⟩ := cell_of U4'.out 3 (by omega)
    obtain ⟨⟨su4, ts4⟩, tg4⟩ := cell_of U4'.out 4 (by omega)
    obtain ⟨⟨su5, ts5⟩, tg5⟩ := cell_of U4'.out 5 (by omega)
    obtain ⟨⟨su6, ts6⟩, tg6⟩ := cell_of U4'.out 6 (by omega)
    go_wp2_with fail
    go_region
    all_goals go_wp2
    exact bodyPost_ret (v := .tuple #[.agg #[.string c2, .int .i64 v2, .string h2, .int .i64 p2, .int .i64 s2, .int .i64 d2, .int .i64 g2, .int .i64 st2, .int .i64 lf2, .int .i64 fl2, .int .i64 un2], .agg #[.string { data := #[99] }, .int .i64 v, .string h, .int .i64 p, .int .i64 s, .int .i64 d, .int .i64 g], .bool true, .int .i64 k0]) (by simp [results, Try.results25, go_sem, *]) rfl ⟨c2, h2, { data := #[99] }, h, v2, p2, s2, d2, g2, st2, lf2, fl2, un2, v, p, s, d, g, k0, true, rfl, by omega, ⟨by omega, by omega⟩, ⟨by omega, by omega⟩, by repeat (first | with_reducible exact B4'.out | with_reducible refine bl_drew ?_ | with_reducible refine bl_set2 ?_ _ _ _ (by omega))⟩
  · subst hm
    go_wp2_with fail
    refine (pick_rd _ sl m cap zs _ 2 _ R4'.out (by omega) (by omega) (by omega)).mono ?_
    rintro e w5 ⟨mq, rfl, mq0, mq1, -, e5⟩
    have mx : ∀ j, w5.cell? ⟨w3.heap.size, j, none⟩ = w4.cell? ⟨w3.heap.size, j, none⟩ := fun j => e5.cell (p := ⟨w3.heap.size, j, none⟩) (by show w3.heap.size < w4.heap.size; omega) (by show w3.heap.size ≠ w.heap.size + 1 + 1; omega)
    have mf : ∀ j, w5.frozen? ⟨w3.heap.size, j, none⟩ = w4.frozen? ⟨w3.heap.size, j, none⟩ := fun j => e5.frozen (p := ⟨w3.heap.size, j, none⟩) (by show w3.heap.size < w4.heap.size; omega) (by show w3.heap.size ≠ w.heap.size + 1 + 1; omega)
    have my : ∀ j, w5.cell? ⟨w3.heap.size + 1, j, none⟩ = w4.cell? ⟨w3.heap.size + 1, j, none⟩ := fun j => e5.cell (p := ⟨w3.heap.size + 1, j, none⟩) (by show w3.heap.size + 1 < w4.heap.size; omega) (by show w3.heap.size + 1 ≠ w.heap.size + 1 + 1; omega)
    have mg : ∀ j, w5.frozen? ⟨w3.heap.size + 1, j, none⟩ = w4.frozen? ⟨w3.heap.size + 1, j, none⟩ := fun j => e5.frozen (p := ⟨w3.heap.size + 1, j, none⟩) (by show w3.heap.size + 1 < w4.heap.size; omega) (by show w3.heap.size + 1 ≠ w.heap.size + 1 + 1; omega)
    replace x0 := (mx 0).trans x0
    replace fx0 := (mf 0).trans fx0
    replace x1 := (mx 1).trans x1
    replace fx1 := (mf 1).trans fx1
    replace x2 := (mx 2).trans x2
    replace fx2 := (mf 2).trans fx2
    replace x3 := (mx 3).trans x3
    replace fx3 := (mf 3).trans fx3
    replace x4 := (mx 4).trans x4
    replace fx4 := (mf 4).trans fx4
    replace x5 := (mx 5).trans x5
    replace fx5 := (mf 5).trans fx5
    replace x6 := (mx 6).trans x6
    replace fx6 := (mf 6).trans fx6
    replace x7 := (mx 7).trans x7
    replace fx7 := (mf 7).trans fx7
    replace x8 := (mx 8).trans x8
    replace fx8 := (mf 8).trans fx8
    replace x9 := (mx 9).trans x9
    replace fx9 := (mf 9).trans fx9
    replace x10 := (mx 10).trans x10
    replace fx10 := (mf 10).trans fx10
    replace y0 := (my 0).trans y0
    replace fy0 := (mg 0).trans fy0
    replace y1 := (my 1).trans y1
    replace fy1 := (mg 1).trans fy1
    replace y2 := (my 2).trans y2
    replace fy2 := (mg 2).trans fy2
    replace y3 := (my 3).trans y3
    replace fy3 := (mg 3).trans fy3
    replace y4 := (my 4).trans y4
    replace fy4 := (mg 4).trans fy4
    replace y5 := (my 5).trans y5
    replace fy5 := (mg 5).trans fy5
    replace y6 := (my 6).trans y6
    replace fy6 := (mg 6).trans fy6
    replace T4' : Hid (w5.there w.heap.size 0 11) := there_ex T4'.out (by omega) e5 nr1
    replace U4' : Hid (w5.there (w.heap.size + 1) 0 7) := there_ex U4'.out (by omega) e5 nr2
    replace B4' : Hid (Below w.heap.size w w5) := Ex.mono B4'.out e5 kw
    clear mx mf my mg e5
    obtain ⟨⟨u0, tu0⟩, tf0⟩ := cell_of T4'.out 0 (by omega)
    obtain ⟨⟨u1, tu1⟩, tf1⟩ := cell_of T4'.out 1 (by omega)
    obtain ⟨⟨u2, tu2⟩, tf2⟩ := cell_of T4'.out 2 (by omega)
    obtain ⟨⟨u3, tu3⟩, tf3⟩ := cell_of T4'.out 3 (by omega)
    obtain ⟨⟨u4, tu4⟩, tf4⟩ := cell_of T4'.out 4 (by omega)
    obtain ⟨⟨u5, tu5⟩, tf5⟩ := cell_of T4'.out 5 (by omega)
    obtain ⟨⟨u6, tu6⟩, tf6⟩ := cell_of T4'.out 6 (by omega)
    obtain ⟨⟨u7, tu7⟩, tf7⟩ := cell_of T4'.out 7 (by omega)
    obtain ⟨⟨u8, tu8⟩, tf8⟩ := cell_of T4'.out 8 (by omega)
    obtain ⟨⟨u9, tu9⟩, tf9⟩ := cell_of T4'.out 9 (by omega)
    obtain ⟨⟨u10, tu10⟩, tf10⟩ := cell_of T4'.out 10 (by omega)
    obtain ⟨⟨su0, ts0⟩, tg0⟩ := cell_of U4'.out 0 (by omega)
    obtain ⟨⟨su1, ts1⟩, tg1⟩ := cell_of U4'.out 1 (by omega)
    obtain ⟨⟨su2, ts2⟩, tg2⟩ := cell_of U4'.out 2 (by omega)
    obtain ⟨⟨su3, ts3⟩, tg3⟩ := cell_of U4'.out 3 (by omega)
    obtain ⟨⟨su4, ts4⟩, tg4⟩ := cell_of U4'.out 4 (by omega)
    obtain ⟨⟨su5, ts5⟩, tg5⟩ := cell_of U4'.out 5 (by omega)
    obtain ⟨⟨su6, ts6⟩, tg6⟩ := cell_of U4'.out 6 (by omega)
    go_wp2_with fail
    go_region
    all_goals go_wp2
    exact bodyPost_ret (v := .tuple #[.agg #[.string { data := #[99] }, .int .i64 v, .string h, .int .i64 p, .int .i64 s, .int .i64 d, .int .i64 g, .int .i64 4, .int .i64 1, .int .i64 (1000 - mq), .int .i64 un], .agg #[.string { data := #[99] }, .int .i64 v, .string h, .int .i64 p, .int .i64 s, .int .i64 d, .int .i64 g], .bool true, .int .i64 k0]) (by simp [results, Try.results25, go_sem, *]) rfl ⟨{ data := #[99] }, h, { data := #[99] }, h, v, p, s, d, g, 4, 1, (1000 - mq), un, v, p, s, d, g, k0, true, rfl, by omega, ⟨by omega, by omega⟩, ⟨by omega, by omega⟩, by repeat (first | with_reducible exact B4'.out | with_reducible refine bl_drew ?_ | with_reducible refine bl_set2 ?_ _ _ _ (by omega))⟩
  · skip
    obtain ⟨⟨u0, tu0⟩, tf0⟩ := cell_of T4'.out 0 (by omega)
    obtain ⟨⟨u1, tu1⟩, tf1⟩ := cell_of T4'.out 1 (by omega)
    obtain ⟨⟨u2, tu2⟩, tf2⟩ := cell_of T4'.out 2 (by omega)
    obtain ⟨⟨u3, tu3⟩, tf3⟩ := cell_of T4'.out 3 (by omega)
    obtain ⟨⟨u4, tu4⟩, tf4⟩ := cell_of T4'.out 4 (by omega)
    obtain ⟨⟨u5, tu5⟩, tf5⟩ := cell_of T4'.out 5 (by omega)
    obtain ⟨⟨u6, tu6⟩, tf6⟩ := cell_of T4'.out 6 (by omega)
    obtain ⟨⟨u7, tu7⟩, tf7⟩ := cell_of T4'.out 7 (by omega)
    obtain ⟨⟨u8, tu8⟩, tf8⟩ := cell_of T4'.out 8 (by omega)
    obtain ⟨⟨u9, tu9⟩, tf9⟩ := cell_of T4'.out 9 (by omega)
    obtain ⟨⟨u10, tu10⟩, tf10⟩ := cell_of T4'.out 10 (by omega)
    obtain ⟨⟨su0, ts0⟩, tg0⟩ := cell_of U4'.out 0 (by omega)
    obtain ⟨⟨su1, ts1⟩, tg1⟩ := cell_of U4'.out 1 (by omega)
    obtain ⟨⟨su2, ts2⟩, tg2⟩ := cell_of U4'.out 2 (by omega)
    obtain ⟨⟨su3, ts3⟩, tg3⟩ := cell_of U4'.out 3 (by omega)
    obtain ⟨⟨su4, ts4⟩, tg4⟩ := cell_of U4'.out 4 (by omega)
    obtain ⟨⟨su5, ts5⟩, tg5⟩ := cell_of U4'.out 5 (by omega)
    obtain ⟨⟨su6, ts6⟩, tg6⟩ := cell_of U4'.out 6 (by omega)
    go_wp2_with fail
    go_region
    all_goals go_wp2
    exact bodyPost_ret (v := .tuple #[.agg #[.string { data := #[99] }, .int .i64 v, .string h, .int .i64 p, .int .i64 s, .int .i64 d, .int .i64 g, .int .i64 st, .int .i64 lf, .int .i64 fl, .int .i64 un], .agg #[.string { data := #[99] }, .int .i64 v, .string h, .int .i64 p, .int .i64 s, .int .i64 d, .int .i64 g], .bool true, .int .i64 k0]) (by simp [results, Try.results25, go_sem, *]) rfl ⟨{ data := #[99] }, h, { data := #[99] }, h, v, p, s, d, g, st, lf, fl, un, v, p, s, d, g, k0, true, rfl, by omega, ⟨by omega, by omega⟩, ⟨by omega, by omega⟩, by repeat (first | with_reducible exact B4'.out | with_reducible refine bl_drew ?_ | with_reducible refine bl_set2 ?_ _ _ _ (by omega))⟩
end Go.Proofs.Ytkebokkckmgloaa
