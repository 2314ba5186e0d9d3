import Derived.Test.YtgakmkhbnjofhaaGreatDoorJ02
/- A run is drawn. -/
namespace Go.Proofs.YtgakmkhbnjofhaaGreatDoor
open Go.RowKit
set_option linter.unusedVariables false

theorem cellsAll {wx : World} {k : Nat} {v0 v1 v2 v3 v4 v5 v6 v7 v8 v9 v10 : Value} (h : wx.rangeAt k 0 [v0, v1, v2, v3, v4, v5, v6, v7, v8, v9, v10]) : wx.cell? ⟨k, 0, none⟩ = some v0 ∧ wx.cell? ⟨k, 1, none⟩ = some v1 ∧ wx.cell? ⟨k, 2, none⟩ = some v2 ∧ wx.cell? ⟨k, 3, none⟩ = some v3 ∧ wx.cell? ⟨k, 4, none⟩ = some v4 ∧ wx.cell? ⟨k, 5, none⟩ = some v5 ∧ wx.cell? ⟨k, 6, none⟩ = some v6 ∧ wx.cell? ⟨k, 7, none⟩ = some v7 ∧ wx.cell? ⟨k, 8, none⟩ = some v8 ∧ wx.cell? ⟨k, 9, none⟩ = some v9 ∧ wx.cell? ⟨k, 10, none⟩ = some v10 :=
  ⟨by simpa using h 0 _ rfl, by simpa using h 1 _ rfl, by simpa using h 2 _ rfl, by simpa using h 3 _ rfl, by simpa using h 4 _ rfl, by simpa using h 5 _ rfl, by simpa using h 6 _ rfl, by simpa using h 7 _ rfl, by simpa using h 8 _ rfl, by simpa using h 9 _ rfl, by simpa using h 10 _ rfl⟩
theorem there11 (w : World) (t : TypeId) : (w.alloc (.cells #[.string { data := #[] }, .int .i64 0, .string { data := #[] }, .int .i64 0, .int .i64 0, .int .i64 0, .int .i64 0, .int .i64 0, .int .i64 0, .int .i64 0, .int .i64 0] t)).there w.heap.size 0 11 :=
  fun j hj => ⟨by simp [go_sem]; omega, by simp [go_sem]⟩
set_option maxRecDepth 4000 in
set_option maxHeartbeats 2000000 in
theorem drawRun (kr : Nat) (a : Option Addr) (n cap : Nat) (zs : List Int) (p clock : Int) (c : ByteArray) (w : World) (hr : Rd w kr a n cap zs p) (hp : p < 800000) (k0 : 0 ≤ clock) (k1 : clock ≤ 100000) :
    Calls Tryz.prog 60 #[.pointer (some ⟨kr, 0, none⟩), .string c, .int .i64 clock] w fun e w' => ∃ (h : ByteArray) (v1 p1 s d g st lf fl un : Int), e = .returned (.agg #[.string c, .int .i64 v1, .string h, .int .i64 p1, .int .i64 s, .int .i64 d, .int .i64 g, .int .i64 st, .int .i64 lf, .int .i64 fl, .int .i64 un]) ∧ (0 ≤ lf ∧ lf ≤ 100) ∧ (0 ≤ fl ∧ fl ≤ 100) ∧ (∃ q, Rd w' kr a n cap zs q ∧ q ≤ p + 100) ∧ Ex kr w w' ∧ h.size ≤ 20 ∧ (-100000 ≤ un ∧ un ≤ 200000) := by
  have hkr := hr.lt
  go_enter Tryz.func60, Tryz.ntmps60
  go_wp2_with fail
  have hb1 := bl_alloc (Below.refl w.heap.size w) (.cells #[.string { data := #[] }, .int .i64 0, .string { data := #[] }, .int .i64 0, .int .i64 0, .int .i64 0, .int .i64 0, .int .i64 0, .int .i64 0, .int .i64 0, .int .i64 0] 73)
  refine (drawWant kr a n cap zs p c _ (hr.below hb1) (by omega)).mono ?_
  rintro e w1 ⟨h, v1, p1, s, d, g, rfl, hh, -, -, -, -, -, ⟨q1, r1, hq1⟩, e1⟩
  go_wp2_with fail
  refine (pick_rd kr a n cap zs q1 6 _ r1 (by omega) (by omega) (by omega)).mono ?_
  rintro e w2 ⟨m1, rfl, m10, m11, r2, e2⟩
  go_wp2_with fail
  refine (pick_rd kr a n cap zs _ 5 _ r2 (by omega) (by omega) (by omega)).mono ?_
  rintro e w3 ⟨m2, rfl, m20, m21, r3, e3⟩
  go_wp2_with fail
  refine (pick_rd kr a n cap zs _ 6 _ r3 (by omega) (by omega) (by omega)).mono ?_
  rintro e w4 ⟨m3, rfl, m30, m31, r4, e4⟩
  have hne : kr ≠ w.heap.size := by omega
  have hinfo : (Tryz.prog.info? 73).map (·.size) = some 11 := by kernel_rfl
  have e4' := (e1.trans e2).trans (e3.trans e4)
  have T4 : w4.there w.heap.size 0 11 := there_ex (there11 w 73) (by simp) e4' (by omega)
  have E4 : Ex kr w w4 := (Ex.of_below hb1).trans e4'
  have z4 : w.heap.size < w4.heap.size := Nat.lt_of_lt_of_le (by simp) e4'.size
  clear hb1 e1 e2 e3 e4 r1 r2 r3 e4'
  have T4' : Hid _ := T4
  have E4' : Hid _ := E4
  have R4' : Hid _ := r4
  clear T4 E4 r4
  cases hE : h.toList.isEmpty
  · go_wp2_with fail
    have hb4 := bl_alloc (Below.refl w4.heap.size w4) (.cells #[.string c, .int .i64 v1, .string h, .int .i64 p1, .int .i64 s, .int .i64 d, .int .i64 g, .int .i64 (1 + m1), .int .i64 m2, .int .i64 m3, .int .i64 0] 73)
    refine (pick_rd kr a n cap zs _ 14 _ (R4'.out.below hb4) (by omega) (by omega) (by omega)).mono ?_
    rintro e w5 ⟨m5, rfl, m50, m51, r5, e5⟩
    have hne4 : w4.heap.size ≠ kr := by have := E4'.out.size; omega
    have hbx : ∀ j, w5.cell? ⟨w4.heap.size, j, none⟩ = (w4.alloc (.cells #[.string c, .int .i64 v1, .string h, .int .i64 p1, .int .i64 s, .int .i64 d, .int .i64 g, .int .i64 (1 + m1), .int .i64 m2, .int .i64 m3, .int .i64 0] 73)).cell? ⟨w4.heap.size, j, none⟩ := fun j => e5.cell (p := ⟨w4.heap.size, j, none⟩) (by simp) hne4
    have hfx : ∀ j, w5.frozen? ⟨w4.heap.size, j, none⟩ = (w4.alloc (.cells #[.string c, .int .i64 v1, .string h, .int .i64 p1, .int .i64 s, .int .i64 d, .int .i64 g, .int .i64 (1 + m1), .int .i64 m2, .int .i64 m3, .int .i64 0] 73)).frozen? ⟨w4.heap.size, j, none⟩ := fun j => e5.frozen (p := ⟨w4.heap.size, j, none⟩) (by simp) hne4
    have T5 : w5.there w.heap.size 0 11 := there_ex (World.there_alloc T4'.out _) (by simp; omega) e5 (by omega)
    have E5 : Ex kr w w5 := (E4'.out.trans (Ex.of_below hb4)).trans e5
    have z45 : w4.heap.size < w5.heap.size := Nat.lt_of_lt_of_le (by simp) e5.size
    have T5' : Hid _ := T5
    have E5' : Hid _ := E5
    have R5' : Hid _ := r5
    clear T5 E5 r5 e5 hb4
    have c0 : w5.cell? ⟨w4.heap.size, 0, none⟩ = some (.string c) := by rw [hbx 0]; simp [go_sem]
    have c1 : w5.cell? ⟨w4.heap.size, 1, none⟩ = some (.int .i64 v1) := by rw [hbx 1]; simp [go_sem]
    have c2 : w5.cell? ⟨w4.heap.size, 2, none⟩ = some (.string h) := by rw [hbx 2]; simp [go_sem]
    have c3 : w5.cell? ⟨w4.heap.size, 3, none⟩ = some (.int .i64 p1) := by rw [hbx 3]; simp [go_sem]
    have c4 : w5.cell? ⟨w4.heap.size, 4, none⟩ = some (.int .i64 s) := by rw [hbx 4]; simp [go_sem]
    have c5 : w5.cell? ⟨w4.heap.size, 5, none⟩ = some (.int .i64 d) := by rw [hbx 5]; simp [go_sem]
    have c6 : w5.cell? ⟨w4.heap.size, 6, none⟩ = some (.int .i64 g) := by rw [hbx 6]; simp [go_sem]
    have c7 : w5.cell? ⟨w4.heap.size, 7, none⟩ = some (.int .i64 (1 + m1)) := by rw [hbx 7]; simp [go_sem]
    have c8 : w5.cell? ⟨w4.heap.size, 8, none⟩ = some (.int .i64 m2) := by rw [hbx 8]; simp [go_sem]
    have c9 : w5.cell? ⟨w4.heap.size, 9, none⟩ = some (.int .i64 m3) := by rw [hbx 9]; simp [go_sem]
    have c10 : w5.cell? ⟨w4.heap.size, 10, none⟩ = some (.int .i64 0) := by rw [hbx 10]; simp [go_sem]
    have f8 : w5.frozen? ⟨w4.heap.size, 8, none⟩ = false := by rw [hfx 8]; simp [go_sem]
    have f10 : w5.frozen? ⟨w4.heap.size, 10, none⟩ = false := by rw [hfx 10]; simp [go_sem]
    clear hbx hfx
    by_cases hun : clock + m5 - 4 < 0
    · by_cases hst : m1 = 1
      · obtain rfl : m1 = 1 := by omega
        simp only [show (1 : Int) + 1 = 2 from rfl] at c7
        have y1 : Ex w4.heap.size w5 (((w5.setCell ⟨w4.heap.size, 10, none⟩ (.int .i64 (clock + m5 - 4))).setCell ⟨w4.heap.size, 10, none⟩ (.int .i64 (0))).setCell ⟨w4.heap.size, 8, none⟩ (.int .i64 (0))) := Ex.set (Ex.set (Ex.set (Ex.refl w4.heap.size w5) 10 (.int .i64 (clock + m5 - 4))) 10 (.int .i64 (0))) 8 (.int .i64 (0))
        have y2 : Ex kr w (((w5.setCell ⟨w4.heap.size, 10, none⟩ (.int .i64 (clock + m5 - 4))).setCell ⟨w4.heap.size, 10, none⟩ (.int .i64 (0))).setCell ⟨w4.heap.size, 8, none⟩ (.int .i64 (0))) := Ex.other E5'.out y1 (by omega)
        have y3 := Rd.other hr R5'.out y1 (by omega) y2
        have Y2 : Hid _ := y2
        have Y3 : Hid _ := y3
        clear y1 y2 y3
        go_wp2_with (refine wpList_store_mid (by rfl) 73 _ _ (by rfl) w.heap.size 0 #[.string c, .int .i64 v1, .string h, .int .i64 p1, .int .i64 s, .int .i64 d, .int .i64 g, .int .i64 2, .int .i64 0, .int .i64 m3, .int .i64 0] (by rfl) (by rfl) (by exact World.there_setCells (World.there_setCells (World.there_setCells (T5'.out) w4.heap.size 10 [.int .i64 (clock + m5 - 4)]) w4.heap.size 10 [.int .i64 (0)]) w4.heap.size 8 [.int .i64 (0)]) hinfo (by simp [Value.oneCell']) ?_)
        obtain ⟨d0, d1, d2, d3, d4, d5, d6, d7, d8, d9, d10⟩ := cellsAll (World.rangeAt_setCells_same (((w5.setCell ⟨w4.heap.size, 10, none⟩ (.int .i64 (clock + m5 - 4))).setCell ⟨w4.heap.size, 10, none⟩ (.int .i64 (0))).setCell ⟨w4.heap.size, 8, none⟩ (.int .i64 (0))) w.heap.size 0 [.string c, .int .i64 v1, .string h, .int .i64 p1, .int .i64 s, .int .i64 d, .int .i64 g, .int .i64 2, .int .i64 0, .int .i64 m3, .int .i64 0] (by exact World.there_setCells (World.there_setCells (World.there_setCells (T5'.out) w4.heap.size 10 [.int .i64 (clock + m5 - 4)]) w4.heap.size 10 [.int .i64 (0)]) w4.heap.size 8 [.int .i64 (0)]))
        have hx1 : Ex w.heap.size (((w5.setCell ⟨w4.heap.size, 10, none⟩ (.int .i64 (clock + m5 - 4))).setCell ⟨w4.heap.size, 10, none⟩ (.int .i64 (0))).setCell ⟨w4.heap.size, 8, none⟩ (.int .i64 (0))) (World.setCells (((w5.setCell ⟨w4.heap.size, 10, none⟩ (.int .i64 (clock + m5 - 4))).setCell ⟨w4.heap.size, 10, none⟩ (.int .i64 (0))).setCell ⟨w4.heap.size, 8, none⟩ (.int .i64 (0))) w.heap.size 0 [.string c, .int .i64 v1, .string h, .int .i64 p1, .int .i64 s, .int .i64 d, .int .i64 g, .int .i64 2, .int .i64 0, .int .i64 m3, .int .i64 0]) := (Ex.refl _ _).cells _ _
        have hx2 : Ex kr w (World.setCells (((w5.setCell ⟨w4.heap.size, 10, none⟩ (.int .i64 (clock + m5 - 4))).setCell ⟨w4.heap.size, 10, none⟩ (.int .i64 (0))).setCell ⟨w4.heap.size, 8, none⟩ (.int .i64 (0))) w.heap.size 0 [.string c, .int .i64 v1, .string h, .int .i64 p1, .int .i64 s, .int .i64 d, .int .i64 g, .int .i64 2, .int .i64 0, .int .i64 m3, .int .i64 0]) := Ex.other Y2.out hx1 (Nat.le_refl _)
        have hx3 := Rd.other hr Y3.out hx1 hne hx2
        exact bodyPost_ret (v := .agg #[.string c, .int .i64 v1, .string h, .int .i64 p1, .int .i64 s, .int .i64 d, .int .i64 g, .int .i64 2, .int .i64 0, .int .i64 m3, .int .i64 0]) (by simp [results, Tryz.results60, go_sem, d0, d1, d2, d3, d4, d5, d6, d7, d8, d9, d10]) rfl ⟨h, v1, p1, s, d, g, 2, 0, m3, 0, rfl, ⟨by omega, by omega⟩, ⟨by omega, by omega⟩, ⟨_, hx3, by omega⟩, hx2, hh, by omega, by omega⟩
      · have y1 : Ex w4.heap.size w5 ((w5.setCell ⟨w4.heap.size, 10, none⟩ (.int .i64 (clock + m5 - 4))).setCell ⟨w4.heap.size, 10, none⟩ (.int .i64 (0))) := Ex.set (Ex.set (Ex.refl w4.heap.size w5) 10 (.int .i64 (clock + m5 - 4))) 10 (.int .i64 (0))
        have y2 : Ex kr w ((w5.setCell ⟨w4.heap.size, 10, none⟩ (.int .i64 (clock + m5 - 4))).setCell ⟨w4.heap.size, 10, none⟩ (.int .i64 (0))) := Ex.other E5'.out y1 (by omega)
        have y3 := Rd.other hr R5'.out y1 (by omega) y2
        have Y2 : Hid _ := y2
        have Y3 : Hid _ := y3
        clear y1 y2 y3
        go_wp2_with (refine wpList_store_mid (by rfl) 73 _ _ (by rfl) w.heap.size 0 #[.string c, .int .i64 v1, .string h, .int .i64 p1, .int .i64 s, .int .i64 d, .int .i64 g, .int .i64 (1 + m1), .int .i64 m2, .int .i64 m3, .int .i64 0] (by rfl) (by rfl) (by exact World.there_setCells (World.there_setCells (T5'.out) w4.heap.size 10 [.int .i64 (clock + m5 - 4)]) w4.heap.size 10 [.int .i64 (0)]) hinfo (by simp [Value.oneCell']) ?_)
        obtain ⟨d0, d1, d2, d3, d4, d5, d6, d7, d8, d9, d10⟩ := cellsAll (World.rangeAt_setCells_same ((w5.setCell ⟨w4.heap.size, 10, none⟩ (.int .i64 (clock + m5 - 4))).setCell ⟨w4.heap.size, 10, none⟩ (.int .i64 (0))) w.heap.size 0 [.string c, .int .i64 v1, .string h, .int .i64 p1, .int .i64 s, .int .i64 d, .int .i64 g, .int .i64 (1 + m1), .int .i64 m2, .int .i64 m3, .int .i64 0] (by exact World.there_setCells (World.there_setCells (T5'.out) w4.heap.size 10 [.int .i64 (clock + m5 - 4)]) w4.heap.size 10 [.int .i64 (0)]))
        have hx1 : Ex w.heap.size ((w5.setCell ⟨w4.heap.size, 10, none⟩ (.int .i64 (clock + m5 - 4))).setCell ⟨w4.heap.size, 10, none⟩ (.int .i64 (0))) (World.setCells ((w5.setCell ⟨w4.heap.size, 10, none⟩ (.int .i64 (clock + m5 - 4))).setCell ⟨w4.heap.size, 10, none⟩ (.int .i64 (0))) w.heap.size 0 [.string c, .int .i64 v1, .string h, .int .i64 p1, .int .i64 s, .int .i64 d, .int .i64 g, .int .i64 (1 + m1), .int .i64 m2, .int .i64 m3, .int .i64 0]) := (Ex.refl _ _).cells _ _
        have hx2 : Ex kr w (World.setCells ((w5.setCell ⟨w4.heap.size, 10, none⟩ (.int .i64 (clock + m5 - 4))).setCell ⟨w4.heap.size, 10, none⟩ (.int .i64 (0))) w.heap.size 0 [.string c, .int .i64 v1, .string h, .int .i64 p1, .int .i64 s, .int .i64 d, .int .i64 g, .int .i64 (1 + m1), .int .i64 m2, .int .i64 m3, .int .i64 0]) := Ex.other Y2.out hx1 (Nat.le_refl _)
        have hx3 := Rd.other hr Y3.out hx1 hne hx2
        exact bodyPost_ret (v := .agg #[.string c, .int .i64 v1, .string h, .int .i64 p1, .int .i64 s, .int .i64 d, .int .i64 g, .int .i64 (1 + m1), .int .i64 m2, .int .i64 m3, .int .i64 0]) (by simp [results, Tryz.results60, go_sem, d0, d1, d2, d3, d4, d5, d6, d7, d8, d9, d10]) rfl ⟨h, v1, p1, s, d, g, (1 + m1), m2, m3, 0, rfl, ⟨by omega, by omega⟩, ⟨by omega, by omega⟩, ⟨_, hx3, by omega⟩, hx2, hh, by omega, by omega⟩
    · by_cases hst : m1 = 1
      · obtain rfl : m1 = 1 := by omega
        simp only [show (1 : Int) + 1 = 2 from rfl] at c7
        have y1 : Ex w4.heap.size w5 ((w5.setCell ⟨w4.heap.size, 10, none⟩ (.int .i64 (clock + m5 - 4))).setCell ⟨w4.heap.size, 8, none⟩ (.int .i64 (0))) := Ex.set (Ex.set (Ex.refl w4.heap.size w5) 10 (.int .i64 (clock + m5 - 4))) 8 (.int .i64 (0))
        have y2 : Ex kr w ((w5.setCell ⟨w4.heap.size, 10, none⟩ (.int .i64 (clock + m5 - 4))).setCell ⟨w4.heap.size, 8, none⟩ (.int .i64 (0))) := Ex.other E5'.out y1 (by omega)
        have y3 := Rd.other hr R5'.out y1 (by omega) y2
        have Y2 : Hid _ := y2
        have Y3 : Hid _ := y3
        clear y1 y2 y3
        go_wp2_with (refine wpList_store_mid (by rfl) 73 _ _ (by rfl) w.heap.size 0 #[.string c, .int .i64 v1, .string h, .int .i64 p1, .int .i64 s, .int .i64 d, .int .i64 g, .int .i64 2, .int .i64 0, .int .i64 m3, .int .i64 (clock + m5 - 4)] (by rfl) (by rfl) (by exact World.there_setCells (World.there_setCells (T5'.out) w4.heap.size 10 [.int .i64 (clock + m5 - 4)]) w4.heap.size 8 [.int .i64 (0)]) hinfo (by simp [Value.oneCell']) ?_)
        obtain ⟨d0, d1, d2, d3, d4, d5, d6, d7, d8, d9, d10⟩ := cellsAll (World.rangeAt_setCells_same ((w5.setCell ⟨w4.heap.size, 10, none⟩ (.int .i64 (clock + m5 - 4))).setCell ⟨w4.heap.size, 8, none⟩ (.int .i64 (0))) w.heap.size 0 [.string c, .int .i64 v1, .string h, .int .i64 p1, .int .i64 s, .int .i64 d, .int .i64 g, .int .i64 2, .int .i64 0, .int .i64 m3, .int .i64 (clock + m5 - 4)] (by exact World.there_setCells (World.there_setCells (T5'.out) w4.heap.size 10 [.int .i64 (clock + m5 - 4)]) w4.heap.size 8 [.int .i64 (0)]))
        have hx1 : Ex w.heap.size ((w5.setCell ⟨w4.heap.size, 10, none⟩ (.int .i64 (clock + m5 - 4))).setCell ⟨w4.heap.size, 8, none⟩ (.int .i64 (0))) (World.setCells ((w5.setCell ⟨w4.heap.size, 10, none⟩ (.int .i64 (clock + m5 - 4))).setCell ⟨w4.heap.size, 8, none⟩ (.int .i64 (0))) w.heap.size 0 [.string c, .int .i64 v1, .string h, .int .i64 p1, .int .i64 s, .int .i64 d, .int .i64 g, .int .i64 2, .int .i64 0, .int .i64 m3, .int .i64 (clock + m5 - 4)]) := (Ex.refl _ _).cells _ _
        have hx2 : Ex kr w (World.setCells ((w5.setCell ⟨w4.heap.size, 10, none⟩ (.int .i64 (clock + m5 - 4))).setCell ⟨w4.heap.size, 8, none⟩ (.int .i64 (0))) w.heap.size 0 [.string c, .int .i64 v1, .string h, .int .i64 p1, .int .i64 s, .int .i64 d, .int .i64 g, .int .i64 2, .int .i64 0, .int .i64 m3, .int .i64 (clock + m5 - 4)]) := Ex.other Y2.out hx1 (Nat.le_refl _)
        have hx3 := Rd.other hr Y3.out hx1 hne hx2
        exact bodyPost_ret (v := .agg #[.string c, .int .i64 v1, .string h, .int .i64 p1, .int .i64 s, .int .i64 d, .int .i64 g, .int .i64 2, .int .i64 0, .int .i64 m3, .int .i64 (clock + m5 - 4)]) (by simp [results, Tryz.results60, go_sem, d0, d1, d2, d3, d4, d5, d6, d7, d8, d9, d10]) rfl ⟨h, v1, p1, s, d, g, 2, 0, m3, (clock + m5 - 4), rfl, ⟨by omega, by omega⟩, ⟨by omega, by omega⟩, ⟨_, hx3, by omega⟩, hx2, hh, by omega, by omega⟩
      · have y1 : Ex w4.heap.size w5 (w5.setCell ⟨w4.heap.size, 10, none⟩ (.int .i64 (clock + m5 - 4))) := Ex.set (Ex.refl w4.heap.size w5) 10 (.int .i64 (clock + m5 - 4))
        have y2 : Ex kr w (w5.setCell ⟨w4.heap.size, 10, none⟩ (.int .i64 (clock + m5 - 4))) := Ex.other E5'.out y1 (by omega)
        have y3 := Rd.other hr R5'.out y1 (by omega) y2
        have Y2 : Hid _ := y2
        have Y3 : Hid _ := y3
        clear y1 y2 y3
        go_wp2_with (refine wpList_store_mid (by rfl) 73 _ _ (by rfl) w.heap.size 0 #[.string c, .int .i64 v1, .string h, .int .i64 p1, .int .i64 s, .int .i64 d, .int .i64 g, .int .i64 (1 + m1), .int .i64 m2, .int .i64 m3, .int .i64 (clock + m5 - 4)] (by rfl) (by rfl) (by exact World.there_setCells (T5'.out) w4.heap.size 10 [.int .i64 (clock + m5 - 4)]) hinfo (by simp [Value.oneCell']) ?_)
        obtain ⟨d0, d1, d2, d3, d4, d5, d6, d7, d8, d9, d10⟩ := cellsAll (World.rangeAt_setCells_same (w5.setCell ⟨w4.heap.size, 10, none⟩ (.int .i64 (clock + m5 - 4))) w.heap.size 0 [.string c, .int .i64 v1, .string h, .int .i64 p1, .int .i64 s, .int .i64 d, .int .i64 g, .int .i64 (1 + m1), .int .i64 m2, .int .i64 m3, .int .i64 (clock + m5 - 4)] (by exact World.there_setCells (T5'.out) w4.heap.size 10 [.int .i64 (clock + m5 - 4)]))
        have hx1 : Ex w.heap.size (w5.setCell ⟨w4.heap.size, 10, none⟩ (.int .i64 (clock + m5 - 4))) (World.setCells (w5.setCell ⟨w4.heap.size, 10, none⟩ (.int .i64 (clock + m5 - 4))) w.heap.size 0 [.string c, .int .i64 v1, .string h, .int .i64 p1, .int .i64 s, .int .i64 d, .int .i64 g, .int .i64 (1 + m1), .int .i64 m2, .int .i64 m3, .int .i64 (clock + m5 - 4)]) := (Ex.refl _ _).cells _ _
        have hx2 : Ex kr w (World.setCells (w5.setCell ⟨w4.heap.size, 10, none⟩ (.int .i64 (clock + m5 - 4))) w.heap.size 0 [.string c, .int .i64 v1, .string h, .int .i64 p1, .int .i64 s, .int .i64 d, .int .i64 g, .int .i64 (1 + m1), .int .i64 m2, .int .i64 m3, .int .i64 (clock + m5 - 4)]) := Ex.other Y2.out hx1 (Nat.le_refl _)
        have hx3 := Rd.other hr Y3.out hx1 hne hx2
        exact bodyPost_ret (v := .agg #[.string c, .int .i64 v1, .string h, .int .i64 p1, .int .i64 s, .int .i64 d, .int .i64 g, .int .i64 (1 + m1), .int .i64 m2, .int .i64 m3, .int .i64 (clock + m5 - 4)]) (by simp [results, Tryz.results60, go_sem, d0, d1, d2, d3, d4, d5, d6, d7, d8, d9, d10]) rfl ⟨h, v1, p1, s, d, g, (1 + m1), m2, m3, (clock + m5 - 4), rfl, ⟨by omega, by omega⟩, ⟨by omega, by omega⟩, ⟨_, hx3, by omega⟩, hx2, hh, by omega, by omega⟩
  · by_cases hst : m1 = 1
    · obtain rfl : m1 = 1 := by omega
      have hb4 := bl_alloc (Below.refl w4.heap.size w4) (.cells #[.string c, .int .i64 v1, .string h, .int .i64 p1, .int .i64 s, .int .i64 d, .int .i64 g, .int .i64 2, .int .i64 0, .int .i64 m3, .int .i64 0] 73)
      have Y2 : Hid (Ex kr w (w4.alloc (.cells #[.string c, .int .i64 v1, .string h, .int .i64 p1, .int .i64 s, .int .i64 d, .int .i64 g, .int .i64 2, .int .i64 0, .int .i64 m3, .int .i64 0] 73))) := E4'.out.trans (Ex.of_below hb4)
      have Y3 : Hid _ := R4'.out.below hb4
      clear hb4
      go_wp2_with (refine wpList_store_mid (by rfl) 73 _ _ (by rfl) w.heap.size 0 #[.string c, .int .i64 v1, .string h, .int .i64 p1, .int .i64 s, .int .i64 d, .int .i64 g, .int .i64 2, .int .i64 0, .int .i64 m3, .int .i64 0] (by rfl) (by rfl) (by exact World.there_alloc T4'.out _) hinfo (by simp [Value.oneCell']) ?_)
      obtain ⟨d0, d1, d2, d3, d4, d5, d6, d7, d8, d9, d10⟩ := cellsAll (World.rangeAt_setCells_same (w4.alloc (.cells #[.string c, .int .i64 v1, .string h, .int .i64 p1, .int .i64 s, .int .i64 d, .int .i64 g, .int .i64 2, .int .i64 0, .int .i64 m3, .int .i64 0] 73)) w.heap.size 0 [.string c, .int .i64 v1, .string h, .int .i64 p1, .int .i64 s, .int .i64 d, .int .i64 g, .int .i64 2, .int .i64 0, .int .i64 m3, .int .i64 0] (by exact World.there_alloc T4'.out _))
      have hx1 : Ex w.heap.size (w4.alloc (.cells #[.string c, .int .i64 v1, .string h, .int .i64 p1, .int .i64 s, .int .i64 d, .int .i64 g, .int .i64 2, .int .i64 0, .int .i64 m3, .int .i64 0] 73)) (World.setCells (w4.alloc (.cells #[.string c, .int .i64 v1, .string h, .int .i64 p1, .int .i64 s, .int .i64 d, .int .i64 g, .int .i64 2, .int .i64 0, .int .i64 m3, .int .i64 0] 73)) w.heap.size 0 [.string c, .int .i64 v1, .string h, .int .i64 p1, .int .i64 s, .int .i64 d, .int .i64 g, .int .i64 2, .int .i64 0, .int .i64 m3, .int .i64 0]) := (Ex.refl _ _).cells _ _
      have hx2 : Ex kr w (World.setCells (w4.alloc (.cells #[.string c, .int .i64 v1, .string h, .int .i64 p1, .int .i64 s, .int .i64 d, .int .i64 g, .int .i64 2, .int .i64 0, .int .i64 m3, .int .i64 0] 73)) w.heap.size 0 [.string c, .int .i64 v1, .string h, .int .i64 p1, .int .i64 s, .int .i64 d, .int .i64 g, .int .i64 2, .int .i64 0, .int .i64 m3, .int .i64 0]) := Ex.other Y2.out hx1 (Nat.le_refl _)
      have hx3 := Rd.other hr Y3.out hx1 hne hx2
      exact bodyPost_ret (v := .agg #[.string c, .int .i64 v1, .string h, .int .i64 p1, .int .i64 s, .int .i64 d, .int .i64 g, .int .i64 2, .int .i64 0, .int .i64 m3, .int .i64 0]) (by simp [results, Tryz.results60, go_sem, d0, d1, d2, d3, d4, d5, d6, d7, d8, d9, d10]) rfl ⟨h, v1, p1, s, d, g, 2, 0, m3, 0, rfl, ⟨by omega, by omega⟩, ⟨by omega, by omega⟩, ⟨_, hx3, by omega⟩, hx2, hh, by omega, by omega⟩
    · have hb4 := bl_alloc (Below.refl w4.heap.size w4) (.cells #[.string c, .int .i64 v1, .string h, .int .i64 p1, .int .i64 s, .int .i64 d, .int .i64 g, .int .i64 (1 + m1), .int .i64 m2, .int .i64 m3, .int .i64 0] 73)
      have Y2 : Hid (Ex kr w (w4.alloc (.cells #[.string c, .int .i64 v1, .string h, .int .i64 p1, .int .i64 s, .int .i64 d, .int .i64 g, .int .i64 (1 + m1), .int .i64 m2, .int .i64 m3, .int .i64 0] 73))) := E4'.out.trans (Ex.of_below hb4)
      have Y3 : Hid _ := R4'.out.below hb4
      clear hb4
      go_wp2_with (refine wpList_store_mid (by rfl) 73 _ _ (by rfl) w.heap.size 0 #[.string c, .int .i64 v1, .string h, .int .i64 p1, .int .i64 s, .int .i64 d, .int .i64 g, .int .i64 (1 + m1), .int .i64 m2, .int .i64 m3, .int .i64 0] (by rfl) (by rfl) (by exact World.there_alloc T4'.out _) hinfo (by simp [Value.oneCell']) ?_)
      obtain ⟨d0, d1, d2, d3, d4, d5, d6, d7, d8, d9, d10⟩ := cellsAll (World.rangeAt_setCells_same (w4.alloc (.cells #[.string c, .int .i64 v1, .string h, .int .i64 p1, .int .i64 s, .int .i64 d, .int .i64 g, .int .i64 (1 + m1), .int .i64 m2, .int .i64 m3, .int .i64 0] 73)) w.heap.size 0 [.string c, .int .i64 v1, .string h, .int .i64 p1, .int .i64 s, .int .i64 d, .int .i64 g, .int .i64 (1 + m1), .int .i64 m2, .int .i64 m3, .int .i64 0] (by exact World.there_alloc T4'.out _))
      have hx1 : Ex w.heap.size (w4.alloc (.cells #[.string c, .int .i64 v1, .string h, .int .i64 p1, .int .i64 s, .int .i64 d, .int .i64 g, .int .i64 (1 + m1), .int .i64 m2, .int .i64 m3, .int .i64 0] 73)) (World.setCells (w4.alloc (.cells #[.string c, .int .i64 v1, .string h, .int .i64 p1, .int .i64 s, .int .i64 d, .int .i64 g, .int .i64 (1 + m1), .int .i64 m2, .int .i64 m3, .int .i64 0] 73)) w.heap.size 0 [.string c, .int .i64 v1, .string h, .int .i64 p1, .int .i64 s, .int .i64 d, .int .i64 g, .int .i64 (1 + m1), .int .i64 m2, .int .i64 m3, .int .i64 0]) := (Ex.refl _ _).cells _ _
      have hx2 : Ex kr w (World.setCells (w4.alloc (.cells #[.string c, .int .i64 v1, .string h, .int .i64 p1, .int .i64 s, .int .i64 d, .int .i64 g, .int .i64 (1 + m1), .int .i64 m2, .int .i64 m3, .int .i64 0] 73)) w.heap.size 0 [.string c, .int .i64 v1, .string h, .int .i64 p1, .int .i64 s, .int .i64 d, .int .i64 g, .int .i64 (1 + m1), .int .i64 m2, .int .i64 m3, .int .i64 0]) := Ex.other Y2.out hx1 (Nat.le_refl _)
      have hx3 := Rd.other hr Y3.out hx1 hne hx2
      exact bodyPost_ret (v := .agg #[.string c, .int .i64 v1, .string h, .int .i64 p1, .int .i64 s, .int .i64 d, .int .i64 g, .int .i64 (1 + m1), .int .i64 m2, .int .i64 m3, .int .i64 0]) (by simp [results, Tryz.results60, go_sem, d0, d1, d2, d3, d4, d5, d6, d7, d8, d9, d10]) rfl ⟨h, v1, p1, s, d, g, (1 + m1), m2, m3, 0, rfl, ⟨by omega, by omega⟩, ⟨by omega, by omega⟩, ⟨_, hx3, by omega⟩, hx2, hh, by omega, by omega⟩
end Go.Proofs.YtgakmkhbnjofhaaGreatDoor
