import Derived.Test.YtgakmkhbnjofhaaGreatDoorJ03
namespace Go.Proofs.YtgakmkhbnjofhaaGreatDoor
open Go.RowKit
set_option linter.unusedVariables false
theorem build5i (x y z u t : Int) (w : World) : Sem.run Tryz.prog (Instr.buildSlice 44 5 #[(0, .int .i64 x), (1, .int .i64 y), (2, .int .i64 z), (3, .int .i64 u), (4, .int .i64 t)]) w = .ok (.slice (some ⟨w.heap.size, 0, none⟩) 5 5) (w.alloc (.cells #[.int .i64 x, .int .i64 y, .int .i64 z, .int .i64 u, .int .i64 t] 3)) := by kernel_rfl
theorem setCells_out (w : World) (b : Nat) (vs : List Value) (k : Nat) (hk : vs.length ≤ k) {u : Value} (h : w.cell? ⟨b, k, none⟩ = some u) : (w.setCells b 0 vs).cell? ⟨b, k, none⟩ = some u := by
 have h1 : w.rangeAt b k [u] := fun j x hj => by
  cases j with
  | zero => simp at hj; subst hj; exact h
  | succ j => simp at hj
 have := World.rangeAt_setCells_apart h1 b 0 vs (Or.inr (Or.inr (by omega))) 0 u rfl
 simpa using this
set_option maxRecDepth 4000 in
set_option maxHeartbeats 8000000 in
theorem spoilRun (kr : Nat) (a : Option Addr) (n cap : Nat) (zs : List Int) (q0 : Int) (c h : ByteArray) (v p s d g x1 x2 x3 x4 : Int) (w : World) (hr : Rd w kr a n cap zs q0) (hq : q0 < 700000) (hx2 : x2 ≤ 1000) (hx3 : -1000 ≤ x3 ∧ x3 ≤ 1000) (hcs : c.size ≤ maxLen) (hhs : h.size ≤ maxLen) :
  Calls Tryz.prog 38 #[.pointer (some ⟨kr, 0, none⟩), .agg #[.string c, .int .i64 v, .string h, .int .i64 p, .int .i64 s, .int .i64 d, .int .i64 g, .int .i64 x1, .int .i64 x2, .int .i64 x3, .int .i64 x4]] w fun e w' => ∃ (c h : ByteArray) (v p s d g x1 x2 x3 x4 : Int), e = .returned (.agg #[.string c, .int .i64 v, .string h, .int .i64 p, .int .i64 s, .int .i64 d, .int .i64 g, .int .i64 x1, .int .i64 x2, .int .i64 x3, .int .i64 x4]) ∧ x2 ≤ 2000 ∧ (-2000 ≤ x3 ∧ x3 ≤ 2000) ∧ (∃ q, Rd w' kr a n cap zs q ∧ q ≤ q0 + 200) ∧ Ex kr w w' ∧ c.size ≤ maxLen ∧ h.size ≤ maxLen := by
 have hkr := hr.lt
 have hinfo : (Tryz.prog.info? 73).map (·.size) = some 11 := by kernel_rfl
 have hinfoW : (Tryz.prog.info? 46).map (·.size) = some 7 := by kernel_rfl
 have hne2 : kr ≠ w.heap.size + 1 := by omega
 obtain ⟨hx31, hx32⟩ := hx3
 go_enter Tryz.func38, Tryz.ntmps38
 go_wp2_with fail
 have hb0 : Below w.heap.size w ((w.alloc (.cells #[.string c, .int .i64 v, .string h, .int .i64 p, .int .i64 s, .int .i64 d, .int .i64 g, .int .i64 x1, .int .i64 x2, .int .i64 x3, .int .i64 x4] 73)).alloc (.cells #[.string ⟨#[]⟩, .int .i64 0, .string ⟨#[]⟩, .int .i64 0, .int .i64 0, .int .i64 0, .int .i64 0, .int .i64 0, .int .i64 0, .int .i64 0, .int .i64 0] 73)) := bl_alloc (bl_alloc (Below.refl _ _) _) _
 refine (pick_rd kr a n cap zs q0 6 _ (hr.below hb0) (by omega) (by omega) (by omega)).mono ?_
 rintro e w1 ⟨m1, rfl, m10, m11, r1, e1⟩
 have z1 : w.heap.size + 1 < w1.heap.size := Nat.lt_of_lt_of_le (by simp) e1.size
 have T1 : Hid (w1.there (w.heap.size + 1) 0 11) := there_ex (by have := there11 (w.alloc (.cells #[.string c, .int .i64 v, .string h, .int .i64 p, .int .i64 s, .int .i64 d, .int .i64 g, .int .i64 x1, .int .i64 x2, .int .i64 x3, .int .i64 x4] 73)) 73; simpa using this) (by simp) e1 (by omega)
 have E1 : Hid (Ex kr w w1) := (Ex.of_below hb0).trans e1
 have hbx : ∀ j, w1.cell? ⟨w.heap.size, j, none⟩ = _ := fun j => e1.cell (p := ⟨w.heap.size, j, none⟩) (by simp; omega) (by show w.heap.size ≠ kr; omega)
 have hfx : ∀ j, w1.frozen? ⟨w.heap.size, j, none⟩ = _ := fun j => e1.frozen (p := ⟨w.heap.size, j, none⟩) (by simp; omega) (by show w.heap.size ≠ kr; omega)
 have b0 : w1.cell? ⟨w.heap.size, 0, none⟩ = some (.string c) := by rw [hbx 0]; simp [go_sem]
 have g0 : w1.frozen? ⟨w.heap.size, 0, none⟩ = false := by rw [hfx 0]; simp [go_sem]
 have b1 : w1.cell? ⟨w.heap.size, 1, none⟩ = some (.int .i64 v) := by rw [hbx 1]; simp [go_sem]
 have g1 : w1.frozen? ⟨w.heap.size, 1, none⟩ = false := by rw [hfx 1]; simp [go_sem]
 have b2 : w1.cell? ⟨w.heap.size, 2, none⟩ = some (.string h) := by rw [hbx 2]; simp [go_sem]
 have g2 : w1.frozen? ⟨w.heap.size, 2, none⟩ = false := by rw [hfx 2]; simp [go_sem]
 have b3 : w1.cell? ⟨w.heap.size, 3, none⟩ = some (.int .i64 p) := by rw [hbx 3]; simp [go_sem]
 have g3 : w1.frozen? ⟨w.heap.size, 3, none⟩ = false := by rw [hfx 3]; simp [go_sem]
 have b4 : w1.cell? ⟨w.heap.size, 4, none⟩ = some (.int .i64 s) := by rw [hbx 4]; simp [go_sem]
 have g4 : w1.frozen? ⟨w.heap.size, 4, none⟩ = false := by rw [hfx 4]; simp [go_sem]
 have b5 : w1.cell? ⟨w.heap.size, 5, none⟩ = some (.int .i64 d) := by rw [hbx 5]; simp [go_sem]
 have g5 : w1.frozen? ⟨w.heap.size, 5, none⟩ = false := by rw [hfx 5]; simp [go_sem]
 have b6 : w1.cell? ⟨w.heap.size, 6, none⟩ = some (.int .i64 g) := by rw [hbx 6]; simp [go_sem]
 have g6 : w1.frozen? ⟨w.heap.size, 6, none⟩ = false := by rw [hfx 6]; simp [go_sem]
 have b7 : w1.cell? ⟨w.heap.size, 7, none⟩ = some (.int .i64 x1) := by rw [hbx 7]; simp [go_sem]
 have g7 : w1.frozen? ⟨w.heap.size, 7, none⟩ = false := by rw [hfx 7]; simp [go_sem]
 have b8 : w1.cell? ⟨w.heap.size, 8, none⟩ = some (.int .i64 x2) := by rw [hbx 8]; simp [go_sem]
 have g8 : w1.frozen? ⟨w.heap.size, 8, none⟩ = false := by rw [hfx 8]; simp [go_sem]
 have b9 : w1.cell? ⟨w.heap.size, 9, none⟩ = some (.int .i64 x3) := by rw [hbx 9]; simp [go_sem]
 have g9 : w1.frozen? ⟨w.heap.size, 9, none⟩ = false := by rw [hfx 9]; simp [go_sem]
 have b10 : w1.cell? ⟨w.heap.size, 10, none⟩ = some (.int .i64 x4) := by rw [hbx 10]; simp [go_sem]
 have g10 : w1.frozen? ⟨w.heap.size, 10, none⟩ = false := by rw [hfx 10]; simp [go_sem]
 have R1 : Hid _ := r1
 clear hbx hfx e1 hb0 r1
 rcases (by omega : m1 = 0 ∨ m1 = 1 ∨ m1 = 2 ∨ m1 = 3 ∨ m1 = 4 ∨ m1 = 5) with hm | hm | hm | hm | hm | hm
 ·
  subst hm
  go_wp2_with fail
  refine (spoilWant kr a n cap zs _ c h v p s d g _ R1.out (by omega) hcs hhs).mono ?_
  rintro e w2 ⟨c', h', v', p', s', d', g', rfl, ⟨q2, r2, hq2⟩, e2, hcs', hhs'⟩
  have hbx : ∀ j, w2.cell? ⟨w.heap.size, j, none⟩ = w1.cell? ⟨w.heap.size, j, none⟩ := fun j => e2.cell (p := ⟨w.heap.size, j, none⟩) (by show w.heap.size < w1.heap.size; omega) (by show w.heap.size ≠ kr; omega)
  have hfx : ∀ j, w2.frozen? ⟨w.heap.size, j, none⟩ = w1.frozen? ⟨w.heap.size, j, none⟩ := fun j => e2.frozen (p := ⟨w.heap.size, j, none⟩) (by show w.heap.size < w1.heap.size; omega) (by show w.heap.size ≠ kr; omega)
  have c0 : w2.cell? ⟨w.heap.size, 0, none⟩ = some (.string c) := by rw [hbx 0]; exact b0
  have f0 : w2.frozen? ⟨w.heap.size, 0, none⟩ = false := by rw [hfx 0]; exact g0
  have c1 : w2.cell? ⟨w.heap.size, 1, none⟩ = some (.int .i64 v) := by rw [hbx 1]; exact b1
  have f1 : w2.frozen? ⟨w.heap.size, 1, none⟩ = false := by rw [hfx 1]; exact g1
  have c2 : w2.cell? ⟨w.heap.size, 2, none⟩ = some (.string h) := by rw [hbx 2]; exact b2
  have f2 : w2.frozen? ⟨w.heap.size, 2, none⟩ = false := by rw [hfx 2]; exact g2
  have c3 : w2.cell? ⟨w.heap.size, 3, none⟩ = some (.int .i64 p) := by rw [hbx 3]; exact b3
  have f3 : w2.frozen? ⟨w.heap.size, 3, none⟩ = false := by rw [hfx 3]; exact g3
  have c4 : w2.cell? ⟨w.heap.size, 4, none⟩ = some (.int .i64 s) := by rw [hbx 4]; exact b4
  have f4 : w2.frozen? ⟨w.heap.size, 4, none⟩ = false := by rw [hfx 4]; exact g4
  have c5 : w2.cell? ⟨w.heap.size, 5, none⟩ = some (.int .i64 d) := by rw [hbx 5]; exact b5
  have f5 : w2.frozen? ⟨w.heap.size, 5, none⟩ = false := by rw [hfx 5]; exact g5
  have c6 : w2.cell? ⟨w.heap.size, 6, none⟩ = some (.int .i64 g) := by rw [hbx 6]; exact b6
  have f6 : w2.frozen? ⟨w.heap.size, 6, none⟩ = false := by rw [hfx 6]; exact g6
  have c7 : w2.cell? ⟨w.heap.size, 7, none⟩ = some (.int .i64 x1) := by rw [hbx 7]; exact b7
  have f7 : w2.frozen? ⟨w.heap.size, 7, none⟩ = false := by rw [hfx 7]; exact g7
  have c8 : w2.cell? ⟨w.heap.size, 8, none⟩ = some (.int .i64 x2) := by rw [hbx 8]; exact b8
  have f8 : w2.frozen? ⟨w.heap.size, 8, none⟩ = false := by rw [hfx 8]; exact g8
  have c9 : w2.cell? ⟨w.heap.size, 9, none⟩ = some (.int .i64 x3) := by rw [hbx 9]; exact b9
  have f9 : w2.frozen? ⟨w.heap.size, 9, none⟩ = false := by rw [hfx 9]; exact g9
  have c10 : w2.cell? ⟨w.heap.size, 10, none⟩ = some (.int .i64 x4) := by rw [hbx 10]; exact b10
  have f10 : w2.frozen? ⟨w.heap.size, 10, none⟩ = false := by rw [hfx 10]; exact g10
  have T2 : Hid (w2.there (w.heap.size + 1) 0 11) := there_ex T1.out (by omega) e2 (by omega)
  have E2 : Ex kr w w2 := E1.out.trans e2
  have tb : w2.there w.heap.size 0 7 := by
   intro j hj
   rcases (by omega : j = 0 ∨ j = 1 ∨ j = 2 ∨ j = 3 ∨ j = 4 ∨ j = 5 ∨ j = 6) with rfl | rfl | rfl | rfl | rfl | rfl | rfl
   ·
    exact ⟨by rw [Nat.zero_add, c0]; rfl, by rw [Nat.zero_add]; exact f0⟩
   ·
    exact ⟨by rw [Nat.zero_add, c1]; rfl, by rw [Nat.zero_add]; exact f1⟩
   ·
    exact ⟨by rw [Nat.zero_add, c2]; rfl, by rw [Nat.zero_add]; exact f2⟩
   ·
    exact ⟨by rw [Nat.zero_add, c3]; rfl, by rw [Nat.zero_add]; exact f3⟩
   ·
    exact ⟨by rw [Nat.zero_add, c4]; rfl, by rw [Nat.zero_add]; exact f4⟩
   ·
    exact ⟨by rw [Nat.zero_add, c5]; rfl, by rw [Nat.zero_add]; exact f5⟩
   ·
    exact ⟨by rw [Nat.zero_add, c6]; rfl, by rw [Nat.zero_add]; exact f6⟩
  have y1 : Ex w.heap.size w2 (World.setCells w2 w.heap.size 0 [.string c', .int .i64 v', .string h', .int .i64 p', .int .i64 s', .int .i64 d', .int .i64 g']) := (Ex.refl _ _).cells _ _
  have y2 : Ex kr w (World.setCells w2 w.heap.size 0 [.string c', .int .i64 v', .string h', .int .i64 p', .int .i64 s', .int .i64 d', .int .i64 g']) := Ex.other E2 y1 (Nat.le_refl _)
  have Y3 : Hid _ := Rd.other hr r2 y1 (by omega) y2
  have Y2 : Hid _ := y2
  have T3 : Hid _ := World.there_setCells T2.out w.heap.size 0 [.string c', .int .i64 v', .string h', .int .i64 p', .int .i64 s', .int .i64 d', .int .i64 g']
  have kk := cells7 (World.rangeAt_setCells_same w2 w.heap.size 0 [.string c', .int .i64 v', .string h', .int .i64 p', .int .i64 s', .int .i64 d', .int .i64 g'] tb)
  have k7 : (World.setCells w2 w.heap.size 0 [.string c', .int .i64 v', .string h', .int .i64 p', .int .i64 s', .int .i64 d', .int .i64 g']).cell? ⟨w.heap.size, 7, none⟩ = some (.int .i64 x1) := setCells_out w2 w.heap.size [.string c', .int .i64 v', .string h', .int .i64 p', .int .i64 s', .int .i64 d', .int .i64 g'] 7 (by simp) c7
  have k8 : (World.setCells w2 w.heap.size 0 [.string c', .int .i64 v', .string h', .int .i64 p', .int .i64 s', .int .i64 d', .int .i64 g']).cell? ⟨w.heap.size, 8, none⟩ = some (.int .i64 x2) := setCells_out w2 w.heap.size [.string c', .int .i64 v', .string h', .int .i64 p', .int .i64 s', .int .i64 d', .int .i64 g'] 8 (by simp) c8
  have k9 : (World.setCells w2 w.heap.size 0 [.string c', .int .i64 v', .string h', .int .i64 p', .int .i64 s', .int .i64 d', .int .i64 g']).cell? ⟨w.heap.size, 9, none⟩ = some (.int .i64 x3) := setCells_out w2 w.heap.size [.string c', .int .i64 v', .string h', .int .i64 p', .int .i64 s', .int .i64 d', .int .i64 g'] 9 (by simp) c9
  have k10 : (World.setCells w2 w.heap.size 0 [.string c', .int .i64 v', .string h', .int .i64 p', .int .i64 s', .int .i64 d', .int .i64 g']).cell? ⟨w.heap.size, 10, none⟩ = some (.int .i64 x4) := setCells_out w2 w.heap.size [.string c', .int .i64 v', .string h', .int .i64 p', .int .i64 s', .int .i64 d', .int .i64 g'] 10 (by simp) c10
  obtain ⟨k0, k1, k2, k3, k4, k5, k6⟩ := kk
  clear y1 y2 hbx hfx r2 E2 e2 b0 b1 b2 b3 b4 b5 b6 b7 b8 b9 b10 g0 g1 g2 g3 g4 g5 g6 g7 g8 g9 g10 c0 c1 c2 c3 c4 c5 c6 c7 c8 c9 c10 f0 f1 f2 f3 f4 f5 f6 f7 f8 f9 f10
  go_wp2_with (first | (refine wpList_store_mid (by rfl) 46 _ _ (by rfl) w.heap.size 0 #[.string c', .int .i64 v', .string h', .int .i64 p', .int .i64 s', .int .i64 d', .int .i64 g'] (by rfl) (by rfl) (by exact tb) hinfoW (by simp [Value.oneCell']) ?_) | (refine wpList_store_mid (by rfl) 73 _ _ (by rfl) (w.heap.size + 1) 0 #[.string c', .int .i64 v', .string h', .int .i64 p', .int .i64 s', .int .i64 d', .int .i64 g', .int .i64 x1, .int .i64 x2, .int .i64 x3, .int .i64 x4] (by rfl) (by rfl) (by exact T3.out) hinfo (by simp [Value.oneCell']) ?_))
  obtain ⟨d0, d1, d2, d3, d4, d5, d6, d7, d8, d9, d10⟩ := cellsAll (World.rangeAt_setCells_same (World.setCells w2 w.heap.size 0 [.string c', .int .i64 v', .string h', .int .i64 p', .int .i64 s', .int .i64 d', .int .i64 g']) (w.heap.size + 1) 0 [.string c', .int .i64 v', .string h', .int .i64 p', .int .i64 s', .int .i64 d', .int .i64 g', .int .i64 x1, .int .i64 x2, .int .i64 x3, .int .i64 x4] (by exact T3.out))
  have hx1 : Ex (w.heap.size + 1) (World.setCells w2 w.heap.size 0 [.string c', .int .i64 v', .string h', .int .i64 p', .int .i64 s', .int .i64 d', .int .i64 g']) (World.setCells (World.setCells w2 w.heap.size 0 [.string c', .int .i64 v', .string h', .int .i64 p', .int .i64 s', .int .i64 d', .int .i64 g']) (w.heap.size + 1) 0 [.string c', .int .i64 v', .string h', .int .i64 p', .int .i64 s', .int .i64 d', .int .i64 g', .int .i64 x1, .int .i64 x2, .int .i64 x3, .int .i64 x4]) := (Ex.refl _ _).cells _ _
  have hx2 : Ex kr w (World.setCells (World.setCells w2 w.heap.size 0 [.string c', .int .i64 v', .string h', .int .i64 p', .int .i64 s', .int .i64 d', .int .i64 g']) (w.heap.size + 1) 0 [.string c', .int .i64 v', .string h', .int .i64 p', .int .i64 s', .int .i64 d', .int .i64 g', .int .i64 x1, .int .i64 x2, .int .i64 x3, .int .i64 x4]) := Ex.other Y2.out hx1 (by omega)
  have hx3 := Rd.other hr Y3.out hx1 hne2 hx2
  exact bodyPost_ret (v := .agg #[.string c', .int .i64 v', .string h', .int .i64 p', .int .i64 s', .int .i64 d', .int .i64 g', .int .i64 x1, .int .i64 x2, .int .i64 x3, .int .i64 x4]) (by simp [results, Tryz.results38, go_sem, d0, d1, d2, d3, d4, d5, d6, d7, d8, d9, d10]) rfl ⟨c', h', v', p', s', d', g', x1, x2, x3, x4, rfl, by omega, ⟨by omega, by omega⟩, ⟨_, hx3, by omega⟩, hx2, hcs', hhs'⟩
 ·
  subst hm
  go_wp2_with fail
  refine (pick_rd kr a n cap zs _ 9 _ R1.out (by omega) (by omega) (by omega)).mono ?_
  rintro e w2 ⟨m2, rfl, m20, m21, r2, e2⟩
  have hbx : ∀ j, w2.cell? ⟨w.heap.size, j, none⟩ = w1.cell? ⟨w.heap.size, j, none⟩ := fun j => e2.cell (p := ⟨w.heap.size, j, none⟩) (by show w.heap.size < w1.heap.size; omega) (by show w.heap.size ≠ kr; omega)
  have hfx : ∀ j, w2.frozen? ⟨w.heap.size, j, none⟩ = w1.frozen? ⟨w.heap.size, j, none⟩ := fun j => e2.frozen (p := ⟨w.heap.size, j, none⟩) (by show w.heap.size < w1.heap.size; omega) (by show w.heap.size ≠ kr; omega)
  have c0 : w2.cell? ⟨w.heap.size, 0, none⟩ = some (.string c) := by rw [hbx 0]; exact b0
  have f0 : w2.frozen? ⟨w.heap.size, 0, none⟩ = false := by rw [hfx 0]; exact g0
  have c1 : w2.cell? ⟨w.heap.size, 1, none⟩ = some (.int .i64 v) := by rw [hbx 1]; exact b1
  have f1 : w2.frozen? ⟨w.heap.size, 1, none⟩ = false := by rw [hfx 1]; exact g1
  have c2 : w2.cell? ⟨w.heap.size, 2, none⟩ = some (.string h) := by rw [hbx 2]; exact b2
  have f2 : w2.frozen? ⟨w.heap.size, 2, none⟩ = false := by rw [hfx 2]; exact g2
  have c3 : w2.cell? ⟨w.heap.size, 3, none⟩ = some (.int .i64 p) := by rw [hbx 3]; exact b3
  have f3 : w2.frozen? ⟨w.heap.size, 3, none⟩ = false := by rw [hfx 3]; exact g3
  have c4 : w2.cell? ⟨w.heap.size, 4, none⟩ = some (.int .i64 s) := by rw [hbx 4]; exact b4
  have f4 : w2.frozen? ⟨w.heap.size, 4, none⟩ = false := by rw [hfx 4]; exact g4
  have c5 : w2.cell? ⟨w.heap.size, 5, none⟩ = some (.int .i64 d) := by rw [hbx 5]; exact b5
  have f5 : w2.frozen? ⟨w.heap.size, 5, none⟩ = false := by rw [hfx 5]; exact g5
  have c6 : w2.cell? ⟨w.heap.size, 6, none⟩ = some (.int .i64 g) := by rw [hbx 6]; exact b6
  have f6 : w2.frozen? ⟨w.heap.size, 6, none⟩ = false := by rw [hfx 6]; exact g6
  have c7 : w2.cell? ⟨w.heap.size, 7, none⟩ = some (.int .i64 x1) := by rw [hbx 7]; exact b7
  have f7 : w2.frozen? ⟨w.heap.size, 7, none⟩ = false := by rw [hfx 7]; exact g7
  have c8 : w2.cell? ⟨w.heap.size, 8, none⟩ = some (.int .i64 x2) := by rw [hbx 8]; exact b8
  have f8 : w2.frozen? ⟨w.heap.size, 8, none⟩ = false := by rw [hfx 8]; exact g8
  have c9 : w2.cell? ⟨w.heap.size, 9, none⟩ = some (.int .i64 x3) := by rw [hbx 9]; exact b9
  have f9 : w2.frozen? ⟨w.heap.size, 9, none⟩ = false := by rw [hfx 9]; exact g9
  have c10 : w2.cell? ⟨w.heap.size, 10, none⟩ = some (.int .i64 x4) := by rw [hbx 10]; exact b10
  have f10 : w2.frozen? ⟨w.heap.size, 10, none⟩ = false := by rw [hfx 10]; exact g10
  have T2 : Hid (w2.there (w.heap.size + 1) 0 11) := there_ex T1.out (by omega) e2 (by omega)
  have E2 : Ex kr w w2 := E1.out.trans e2
  clear e2
  have y1 : Ex w.heap.size w2 (w2.setCell ⟨w.heap.size, 7, none⟩ (.int .i64 (m2 - 1))) := Ex.set (Ex.refl w.heap.size w2) 7 (.int .i64 (m2 - 1))
  have y2 : Ex kr w (w2.setCell ⟨w.heap.size, 7, none⟩ (.int .i64 (m2 - 1))) := Ex.other E2 y1 (Nat.le_refl _)
  have y3 := Rd.other hr r2 y1 (by omega) y2
  have Y2 : Hid _ := y2
  have Y3 : Hid _ := y3
  clear y1 y2 y3 hbx hfx r2 E2 b0 b1 b2 b3 b4 b5 b6 b7 b8 b9 b10 g0 g1 g2 g3 g4 g5 g6 g7 g8 g9 g10
  go_wp2_with (refine wpList_store_mid (by rfl) 73 _ _ (by rfl) (w.heap.size + 1) 0 #[.string c, .int .i64 v, .string h, .int .i64 p, .int .i64 s, .int .i64 d, .int .i64 g, .int .i64 (m2 - 1), .int .i64 x2, .int .i64 x3, .int .i64 x4] (by rfl) (by rfl) (by exact World.there_setCells (T2.out) w.heap.size 7 [.int .i64 (m2 - 1)]) hinfo (by simp [Value.oneCell']) ?_)
  obtain ⟨d0, d1, d2, d3, d4, d5, d6, d7, d8, d9, d10⟩ := cellsAll (World.rangeAt_setCells_same (w2.setCell ⟨w.heap.size, 7, none⟩ (.int .i64 (m2 - 1))) (w.heap.size + 1) 0 [.string c, .int .i64 v, .string h, .int .i64 p, .int .i64 s, .int .i64 d, .int .i64 g, .int .i64 (m2 - 1), .int .i64 x2, .int .i64 x3, .int .i64 x4] (by exact World.there_setCells (T2.out) w.heap.size 7 [.int .i64 (m2 - 1)]))
  have hx1 : Ex (w.heap.size + 1) (w2.setCell ⟨w.heap.size, 7, none⟩ (.int .i64 (m2 - 1))) (World.setCells (w2.setCell ⟨w.heap.size, 7, none⟩ (.int .i64 (m2 - 1))) (w.heap.size + 1) 0 [.string c, .int .i64 v, .string h, .int .i64 p, .int .i64 s, .int .i64 d, .int .i64 g, .int .i64 (m2 - 1), .int .i64 x2, .int .i64 x3, .int .i64 x4]) := (Ex.refl _ _).cells _ _
  have hx2 : Ex kr w (World.setCells (w2.setCell ⟨w.heap.size, 7, none⟩ (.int .i64 (m2 - 1))) (w.heap.size + 1) 0 [.string c, .int .i64 v, .string h, .int .i64 p, .int .i64 s, .int .i64 d, .int .i64 g, .int .i64 (m2 - 1), .int .i64 x2, .int .i64 x3, .int .i64 x4]) := Ex.other Y2.out hx1 (by omega)
  have hx3 := Rd.other hr Y3.out hx1 hne2 hx2
  exact bodyPost_ret (v := .agg #[.string c, .int .i64 v, .string h, .int .i64 p, .int .i64 s, .int .i64 d, .int .i64 g, .int .i64 (m2 - 1), .int .i64 x2, .int .i64 x3, .int .i64 x4]) (by simp [results, Tryz.results38, go_sem, d0, d1, d2, d3, d4, d5, d6, d7, d8, d9, d10]) rfl ⟨c, h, v, p, s, d, g, (m2 - 1), x2, x3, x4, rfl, by omega, ⟨by omega, by omega⟩, ⟨_, hx3, by omega⟩, hx2, hcs, hhs⟩
 ·
  subst hm
  have hbld := build3i ((-1)) (100) (101)
  go_wp2_with fail
  clear hbld
  have hb2 := bl_alloc (Below.refl w1.heap.size w1) (.cells #[.int .i64 (-1), .int .i64 100, .int .i64 101] 3)
  refine (pick_rd kr a n cap zs _ 3 _ (R1.out.below hb2) (by omega) (by omega) (by omega)).mono ?_
  rintro e w2 ⟨m2, rfl, m20, m21, r2, e2⟩
  have hsl : ∀ j, w2.cell? ⟨w1.heap.size, j, none⟩ = (w1.alloc (.cells #[.int .i64 (-1), .int .i64 100, .int .i64 101] 3)).cell? ⟨w1.heap.size, j, none⟩ := fun j => e2.cell (p := ⟨w1.heap.size, j, none⟩) (by simp) (by show w1.heap.size ≠ kr; omega)
  have hbx : ∀ j, w2.cell? ⟨w.heap.size, j, none⟩ = (w1.alloc (.cells #[.int .i64 (-1), .int .i64 100, .int .i64 101] 3)).cell? ⟨w.heap.size, j, none⟩ := fun j => e2.cell (p := ⟨w.heap.size, j, none⟩) (by simp; omega) (by show w.heap.size ≠ kr; omega)
  have hfx : ∀ j, w2.frozen? ⟨w.heap.size, j, none⟩ = (w1.alloc (.cells #[.int .i64 (-1), .int .i64 100, .int .i64 101] 3)).frozen? ⟨w.heap.size, j, none⟩ := fun j => e2.frozen (p := ⟨w.heap.size, j, none⟩) (by simp; omega) (by show w.heap.size ≠ kr; omega)
  obtain ⟨j, rfl⟩ := Int.eq_ofNat_of_zero_le m20
  have j3 : j < 3 := by omega
  have jj : (j : Int) < 3 := m21
  have i0 : (0 : Int) ≤ (j : Int) := m20
  obtain ⟨z, hz, z0, z1⟩ : ∃ z, w2.cell? ⟨w1.heap.size, j, none⟩ = some (.int .i64 z) ∧ -1 ≤ z ∧ z ≤ 101 := by
   rw [hsl j]
   rcases (by omega : j = 0 ∨ j = 1 ∨ j = 2) with rfl | rfl | rfl
   all_goals exact ⟨_, by simp [go_sem]; rfl, by decide, by decide⟩
  have c0 : w2.cell? ⟨w.heap.size, 0, none⟩ = some (.string c) := by rw [hbx 0, World.cell?_alloc_past _ _ _ (by show w.heap.size < w1.heap.size; omega)]; exact b0
  have f0 : w2.frozen? ⟨w.heap.size, 0, none⟩ = false := by rw [hfx 0, World.frozen?_alloc_past _ _ _ (by show w.heap.size < w1.heap.size; omega)]; exact g0
  have c1 : w2.cell? ⟨w.heap.size, 1, none⟩ = some (.int .i64 v) := by rw [hbx 1, World.cell?_alloc_past _ _ _ (by show w.heap.size < w1.heap.size; omega)]; exact b1
  have f1 : w2.frozen? ⟨w.heap.size, 1, none⟩ = false := by rw [hfx 1, World.frozen?_alloc_past _ _ _ (by show w.heap.size < w1.heap.size; omega)]; exact g1
  have c2 : w2.cell? ⟨w.heap.size, 2, none⟩ = some (.string h) := by rw [hbx 2, World.cell?_alloc_past _ _ _ (by show w.heap.size < w1.heap.size; omega)]; exact b2
  have f2 : w2.frozen? ⟨w.heap.size, 2, none⟩ = false := by rw [hfx 2, World.frozen?_alloc_past _ _ _ (by show w.heap.size < w1.heap.size; omega)]; exact g2
  have c3 : w2.cell? ⟨w.heap.size, 3, none⟩ = some (.int .i64 p) := by rw [hbx 3, World.cell?_alloc_past _ _ _ (by show w.heap.size < w1.heap.size; omega)]; exact b3
  have f3 : w2.frozen? ⟨w.heap.size, 3, none⟩ = false := by rw [hfx 3, World.frozen?_alloc_past _ _ _ (by show w.heap.size < w1.heap.size; omega)]; exact g3
  have c4 : w2.cell? ⟨w.heap.size, 4, none⟩ = some (.int .i64 s) := by rw [hbx 4, World.cell?_alloc_past _ _ _ (by show w.heap.size < w1.heap.size; omega)]; exact b4
  have f4 : w2.frozen? ⟨w.heap.size, 4, none⟩ = false := by rw [hfx 4, World.frozen?_alloc_past _ _ _ (by show w.heap.size < w1.heap.size; omega)]; exact g4
  have c5 : w2.cell? ⟨w.heap.size, 5, none⟩ = some (.int .i64 d) := by rw [hbx 5, World.cell?_alloc_past _ _ _ (by show w.heap.size < w1.heap.size; omega)]; exact b5
  have f5 : w2.frozen? ⟨w.heap.size, 5, none⟩ = false := by rw [hfx 5, World.frozen?_alloc_past _ _ _ (by show w.heap.size < w1.heap.size; omega)]; exact g5
  have c6 : w2.cell? ⟨w.heap.size, 6, none⟩ = some (.int .i64 g) := by rw [hbx 6, World.cell?_alloc_past _ _ _ (by show w.heap.size < w1.heap.size; omega)]; exact b6
  have f6 : w2.frozen? ⟨w.heap.size, 6, none⟩ = false := by rw [hfx 6, World.frozen?_alloc_past _ _ _ (by show w.heap.size < w1.heap.size; omega)]; exact g6
  have c7 : w2.cell? ⟨w.heap.size, 7, none⟩ = some (.int .i64 x1) := by rw [hbx 7, World.cell?_alloc_past _ _ _ (by show w.heap.size < w1.heap.size; omega)]; exact b7
  have f7 : w2.frozen? ⟨w.heap.size, 7, none⟩ = false := by rw [hfx 7, World.frozen?_alloc_past _ _ _ (by show w.heap.size < w1.heap.size; omega)]; exact g7
  have c8 : w2.cell? ⟨w.heap.size, 8, none⟩ = some (.int .i64 x2) := by rw [hbx 8, World.cell?_alloc_past _ _ _ (by show w.heap.size < w1.heap.size; omega)]; exact b8
  have f8 : w2.frozen? ⟨w.heap.size, 8, none⟩ = false := by rw [hfx 8, World.frozen?_alloc_past _ _ _ (by show w.heap.size < w1.heap.size; omega)]; exact g8
  have c9 : w2.cell? ⟨w.heap.size, 9, none⟩ = some (.int .i64 x3) := by rw [hbx 9, World.cell?_alloc_past _ _ _ (by show w.heap.size < w1.heap.size; omega)]; exact b9
  have f9 : w2.frozen? ⟨w.heap.size, 9, none⟩ = false := by rw [hfx 9, World.frozen?_alloc_past _ _ _ (by show w.heap.size < w1.heap.size; omega)]; exact g9
  have c10 : w2.cell? ⟨w.heap.size, 10, none⟩ = some (.int .i64 x4) := by rw [hbx 10, World.cell?_alloc_past _ _ _ (by show w.heap.size < w1.heap.size; omega)]; exact b10
  have f10 : w2.frozen? ⟨w.heap.size, 10, none⟩ = false := by rw [hfx 10, World.frozen?_alloc_past _ _ _ (by show w.heap.size < w1.heap.size; omega)]; exact g10
  have T2 : Hid (w2.there (w.heap.size + 1) 0 11) := there_ex (World.there_alloc T1.out _) (by simp; omega) e2 (by omega)
  have E2 : Ex kr w w2 := (E1.out.trans (Ex.of_below hb2)).trans e2
  clear hb2 e2 m20 m21 hsl
  have y1 : Ex w.heap.size w2 (w2.setCell ⟨w.heap.size, 8, none⟩ (.int .i64 z)) := Ex.set (Ex.refl w.heap.size w2) 8 (.int .i64 z)
  have y2 : Ex kr w (w2.setCell ⟨w.heap.size, 8, none⟩ (.int .i64 z)) := Ex.other E2 y1 (Nat.le_refl _)
  have y3 := Rd.other hr r2 y1 (by omega) y2
  have Y2 : Hid _ := y2
  have Y3 : Hid _ := y3
  clear y1 y2 y3 hbx hfx r2 E2 b0 b1 b2 b3 b4 b5 b6 b7 b8 b9 b10 g0 g1 g2 g3 g4 g5 g6 g7 g8 g9 g10
  go_wp2_with (refine wpList_store_mid (by rfl) 73 _ _ (by rfl) (w.heap.size + 1) 0 #[.string c, .int .i64 v, .string h, .int .i64 p, .int .i64 s, .int .i64 d, .int .i64 g, .int .i64 x1, .int .i64 z, .int .i64 x3, .int .i64 x4] (by rfl) (by rfl) (by exact World.there_setCells (T2.out) w.heap.size 8 [.int .i64 z]) hinfo (by simp [Value.oneCell']) ?_)
  obtain ⟨d0, d1, d2, d3, d4, d5, d6, d7, d8, d9, d10⟩ := cellsAll (World.rangeAt_setCells_same (w2.setCell ⟨w.heap.size, 8, none⟩ (.int .i64 z)) (w.heap.size + 1) 0 [.string c, .int .i64 v, .string h, .int .i64 p, .int .i64 s, .int .i64 d, .int .i64 g, .int .i64 x1, .int .i64 z, .int .i64 x3, .int .i64 x4] (by exact World.there_setCells (T2.out) w.heap.size 8 [.int .i64 z]))
  have hx1 : Ex (w.heap.size + 1) (w2.setCell ⟨w.heap.size, 8, none⟩ (.int .i64 z)) (World.setCells (w2.setCell ⟨w.heap.size, 8, none⟩ (.int .i64 z)) (w.heap.size + 1) 0 [.string c, .int .i64 v, .string h, .int .i64 p, .int .i64 s, .int .i64 d, .int .i64 g, .int .i64 x1, .int .i64 z, .int .i64 x3, .int .i64 x4]) := (Ex.refl _ _).cells _ _
  have hx2 : Ex kr w (World.setCells (w2.setCell ⟨w.heap.size, 8, none⟩ (.int .i64 z)) (w.heap.size + 1) 0 [.string c, .int .i64 v, .string h, .int .i64 p, .int .i64 s, .int .i64 d, .int .i64 g, .int .i64 x1, .int .i64 z, .int .i64 x3, .int .i64 x4]) := Ex.other Y2.out hx1 (by omega)
  have hx3 := Rd.other hr Y3.out hx1 hne2 hx2
  exact bodyPost_ret (v := .agg #[.string c, .int .i64 v, .string h, .int .i64 p, .int .i64 s, .int .i64 d, .int .i64 g, .int .i64 x1, .int .i64 z, .int .i64 x3, .int .i64 x4]) (by simp [results, Tryz.results38, go_sem, d0, d1, d2, d3, d4, d5, d6, d7, d8, d9, d10]) rfl ⟨c, h, v, p, s, d, g, x1, z, x3, x4, rfl, by omega, ⟨by omega, by omega⟩, ⟨_, hx3, by omega⟩, hx2, hcs, hhs⟩
 ·
  subst hm
  have hbld := build3i ((-1)) (1000) (1001)
  go_wp2_with fail
  clear hbld
  have hb2 := bl_alloc (Below.refl w1.heap.size w1) (.cells #[.int .i64 (-1), .int .i64 1000, .int .i64 1001] 3)
  refine (pick_rd kr a n cap zs _ 3 _ (R1.out.below hb2) (by omega) (by omega) (by omega)).mono ?_
  rintro e w2 ⟨m2, rfl, m20, m21, r2, e2⟩
  have hsl : ∀ j, w2.cell? ⟨w1.heap.size, j, none⟩ = (w1.alloc (.cells #[.int .i64 (-1), .int .i64 1000, .int .i64 1001] 3)).cell? ⟨w1.heap.size, j, none⟩ := fun j => e2.cell (p := ⟨w1.heap.size, j, none⟩) (by simp) (by show w1.heap.size ≠ kr; omega)
  have hbx : ∀ j, w2.cell? ⟨w.heap.size, j, none⟩ = (w1.alloc (.cells #[.int .i64 (-1), .int .i64 1000, .int .i64 1001] 3)).cell? ⟨w.heap.size, j, none⟩ := fun j => e2.cell (p := ⟨w.heap.size, j, none⟩) (by simp; omega) (by show w.heap.size ≠ kr; omega)
  have hfx : ∀ j, w2.frozen? ⟨w.heap.size, j, none⟩ = (w1.alloc (.cells #[.int .i64 (-1), .int .i64 1000, .int .i64 1001] 3)).frozen? ⟨w.heap.size, j, none⟩ := fun j => e2.frozen (p := ⟨w.heap.size, j, none⟩) (by simp; omega) (by show w.heap.size ≠ kr; omega)
  obtain ⟨j, rfl⟩ := Int.eq_ofNat_of_zero_le m20
  have j3 : j < 3 := by omega
  have jj : (j : Int) < 3 := m21
  have i0 : (0 : Int) ≤ (j : Int) := m20
  obtain ⟨z, hz, z0, z1⟩ : ∃ z, w2.cell? ⟨w1.heap.size, j, none⟩ = some (.int .i64 z) ∧ -1 ≤ z ∧ z ≤ 1001 := by
   rw [hsl j]
   rcases (by omega : j = 0 ∨ j = 1 ∨ j = 2) with rfl | rfl | rfl
   all_goals exact ⟨_, by simp [go_sem]; rfl, by decide, by decide⟩
  have c0 : w2.cell? ⟨w.heap.size, 0, none⟩ = some (.string c) := by rw [hbx 0, World.cell?_alloc_past _ _ _ (by show w.heap.size < w1.heap.size; omega)]; exact b0
  have f0 : w2.frozen? ⟨w.heap.size, 0, none⟩ = false := by rw [hfx 0, World.frozen?_alloc_past _ _ _ (by show w.heap.size < w1.heap.size; omega)]; exact g0
  have c1 : w2.cell? ⟨w.heap.size, 1, none⟩ = some (.int .i64 v) := by rw [hbx 1, World.cell?_alloc_past _ _ _ (by show w.heap.size < w1.heap.size; omega)]; exact b1
  have f1 : w2.frozen? ⟨w.heap.size, 1, none⟩ = false := by rw [hfx 1, World.frozen?_alloc_past _ _ _ (by show w.heap.size < w1.heap.size; omega)]; exact g1
  have c2 : w2.cell? ⟨w.heap.size, 2, none⟩ = some (.string h) := by rw [hbx 2, World.cell?_alloc_past _ _ _ (by show w.heap.size < w1.heap.size; omega)]; exact b2
  have f2 : w2.frozen? ⟨w.heap.size, 2, none⟩ = false := by rw [hfx 2, World.frozen?_alloc_past _ _ _ (by show w.heap.size < w1.heap.size; omega)]; exact g2
  have c3 : w2.cell? ⟨w.heap.size, 3, none⟩ = some (.int .i64 p) := by rw [hbx 3, World.cell?_alloc_past _ _ _ (by show w.heap.size < w1.heap.size; omega)]; exact b3
  have f3 : w2.frozen? ⟨w.heap.size, 3, none⟩ = false := by rw [hfx 3, World.frozen?_alloc_past _ _ _ (by show w.heap.size < w1.heap.size; omega)]; exact g3
  have c4 : w2.cell? ⟨w.heap.size, 4, none⟩ = some (.int .i64 s) := by rw [hbx 4, World.cell?_alloc_past _ _ _ (by show w.heap.size < w1.heap.size; omega)]; exact b4
  have f4 : w2.frozen? ⟨w.heap.size, 4, none⟩ = false := by rw [hfx 4, World.frozen?_alloc_past _ _ _ (by show w.heap.size < w1.heap.size; omega)]; exact g4
  have c5 : w2.cell? ⟨w.heap.size, 5, none⟩ = some (.int .i64 d) := by rw [hbx 5, World.cell?_alloc_past _ _ _ (by show w.heap.size < w1.heap.size; omega)]; exact b5
  have f5 : w2.frozen? ⟨w.heap.size, 5, none⟩ = false := by rw [hfx 5, World.frozen?_alloc_past _ _ _ (by show w.heap.size < w1.heap.size; omega)]; exact g5
  have c6 : w2.cell? ⟨w.heap.size, 6, none⟩ = some (.int .i64 g) := by rw [hbx 6, World.cell?_alloc_past _ _ _ (by show w.heap.size < w1.heap.size; omega)]; exact b6
  have f6 : w2.frozen? ⟨w.heap.size, 6, none⟩ = false := by rw [hfx 6, World.frozen?_alloc_past _ _ _ (by show w.heap.size < w1.heap.size; omega)]; exact g6
  have c7 : w2.cell? ⟨w.heap.size, 7, none⟩ = some (.int .i64 x1) := by rw [hbx 7, World.cell?_alloc_past _ _ _ (by show w.heap.size < w1.heap.size; omega)]; exact b7
  have f7 : w2.frozen? ⟨w.heap.size, 7, none⟩ = false := by rw [hfx 7, World.frozen?_alloc_past _ _ _ (by show w.heap.size < w1.heap.size; omega)]; exact g7
  have c8 : w2.cell? ⟨w.heap.size, 8, none⟩ = some (.int .i64 x2) := by rw [hbx 8, World.cell?_alloc_past _ _ _ (by show w.heap.size < w1.heap.size; omega)]; exact b8
  have f8 : w2.frozen? ⟨w.heap.size, 8, none⟩ = false := by rw [hfx 8, World.frozen?_alloc_past _ _ _ (by show w.heap.size < w1.heap.size; omega)]; exact g8
  have c9 : w2.cell? ⟨w.heap.size, 9, none⟩ = some (.int .i64 x3) := by rw [hbx 9, World.cell?_alloc_past _ _ _ (by show w.heap.size < w1.heap.size; omega)]; exact b9
  have f9 : w2.frozen? ⟨w.heap.size, 9, none⟩ = false := by rw [hfx 9, World.frozen?_alloc_past _ _ _ (by show w.heap.size < w1.heap.size; omega)]; exact g9
  have c10 : w2.cell? ⟨w.heap.size, 10, none⟩ = some (.int .i64 x4) := by rw [hbx 10, World.cell?_alloc_past _ _ _ (by show w.heap.size < w1.heap.size; omega)]; exact b10
  have f10 : w2.frozen? ⟨w.heap.size, 10, none⟩ = false := by rw [hfx 10, World.frozen?_alloc_past _ _ _ (by show w.heap.size < w1.heap.size; omega)]; exact g10
  have T2 : Hid (w2.there (w.heap.size + 1) 0 11) := there_ex (World.there_alloc T1.out _) (by simp; omega) e2 (by omega)
  have E2 : Ex kr w w2 := (E1.out.trans (Ex.of_below hb2)).trans e2
  clear hb2 e2 m20 m21 hsl
  have y1 : Ex w.heap.size w2 (w2.setCell ⟨w.heap.size, 9, none⟩ (.int .i64 z)) := Ex.set (Ex.refl w.heap.size w2) 9 (.int .i64 z)
  have y2 : Ex kr w (w2.setCell ⟨w.heap.size, 9, none⟩ (.int .i64 z)) := Ex.other E2 y1 (Nat.le_refl _)
  have y3 := Rd.other hr r2 y1 (by omega) y2
  have Y2 : Hid _ := y2
  have Y3 : Hid _ := y3
  clear y1 y2 y3 hbx hfx r2 E2 b0 b1 b2 b3 b4 b5 b6 b7 b8 b9 b10 g0 g1 g2 g3 g4 g5 g6 g7 g8 g9 g10
  go_wp2_with (refine wpList_store_mid (by rfl) 73 _ _ (by rfl) (w.heap.size + 1) 0 #[.string c, .int .i64 v, .string h, .int .i64 p, .int .i64 s, .int .i64 d, .int .i64 g, .int .i64 x1, .int .i64 x2, .int .i64 z, .int .i64 x4] (by rfl) (by rfl) (by exact World.there_setCells (T2.out) w.heap.size 9 [.int .i64 z]) hinfo (by simp [Value.oneCell']) ?_)
  obtain ⟨d0, d1, d2, d3, d4, d5, d6, d7, d8, d9, d10⟩ := cellsAll (World.rangeAt_setCells_same (w2.setCell ⟨w.heap.size, 9, none⟩ (.int .i64 z)) (w.heap.size + 1) 0 [.string c, .int .i64 v, .string h, .int .i64 p, .int .i64 s, .int .i64 d, .int .i64 g, .int .i64 x1, .int .i64 x2, .int .i64 z, .int .i64 x4] (by exact World.there_setCells (T2.out) w.heap.size 9 [.int .i64 z]))
  have hx1 : Ex (w.heap.size + 1) (w2.setCell ⟨w.heap.size, 9, none⟩ (.int .i64 z)) (World.setCells (w2.setCell ⟨w.heap.size, 9, none⟩ (.int .i64 z)) (w.heap.size + 1) 0 [.string c, .int .i64 v, .string h, .int .i64 p, .int .i64 s, .int .i64 d, .int .i64 g, .int .i64 x1, .int .i64 x2, .int .i64 z, .int .i64 x4]) := (Ex.refl _ _).cells _ _
  have hx2 : Ex kr w (World.setCells (w2.setCell ⟨w.heap.size, 9, none⟩ (.int .i64 z)) (w.heap.size + 1) 0 [.string c, .int .i64 v, .string h, .int .i64 p, .int .i64 s, .int .i64 d, .int .i64 g, .int .i64 x1, .int .i64 x2, .int .i64 z, .int .i64 x4]) := Ex.other Y2.out hx1 (by omega)
  have hx3 := Rd.other hr Y3.out hx1 hne2 hx2
  exact bodyPost_ret (v := .agg #[.string c, .int .i64 v, .string h, .int .i64 p, .int .i64 s, .int .i64 d, .int .i64 g, .int .i64 x1, .int .i64 x2, .int .i64 z, .int .i64 x4]) (by simp [results, Tryz.results38, go_sem, d0, d1, d2, d3, d4, d5, d6, d7, d8, d9, d10]) rfl ⟨c, h, v, p, s, d, g, x1, x2, z, x4, rfl, by omega, ⟨by omega, by omega⟩, ⟨_, hx3, by omega⟩, hx2, hcs, hhs⟩
 ·
  subst hm
  have hbld := build5i ((-1)) (0) (1) (1000016) (1000017)
  go_wp2_with fail
  clear hbld
  have hb2 := bl_alloc (Below.refl w1.heap.size w1) (.cells #[.int .i64 (-1), .int .i64 0, .int .i64 1, .int .i64 1000016, .int .i64 1000017] 3)
  refine (pick_rd kr a n cap zs _ 5 _ (R1.out.below hb2) (by omega) (by omega) (by omega)).mono ?_
  rintro e w2 ⟨m2, rfl, m20, m21, r2, e2⟩
  have hsl : ∀ j, w2.cell? ⟨w1.heap.size, j, none⟩ = (w1.alloc (.cells #[.int .i64 (-1), .int .i64 0, .int .i64 1, .int .i64 1000016, .int .i64 1000017] 3)).cell? ⟨w1.heap.size, j, none⟩ := fun j => e2.cell (p := ⟨w1.heap.size, j, none⟩) (by simp) (by show w1.heap.size ≠ kr; omega)
  have hbx : ∀ j, w2.cell? ⟨w.heap.size, j, none⟩ = (w1.alloc (.cells #[.int .i64 (-1), .int .i64 0, .int .i64 1, .int .i64 1000016, .int .i64 1000017] 3)).cell? ⟨w.heap.size, j, none⟩ := fun j => e2.cell (p := ⟨w.heap.size, j, none⟩) (by simp; omega) (by show w.heap.size ≠ kr; omega)
  have hfx : ∀ j, w2.frozen? ⟨w.heap.size, j, none⟩ = (w1.alloc (.cells #[.int .i64 (-1), .int .i64 0, .int .i64 1, .int .i64 1000016, .int .i64 1000017] 3)).frozen? ⟨w.heap.size, j, none⟩ := fun j => e2.frozen (p := ⟨w.heap.size, j, none⟩) (by simp; omega) (by show w.heap.size ≠ kr; omega)
  obtain ⟨j, rfl⟩ := Int.eq_ofNat_of_zero_le m20
  have j3 : j < 5 := by omega
  have jj : (j : Int) < 5 := m21
  have i0 : (0 : Int) ≤ (j : Int) := m20
  obtain ⟨z, hz, z0, z1⟩ : ∃ z, w2.cell? ⟨w1.heap.size, j, none⟩ = some (.int .i64 z) ∧ -1 ≤ z ∧ z ≤ 1000017 := by
   rw [hsl j]
   rcases (by omega : j = 0 ∨ j = 1 ∨ j = 2 ∨ j = 3 ∨ j = 4) with rfl | rfl | rfl | rfl | rfl
   all_goals exact ⟨_, by simp [go_sem]; rfl, by decide, by decide⟩
  have c0 : w2.cell? ⟨w.heap.size, 0, none⟩ = some (.string c) := by rw [hbx 0, World.cell?_alloc_past _ _ _ (by show w.heap.size < w1.heap.size; omega)]; exact b0
  have f0 : w2.frozen? ⟨w.heap.size, 0, none⟩ = false := by rw [hfx 0, World.frozen?_alloc_past _ _ _ (by show w.heap.size < w1.heap.size; omega)]; exact g0
  have c1 : w2.cell? ⟨w.heap.size, 1, none⟩ = some (.int .i64 v) := by rw [hbx 1, World.cell?_alloc_past _ _ _ (by show w.heap.size < w1.heap.size; omega)]; exact b1
  have f1 : w2.frozen? ⟨w.heap.size, 1, none⟩ = false := by rw [hfx 1, World.frozen?_alloc_past _ _ _ (by show w.heap.size < w1.heap.size; omega)]; exact g1
  have c2 : w2.cell? ⟨w.heap.size, 2, none⟩ = some (.string h) := by rw [hbx 2, World.cell?_alloc_past _ _ _ (by show w.heap.size < w1.heap.size; omega)]; exact b2
  have f2 : w2.frozen? ⟨w.heap.size, 2, none⟩ = false := by rw [hfx 2, World.frozen?_alloc_past _ _ _ (by show w.heap.size < w1.heap.size; omega)]; exact g2
  have c3 : w2.cell? ⟨w.heap.size, 3, none⟩ = some (.int .i64 p) := by rw [hbx 3, World.cell?_alloc_past _ _ _ (by show w.heap.size < w1.heap.size; omega)]; exact b3
  have f3 : w2.frozen? ⟨w.heap.size, 3, none⟩ = false := by rw [hfx 3, World.frozen?_alloc_past _ _ _ (by show w.heap.size < w1.heap.size; omega)]; exact g3
  have c4 : w2.cell? ⟨w.heap.size, 4, none⟩ = some (.int .i64 s) := by rw [hbx 4, World.cell?_alloc_past _ _ _ (by show w.heap.size < w1.heap.size; omega)]; exact b4
  have f4 : w2.frozen? ⟨w.heap.size, 4, none⟩ = false := by rw [hfx 4, World.frozen?_alloc_past _ _ _ (by show w.heap.size < w1.heap.size; omega)]; exact g4
  have c5 : w2.cell? ⟨w.heap.size, 5, none⟩ = some (.int .i64 d) := by rw [hbx 5, World.cell?_alloc_past _ _ _ (by show w.heap.size < w1.heap.size; omega)]; exact b5
  have f5 : w2.frozen? ⟨w.heap.size, 5, none⟩ = false := by rw [hfx 5, World.frozen?_alloc_past _ _ _ (by show w.heap.size < w1.heap.size; omega)]; exact g5
  have c6 : w2.cell? ⟨w.heap.size, 6, none⟩ = some (.int .i64 g) := by rw [hbx 6, World.cell?_alloc_past _ _ _ (by show w.heap.size < w1.heap.size; omega)]; exact b6
  have f6 : w2.frozen? ⟨w.heap.size, 6, none⟩ = false := by rw [hfx 6, World.frozen?_alloc_past _ _ _ (by show w.heap.size < w1.heap.size; omega)]; exact g6
  have c7 : w2.cell? ⟨w.heap.size, 7, none⟩ = some (.int .i64 x1) := by rw [hbx 7, World.cell?_alloc_past _ _ _ (by show w.heap.size < w1.heap.size; omega)]; exact b7
  have f7 : w2.frozen? ⟨w.heap.size, 7, none⟩ = false := by rw [hfx 7, World.frozen?_alloc_past _ _ _ (by show w.heap.size < w1.heap.size; omega)]; exact g7
  have c8 : w2.cell? ⟨w.heap.size, 8, none⟩ = some (.int .i64 x2) := by rw [hbx 8, World.cell?_alloc_past _ _ _ (by show w.heap.size < w1.heap.size; omega)]; exact b8
  have f8 : w2.frozen? ⟨w.heap.size, 8, none⟩ = false := by rw [hfx 8, World.frozen?_alloc_past _ _ _ (by show w.heap.size < w1.heap.size; omega)]; exact g8
  have c9 : w2.cell? ⟨w.heap.size, 9, none⟩ = some (.int .i64 x3) := by rw [hbx 9, World.cell?_alloc_past _ _ _ (by show w.heap.size < w1.heap.size; omega)]; exact b9
  have f9 : w2.frozen? ⟨w.heap.size, 9, none⟩ = false := by rw [hfx 9, World.frozen?_alloc_past _ _ _ (by show w.heap.size < w1.heap.size; omega)]; exact g9
  have c10 : w2.cell? ⟨w.heap.size, 10, none⟩ = some (.int .i64 x4) := by rw [hbx 10, World.cell?_alloc_past _ _ _ (by show w.heap.size < w1.heap.size; omega)]; exact b10
  have f10 : w2.frozen? ⟨w.heap.size, 10, none⟩ = false := by rw [hfx 10, World.frozen?_alloc_past _ _ _ (by show w.heap.size < w1.heap.size; omega)]; exact g10
  have T2 : Hid (w2.there (w.heap.size + 1) 0 11) := there_ex (World.there_alloc T1.out _) (by simp; omega) e2 (by omega)
  have E2 : Ex kr w w2 := (E1.out.trans (Ex.of_below hb2)).trans e2
  clear hb2 e2 m20 m21 hsl
  have y1 : Ex w.heap.size w2 (w2.setCell ⟨w.heap.size, 10, none⟩ (.int .i64 z)) := Ex.set (Ex.refl w.heap.size w2) 10 (.int .i64 z)
  have y2 : Ex kr w (w2.setCell ⟨w.heap.size, 10, none⟩ (.int .i64 z)) := Ex.other E2 y1 (Nat.le_refl _)
  have y3 := Rd.other hr r2 y1 (by omega) y2
  have Y2 : Hid _ := y2
  have Y3 : Hid _ := y3
  clear y1 y2 y3 hbx hfx r2 E2 b0 b1 b2 b3 b4 b5 b6 b7 b8 b9 b10 g0 g1 g2 g3 g4 g5 g6 g7 g8 g9 g10
  go_wp2_with (refine wpList_store_mid (by rfl) 73 _ _ (by rfl) (w.heap.size + 1) 0 #[.string c, .int .i64 v, .string h, .int .i64 p, .int .i64 s, .int .i64 d, .int .i64 g, .int .i64 x1, .int .i64 x2, .int .i64 x3, .int .i64 z] (by rfl) (by rfl) (by exact World.there_setCells (T2.out) w.heap.size 10 [.int .i64 z]) hinfo (by simp [Value.oneCell']) ?_)
  obtain ⟨d0, d1, d2, d3, d4, d5, d6, d7, d8, d9, d10⟩ := cellsAll (World.rangeAt_setCells_same (w2.setCell ⟨w.heap.size, 10, none⟩ (.int .i64 z)) (w.heap.size + 1) 0 [.string c, .int .i64 v, .string h, .int .i64 p, .int .i64 s, .int .i64 d, .int .i64 g, .int .i64 x1, .int .i64 x2, .int .i64 x3, .int .i64 z] (by exact World.there_setCells (T2.out) w.heap.size 10 [.int .i64 z]))
  have hx1 : Ex (w.heap.size + 1) (w2.setCell ⟨w.heap.size, 10, none⟩ (.int .i64 z)) (World.setCells (w2.setCell ⟨w.heap.size, 10, none⟩ (.int .i64 z)) (w.heap.size + 1) 0 [.string c, .int .i64 v, .string h, .int .i64 p, .int .i64 s, .int .i64 d, .int .i64 g, .int .i64 x1, .int .i64 x2, .int .i64 x3, .int .i64 z]) := (Ex.refl _ _).cells _ _
  have hx2 : Ex kr w (World.setCells (w2.setCell ⟨w.heap.size, 10, none⟩ (.int .i64 z)) (w.heap.size + 1) 0 [.string c, .int .i64 v, .string h, .int .i64 p, .int .i64 s, .int .i64 d, .int .i64 g, .int .i64 x1, .int .i64 x2, .int .i64 x3, .int .i64 z]) := Ex.other Y2.out hx1 (by omega)
  have hx3 := Rd.other hr Y3.out hx1 hne2 hx2
  exact bodyPost_ret (v := .agg #[.string c, .int .i64 v, .string h, .int .i64 p, .int .i64 s, .int .i64 d, .int .i64 g, .int .i64 x1, .int .i64 x2, .int .i64 x3, .int .i64 z]) (by simp [results, Tryz.results38, go_sem, d0, d1, d2, d3, d4, d5, d6, d7, d8, d9, d10]) rfl ⟨c, h, v, p, s, d, g, x1, x2, x3, z, rfl, by omega, ⟨by omega, by omega⟩, ⟨_, hx3, by omega⟩, hx2, hcs, hhs⟩
 ·
  subst hm
  obtain ⟨w2, rfl⟩ : ∃ w2 : World, w2 = w1 := ⟨_, rfl⟩
  have hbx : True := trivial
  have hfx : True := trivial
  have r2 := R1.out
  have T2 := T1
  have E2 := E1.out
  have c0 := b0
  have f0 := g0
  have c1 := b1
  have f1 := g1
  have c2 := b2
  have f2 := g2
  have c3 := b3
  have f3 := g3
  have c4 := b4
  have f4 := g4
  have c5 := b5
  have f5 := g5
  have c6 := b6
  have f6 := g6
  have c7 := b7
  have f7 := g7
  have c8 := b8
  have f8 := g8
  have c9 := b9
  have f9 := g9
  have c10 := b10
  have f10 := g10
  have y1 : Ex w.heap.size w2 (w2.setCell ⟨w.heap.size, 2, none⟩ (.string ⟨#[]⟩)) := Ex.set (Ex.refl w.heap.size w2) 2 (.string ⟨#[]⟩)
  have y2 : Ex kr w (w2.setCell ⟨w.heap.size, 2, none⟩ (.string ⟨#[]⟩)) := Ex.other E2 y1 (Nat.le_refl _)
  have y3 := Rd.other hr r2 y1 (by omega) y2
  have Y2 : Hid _ := y2
  have Y3 : Hid _ := y3
  clear y1 y2 y3 hbx hfx r2 E2 b0 b1 b2 b3 b4 b5 b6 b7 b8 b9 b10 g0 g1 g2 g3 g4 g5 g6 g7 g8 g9 g10
  go_wp2_with (refine wpList_store_mid (by rfl) 73 _ _ (by rfl) (w.heap.size + 1) 0 #[.string c, .int .i64 v, .string ⟨#[]⟩, .int .i64 p, .int .i64 s, .int .i64 d, .int .i64 g, .int .i64 x1, .int .i64 x2, .int .i64 x3, .int .i64 x4] (by rfl) (by rfl) (by exact World.there_setCells (T2.out) w.heap.size 2 [.string ⟨#[]⟩]) hinfo (by simp [Value.oneCell']) ?_)
  obtain ⟨d0, d1, d2, d3, d4, d5, d6, d7, d8, d9, d10⟩ := cellsAll (World.rangeAt_setCells_same (w2.setCell ⟨w.heap.size, 2, none⟩ (.string ⟨#[]⟩)) (w.heap.size + 1) 0 [.string c, .int .i64 v, .string ⟨#[]⟩, .int .i64 p, .int .i64 s, .int .i64 d, .int .i64 g, .int .i64 x1, .int .i64 x2, .int .i64 x3, .int .i64 x4] (by exact World.there_setCells (T2.out) w.heap.size 2 [.string ⟨#[]⟩]))
  have hx1 : Ex (w.heap.size + 1) (w2.setCell ⟨w.heap.size, 2, none⟩ (.string ⟨#[]⟩)) (World.setCells (w2.setCell ⟨w.heap.size, 2, none⟩ (.string ⟨#[]⟩)) (w.heap.size + 1) 0 [.string c, .int .i64 v, .string ⟨#[]⟩, .int .i64 p, .int .i64 s, .int .i64 d, .int .i64 g, .int .i64 x1, .int .i64 x2, .int .i64 x3, .int .i64 x4]) := (Ex.refl _ _).cells _ _
  have hx2 : Ex kr w (World.setCells (w2.setCell ⟨w.heap.size, 2, none⟩ (.string ⟨#[]⟩)) (w.heap.size + 1) 0 [.string c, .int .i64 v, .string ⟨#[]⟩, .int .i64 p, .int .i64 s, .int .i64 d, .int .i64 g, .int .i64 x1, .int .i64 x2, .int .i64 x3, .int .i64 x4]) := Ex.other Y2.out hx1 (by omega)
  have hx3 := Rd.other hr Y3.out hx1 hne2 hx2
  exact bodyPost_ret (v := .agg #[.string c, .int .i64 v, .string ⟨#[]⟩, .int .i64 p, .int .i64 s, .int .i64 d, .int .i64 g, .int .i64 x1, .int .i64 x2, .int .i64 x3, .int .i64 x4]) (by simp [results, Tryz.results38, go_sem, d0, d1, d2, d3, d4, d5, d6, d7, d8, d9, d10]) rfl ⟨c, { data := #[] }, v, p, s, d, g, x1, x2, x3, x4, rfl, by omega, ⟨by omega, by omega⟩, ⟨_, hx3, by omega⟩, hx2, hcs, (by unfold maxLen; decide)⟩
end Go.Proofs.YtgakmkhbnjofhaaGreatDoor
