import Derived.Test.YtgakmkhbnjofhaaGreatDoorJ01
namespace Go.Proofs.YtgakmkhbnjofhaaGreatDoor
open Go.RowKit
set_option linter.unusedVariables false
theorem cases22 {i : Nat} (h : i < 22) : i = 0 ∨ i = 1 ∨ i = 2 ∨ i = 3 ∨ i = 4 ∨ i = 5 ∨ i = 6 ∨ i = 7 ∨ i = 8 ∨ i = 9 ∨ i = 10 ∨ i = 11 ∨ i = 12 ∨ i = 13 ∨ i = 14 ∨ i = 15 ∨ i = 16 ∨ i = 17 ∨ i = 18 ∨ i = 19 ∨ i = 20 ∨ i = 21 := by omega
theorem there7 (w : World) (t : TypeId) : (w.alloc (.cells #[.string ⟨#[]⟩, .int .i64 0, .string ⟨#[]⟩, .int .i64 0, .int .i64 0, .int .i64 0, .int .i64 0] t)).there w.heap.size 0 7 :=
 fun j hj => ⟨by simp [go_sem]; omega, by simp [go_sem]⟩
def strs : Array Value := #[.string ⟨#[]⟩, .string ⟨#[118, 111, 108]⟩, .string ⟨#[105, 112]⟩, .string ⟨#[118, 111, 108, 50]⟩]
def nums : Array Value := #[.int .i64 0, .int .i64 0, .int .i64 0, .int .i64 1, .int .i64 3, .int .i64 8]
theorem build_strs (w : World) : Sem.run Tryz.prog (Instr.buildSlice 43 4 #[(0, .string ⟨#[]⟩), (1, .string ⟨#[118, 111, 108]⟩), (2, .string ⟨#[105, 112]⟩), (3, .string ⟨#[118, 111, 108, 50]⟩)]) w = .ok (.slice (some ⟨w.heap.size, 0, none⟩) 4 4) (w.alloc (.cells strs 9)) := by kernel_rfl
theorem build_nums (w : World) : Sem.run Tryz.prog (Instr.buildSlice 44 6 #[(0, .int .i64 0), (1, .int .i64 0), (2, .int .i64 0), (3, .int .i64 1), (4, .int .i64 3), (5, .int .i64 8)]) w = .ok (.slice (some ⟨w.heap.size, 0, none⟩) 6 6) (w.alloc (.cells nums 3)) := by kernel_rfl
theorem strs_at (w : World) : ∀ j, j < 4 → ∃ u, (w.alloc (.cells strs 9)).cell? ⟨w.heap.size, j, none⟩ = some u ∧ Txt u := by
 intro j hj
 rw [World.cell?_alloc_new]
 obtain rfl | rfl | rfl | rfl : j = 0 ∨ j = 1 ∨ j = 2 ∨ j = 3 := by omega
 all_goals exact ⟨_, rfl, _, rfl, by decide⟩
theorem nums_at (w : World) : ∀ j, j < 6 → ∃ u, (w.alloc (.cells nums 3)).cell? ⟨w.heap.size, j, none⟩ = some u ∧ Num 0 8 u := by
 intro j hj
 rw [World.cell?_alloc_new]
 obtain rfl | rfl | rfl | rfl | rfl | rfl : j = 0 ∨ j = 1 ∨ j = 2 ∨ j = 3 ∨ j = 4 ∨ j = 5 := by omega
 all_goals exact ⟨_, rfl, _, rfl, by decide, by decide⟩
set_option maxRecDepth 4000 in
set_option maxHeartbeats 2000000 in
theorem drawWant (kr : Nat) (a : Option Addr) (n cap : Nat) (zs : List Int) (p : Int) (c : ByteArray) (w : World) (hr : Rd w kr a n cap zs p) (hp : p < 900000) :
  Calls Tryz.prog 58 #[.pointer (some ⟨kr, 0, none⟩), .string c] w fun e w' => ∃ (h : ByteArray) (v1 p1 s d g : Int), e = .returned (.agg #[.string c, .int .i64 v1, .string h, .int .i64 p1, .int .i64 s, .int .i64 d, .int .i64 g]) ∧ h.size ≤ 20 ∧ (0 ≤ v1 ∧ v1 ≤ 100) ∧ (0 ≤ p1 ∧ p1 ≤ 100) ∧ (0 ≤ s ∧ s ≤ 100) ∧ (0 ≤ d ∧ d ≤ 100) ∧ (0 ≤ g ∧ g ≤ 100) ∧ (∃ q, Rd w' kr a n cap zs q ∧ q ≤ p + 22) ∧ Ex kr w w' := by
 have hkr := hr.lt
 have hinfo : (Tryz.prog.info? 46).map (·.size) = some 7 := by kernel_rfl
 go_enter Tryz.func58, Tryz.ntmps58
 go_wp2_with fail
 refine wp_region_any (by kernel_rfl) ?_
 refine wpAny_inv (Iw kr w.heap.size w c a n cap zs p) ?step ?done _ _ _ _ ?fuel ?init
 case fuel => decide
 case init =>
  have hbl : Below w.heap.size w (World.drew (w.alloc (.cells #[.string ⟨#[]⟩, .int .i64 0, .string ⟨#[]⟩, .int .i64 0, .int .i64 0, .int .i64 0, .int .i64 0] 46))) := bl_drew (bl_alloc (Below.refl _ _) _)
  refine ⟨rfl, rfl, rfl, rfl, rfl, ?_, ⟨⟨p, hr.below hbl, ?_⟩, Ex.of_below hbl, ?_, ?_⟩, rfl, ?_⟩
  ·
   intro i hi hl
   exact absurd hl (by simp [Array.getD])
  ·
   have h22 : openOf (Array.replicate 22 false) = 22 := by decide
   show p + ((openOf (Array.replicate 22 false) : Nat) : Int) ≤ p + 22
   rw [h22]; omega
  ·
   show w.heap.size < (w.alloc _).heap.size
   simp
  ·
   exact fun j hj => there7 w 46 j hj
  ·
   intro hl
   exact absurd hl (by simp [Array.getD])
 case done =>
  intro listed x y hI hd
  have hf := hI.fin (all_listed (by decide) hd hI.lz 21 (by decide))
  obtain ⟨hh, v1, v3, v4, v5, v6, hrg, a2, bb⟩ := hf
  have c0 := hrg 0 _ rfl
  have c1 := hrg 1 _ rfl
  have c2 := hrg 2 _ rfl
  have c3 := hrg 3 _ rfl
  have c4 := hrg 4 _ rfl
  have c5 := hrg 5 _ rfl
  have c6 := hrg 6 _ rfl
  have e4 := ev_tmp hI.s4
  have df := hI.df
  go_wp2
  obtain ⟨q, hq, hq1⟩ := hI.wd.rd
  exact bodyPost_ret (v := .agg #[.string c, .int .i64 v1, .string hh, .int .i64 v3, .int .i64 v4, .int .i64 v5, .int .i64 v6]) (by simp [results, Tryz.results58, go_sem, *]) df ⟨hh, v1, v3, v4, v5, v6, rfl, a2, bb.1, bb.2.1, bb.2.2.1, bb.2.2.2.1, bb.2.2.2.2, ⟨q, hq, by omega⟩, hI.wd.ex⟩
 case step =>
  intro listed x y i hI hi
  have ho := ready_open hi
  have hlt : i < 22 := List.mem_range.1 (List.mem_filter.1 hi).1
  have hop := openOf_set ho
  obtain ⟨pc, hrd, hpc⟩ := hI.wd.rd
  have stay : ∃ q, Rd y kr a n cap zs q ∧ q + (openOf (listed.setIfInBounds i true) : Int) ≤ p + 22 := ⟨pc, hrd, by omega⟩
  have hkr' : kr ≠ w.heap.size := by omega
  rcases cases22 hlt with rfl | rfl | rfl | rfl | rfl | rfl | rfl | rfl | rfl | rfl | rfl | rfl | rfl | rfl | rfl | rfl | rfl | rfl | rfl | rfl | rfl | rfl
  ·
   refine wpOp_plain rfl rfl ?_
   have e1 := ev_tmp hI.s1
   go_simp
   exact hI.put kr _ w c a n cap zs p (by omega) ho hkr hkr' rfl (Ex.refl _ _) stay
  ·
   refine wpOp_plain rfl rfl ?_
   have e1 := ev_tmp hI.s0
   go_simp
   exact hI.put kr _ w c a n cap zs p (by omega) ho hkr hkr' rfl (Ex.refl _ _) stay
  ·
   have d1 := dep_listed (j := 1) hi rfl (by decide)
   clear hi
   refine wpOp_plain rfl rfl ?_
   have e1 : x.tmps[6]?.getD undef = .pointer (some ⟨kr, 0, none⟩) := ev_tmp (hI.good 1 (by omega) d1)
   go_simp
   refine (pick_rd kr a n cap zs pc 3 y hrd (by omega) (by omega) (by omega)).mono ?_
   rintro e y' ⟨m, rfl, m0, m1, hrd', hex⟩
   exact hI.put kr _ w c a n cap zs p (by omega) ho hkr hkr' ⟨m, rfl, m0, by omega⟩ hex ⟨pc + 1, hrd', by omega⟩
  ·
   have d1 := dep_listed (j := 2) hi rfl (by decide)
   clear hi
   refine wpOp_plain rfl rfl ?_
   obtain ⟨m, hm, m0, m1⟩ := hI.good 2 (by omega) d1
   have e1 := ev_tmp hm
   have iw : IntKind.i64.wrap (1 + m) = 1 + m := by rw [IntKind.wrap_i64]; omega
   go_simp
   exact hI.put kr _ w c a n cap zs p (by omega) ho hkr hkr' ⟨1 + m, rfl, by omega, by omega⟩ (Ex.refl _ _) stay
  ·
   clear hi
   refine wpOp_plain rfl rfl ?_
   have hb := build_strs
   go_simp
   have hbl : Below y.heap.size y (y.alloc (.cells strs 9)) := bl_alloc (Below.refl _ _) _
   exact hI.put kr _ w c a n cap zs p (by omega) ho hkr hkr' ⟨y.heap.size, rfl, hI.wd.ex.size, by have := hI.wd.lt; omega, by simp, strs_at y⟩ (Ex.of_below hbl) ⟨pc, hrd.below hbl, by omega⟩
  ·
   refine wpOp_plain rfl rfl ?_
   have e1 := ev_tmp hI.s0
   go_simp
   exact hI.put kr _ w c a n cap zs p (by omega) ho hkr hkr' rfl (Ex.refl _ _) stay
  ·
   have d1 := dep_listed (j := 5) hi rfl (by decide)
   clear hi
   refine wpOp_plain rfl rfl ?_
   have e1 : x.tmps[10]?.getD undef = .pointer (some ⟨kr, 0, none⟩) := ev_tmp (hI.good 5 (by omega) d1)
   go_simp
   refine (pick_rd kr a n cap zs pc 4 y hrd (by omega) (by omega) (by omega)).mono ?_
   rintro e y' ⟨m, rfl, m0, m1, hrd', hex⟩
   exact hI.put kr _ w c a n cap zs p (by omega) ho hkr hkr' ⟨m, rfl, m0, by omega⟩ hex ⟨pc + 1, hrd', by omega⟩
  ·
   have d1 := dep_listed (j := 4) hi rfl (by decide)
   have d2 := dep_listed (j := 6) hi rfl (by decide)
   clear hi
   refine wpOp_plain rfl rfl ?_
   obtain ⟨g, hg, g0, g1, g2, gc⟩ := hI.good 4 (by omega) d1
   obtain ⟨m, hm, m0, m1⟩ := hI.good 6 (by omega) d2
   have e1 := ev_tmp hg
   have e2 := ev_tmp hm
   obtain ⟨j, rfl⟩ := Int.eq_ofNat_of_zero_le m0
   obtain ⟨u, hu, hP⟩ := gc j (by omega)
   have j0 : (j : Int) < 4 := by omega
   clear gc
   go_simp
   exact hI.put kr _ w c a n cap zs p (by omega) ho hkr hkr' ⟨g, j, u, rfl, g0, g1, g2, hu, hP⟩ (Ex.refl _ _) stay
  ·
   have d1 := dep_listed (j := 7) hi rfl (by decide)
   clear hi
   refine wpOp_plain rfl rfl ?_
   obtain ⟨g, j, u, hv, g0, g1, g2, hu, hP⟩ := hI.good 7 (by omega) d1
   have e1 := ev_tmp hv
   obtain ⟨s, rfl, hs⟩ := hP
   go_simp
   exact hI.put kr _ w c a n cap zs p (by omega) ho hkr hkr' ⟨s, rfl, hs⟩ (Ex.refl _ _) stay
  ·
   refine wpOp_plain rfl rfl ?_
   have e1 := ev_tmp hI.s0
   go_simp
   exact hI.put kr _ w c a n cap zs p (by omega) ho hkr hkr' rfl (Ex.refl _ _) stay
  ·
   have d1 := dep_listed (j := 9) hi rfl (by decide)
   clear hi
   refine wpOp_plain rfl rfl ?_
   have e1 : x.tmps[14]?.getD undef = .pointer (some ⟨kr, 0, none⟩) := ev_tmp (hI.good 9 (by omega) d1)
   go_simp
   refine (pick_rd kr a n cap zs pc 4 y hrd (by omega) (by omega) (by omega)).mono ?_
   rintro e y' ⟨m, rfl, m0, m1, hrd', hex⟩
   exact hI.put kr _ w c a n cap zs p (by omega) ho hkr hkr' ⟨m, rfl, m0, by omega⟩ hex ⟨pc + 1, hrd', by omega⟩
  ·
   refine wpOp_plain rfl rfl ?_
   have e1 := ev_tmp hI.s0
   go_simp
   exact hI.put kr _ w c a n cap zs p (by omega) ho hkr hkr' rfl (Ex.refl _ _) stay
  ·
   have d1 := dep_listed (j := 11) hi rfl (by decide)
   clear hi
   refine wpOp_plain rfl rfl ?_
   have e1 : x.tmps[16]?.getD undef = .pointer (some ⟨kr, 0, none⟩) := ev_tmp (hI.good 11 (by omega) d1)
   go_simp
   refine (pick_rd kr a n cap zs pc 3 y hrd (by omega) (by omega) (by omega)).mono ?_
   rintro e y' ⟨m, rfl, m0, m1, hrd', hex⟩
   exact hI.put kr _ w c a n cap zs p (by omega) ho hkr hkr' ⟨m, rfl, m0, by omega⟩ hex ⟨pc + 1, hrd', by omega⟩
  ·
   clear hi
   refine wpOp_plain rfl rfl ?_
   have hb := build_nums
   go_simp
   have hbl : Below y.heap.size y (y.alloc (.cells nums 3)) := bl_alloc (Below.refl _ _) _
   exact hI.put kr _ w c a n cap zs p (by omega) ho hkr hkr' ⟨y.heap.size, rfl, hI.wd.ex.size, by have := hI.wd.lt; omega, by simp, nums_at y⟩ (Ex.of_below hbl) ⟨pc, hrd.below hbl, by omega⟩
  ·
   refine wpOp_plain rfl rfl ?_
   have e1 := ev_tmp hI.s0
   go_simp
   exact hI.put kr _ w c a n cap zs p (by omega) ho hkr hkr' rfl (Ex.refl _ _) stay
  ·
   have d1 := dep_listed (j := 14) hi rfl (by decide)
   clear hi
   refine wpOp_plain rfl rfl ?_
   have e1 : x.tmps[19]?.getD undef = .pointer (some ⟨kr, 0, none⟩) := ev_tmp (hI.good 14 (by omega) d1)
   go_simp
   refine (pick_rd kr a n cap zs pc 6 y hrd (by omega) (by omega) (by omega)).mono ?_
   rintro e y' ⟨m, rfl, m0, m1, hrd', hex⟩
   exact hI.put kr _ w c a n cap zs p (by omega) ho hkr hkr' ⟨m, rfl, m0, by omega⟩ hex ⟨pc + 1, hrd', by omega⟩
  ·
   have d1 := dep_listed (j := 13) hi rfl (by decide)
   have d2 := dep_listed (j := 15) hi rfl (by decide)
   clear hi
   refine wpOp_plain rfl rfl ?_
   obtain ⟨g, hg, g0, g1, g2, gc⟩ := hI.good 13 (by omega) d1
   obtain ⟨m, hm, m0, m1⟩ := hI.good 15 (by omega) d2
   have e1 := ev_tmp hg
   have e2 := ev_tmp hm
   obtain ⟨j, rfl⟩ := Int.eq_ofNat_of_zero_le m0
   obtain ⟨u, hu, hP⟩ := gc j (by omega)
   have j0 : (j : Int) < 6 := by omega
   clear gc
   go_simp
   exact hI.put kr _ w c a n cap zs p (by omega) ho hkr hkr' ⟨g, j, u, rfl, g0, g1, g2, hu, hP⟩ (Ex.refl _ _) stay
  ·
   have d1 := dep_listed (j := 16) hi rfl (by decide)
   clear hi
   refine wpOp_plain rfl rfl ?_
   obtain ⟨g, j, u, hv, g0, g1, g2, hu, hP⟩ := hI.good 16 (by omega) d1
   have e1 := ev_tmp hv
   obtain ⟨z, rfl, z0, z1⟩ := hP
   go_simp
   exact hI.put kr _ w c a n cap zs p (by omega) ho hkr hkr' ⟨z, rfl, z0, z1⟩ (Ex.refl _ _) stay
  ·
   refine wpOp_plain rfl rfl ?_
   have e1 := ev_tmp hI.s0
   go_simp
   exact hI.put kr _ w c a n cap zs p (by omega) ho hkr hkr' rfl (Ex.refl _ _) stay
  ·
   have d1 := dep_listed (j := 18) hi rfl (by decide)
   clear hi
   refine wpOp_plain rfl rfl ?_
   have e1 : x.tmps[23]?.getD undef = .pointer (some ⟨kr, 0, none⟩) := ev_tmp (hI.good 18 (by omega) d1)
   go_simp
   refine (pick_rd kr a n cap zs pc 4 y hrd (by omega) (by omega) (by omega)).mono ?_
   rintro e y' ⟨m, rfl, m0, m1, hrd', hex⟩
   exact hI.put kr _ w c a n cap zs p (by omega) ho hkr hkr' ⟨m, rfl, m0, by omega⟩ hex ⟨pc + 1, hrd', by omega⟩
  ·
   have d0 := dep_listed (j := 0) hi rfl (by decide)
   have d3 := dep_listed (j := 3) hi rfl (by decide)
   have d8 := dep_listed (j := 8) hi rfl (by decide)
   have d10 := dep_listed (j := 10) hi rfl (by decide)
   have d12 := dep_listed (j := 12) hi rfl (by decide)
   have d17 := dep_listed (j := 17) hi rfl (by decide)
   have d19 := dep_listed (j := 19) hi rfl (by decide)
   clear hi
   refine wpOp_plain rfl rfl ?_
   have e0 : x.tmps[5]?.getD undef = .string c := ev_tmp (hI.good 0 (by omega) d0)
   have g3 : Num 1 3 (x.tmps.getD 8 undef) := hI.good 3 (by omega) d3
   obtain ⟨v1, h3, a1, b1⟩ := g3
   have g8 : Txt (x.tmps.getD 13 undef) := hI.good 8 (by omega) d8
   obtain ⟨hh, h8, a2⟩ := g8
   have g10 : Num 0 3 (x.tmps.getD 15 undef) := hI.good 10 (by omega) d10
   obtain ⟨v3, h10, a3, b3⟩ := g10
   have g12 : Num 0 2 (x.tmps.getD 17 undef) := hI.good 12 (by omega) d12
   obtain ⟨v4, h12, a4, b4⟩ := g12
   have g17 : Num 0 8 (x.tmps.getD 22 undef) := hI.good 17 (by omega) d17
   obtain ⟨v5, h17, a5, b5⟩ := g17
   have g19 : Num 0 3 (x.tmps.getD 24 undef) := hI.good 19 (by omega) d19
   obtain ⟨v6, h19, a6, b6⟩ := g19
   have e3 := ev_tmp h3
   have e8 := ev_tmp h8
   have e10 := ev_tmp h10
   have e12 := ev_tmp h12
   have e17 := ev_tmp h17
   have e19 := ev_tmp h19
   go_simp
   exact hI.put kr _ w c a n cap zs p (by omega) ho hkr hkr' ⟨hh, v1, v3, v4, v5, v6, rfl, a2, ⟨by omega, by omega⟩, ⟨by omega, by omega⟩, ⟨by omega, by omega⟩, ⟨by omega, by omega⟩, ⟨by omega, by omega⟩⟩ (Ex.refl _ _) stay
  ·
   have d1 := dep_listed (j := 20) hi rfl (by decide)
   clear hi
   refine wpOp_plain rfl rfl ?_
   obtain ⟨hh, v1, v3, v4, v5, v6, hv, a2, bb⟩ := hI.good 20 (by omega) d1
   refine wp_store_mid 46 _ _ rfl w.heap.size 0 #[.string c, .int .i64 v1, .string hh, .int .i64 v3, .int .i64 v4, .int .i64 v5, .int .i64 v6] hI.s4 hv hI.wd.th hinfo (by simp [Value.oneCell']) ?_
   exact hI.last kr _ w c a n cap zs p ho (Nat.le_refl _) hkr' hr ⟨hh, v1, v3, v4, v5, v6, World.rangeAt_setCells_same _ _ _ _ hI.wd.th, a2, bb⟩
theorem cellsAll {wx : World} {k : Nat} {v0 v1 v2 v3 v4 v5 v6 v7 v8 v9 v10 : Value} (h : wx.rangeAt k 0 [v0, v1, v2, v3, v4, v5, v6, v7, v8, v9, v10]) : wx.cell? ⟨k, 0, none⟩ = some v0 ∧ wx.cell? ⟨k, 1, none⟩ = some v1 ∧ wx.cell? ⟨k, 2, none⟩ = some v2 ∧ wx.cell? ⟨k, 3, none⟩ = some v3 ∧ wx.cell? ⟨k, 4, none⟩ = some v4 ∧ wx.cell? ⟨k, 5, none⟩ = some v5 ∧ wx.cell? ⟨k, 6, none⟩ = some v6 ∧ wx.cell? ⟨k, 7, none⟩ = some v7 ∧ wx.cell? ⟨k, 8, none⟩ = some v8 ∧ wx.cell? ⟨k, 9, none⟩ = some v9 ∧ wx.cell? ⟨k, 10, none⟩ = some v10 :=
 ⟨by simpa using h 0 _ rfl, by simpa using h 1 _ rfl, by simpa using h 2 _ rfl, by simpa using h 3 _ rfl, by simpa using h 4 _ rfl, by simpa using h 5 _ rfl, by simpa using h 6 _ rfl, by simpa using h 7 _ rfl, by simpa using h 8 _ rfl, by simpa using h 9 _ rfl, by simpa using h 10 _ rfl⟩
theorem there11 (w : World) (t : TypeId) : (w.alloc (.cells #[.string ⟨#[]⟩, .int .i64 0, .string ⟨#[]⟩, .int .i64 0, .int .i64 0, .int .i64 0, .int .i64 0, .int .i64 0, .int .i64 0, .int .i64 0, .int .i64 0] t)).there w.heap.size 0 11 :=
 fun j hj => ⟨by simp [go_sem]; omega, by simp [go_sem]⟩
set_option maxRecDepth 4000 in
set_option maxHeartbeats 2000000 in
theorem drawRun (kr : Nat) (a : Option Addr) (n cap : Nat) (zs : List Int) (p clock : Int) (c : ByteArray) (w : World) (hr : Rd w kr a n cap zs p) (hp : p < 800000) (k0 : 0 ≤ clock) (k1 : clock ≤ 100000) :
  Calls Tryz.prog 60 #[.pointer (some ⟨kr, 0, none⟩), .string c, .int .i64 clock] w fun e w' => ∃ (h : ByteArray) (v1 p1 s d g st lf fl un : Int), e = .returned (.agg #[.string c, .int .i64 v1, .string h, .int .i64 p1, .int .i64 s, .int .i64 d, .int .i64 g, .int .i64 st, .int .i64 lf, .int .i64 fl, .int .i64 un]) ∧ (0 ≤ lf ∧ lf ≤ 100) ∧ (0 ≤ fl ∧ fl ≤ 100) ∧ (∃ q, Rd w' kr a n cap zs q ∧ q ≤ p + 100) ∧ Ex kr w w' ∧ h.size ≤ 20 ∧ (-100000 ≤ un ∧ un ≤ 200000) := by
 have hkr := hr.lt
 go_enter Tryz.func60, Tryz.ntmps60
 go_wp2_with fail
 have hb1 := bl_alloc (Below.refl w.heap.size w) (.cells #[.string ⟨#[]⟩, .int .i64 0, .string ⟨#[]⟩, .int .i64 0, .int .i64 0, .int .i64 0, .int .i64 0, .int .i64 0, .int .i64 0, .int .i64 0, .int .i64 0] 73)
 refine (drawWant kr a n cap zs p c _ (hr.below hb1) (by omega)).mono ?_
 rintro e w1 ⟨h, v1, p1, s, d, g, rfl, hh, -, -, -, -, -, ⟨q1, r1, hq1⟩, e1⟩
 go_wp2_with fail
 refine (pick_rd kr a n cap zs q1 6 _ r1 (by omega) (by omega) (by omega)).mono ?_
 rintro e w2 ⟨m1, rfl, m10, m11, r2, e2⟩
 go_wp2_with fail
 refine (pick_rd kr a n cap zs _ 5 _ r2 (by omega) (by omega) (by omega)).mono ?_
 rintro e w3 ⟨m2, rfl, m20, m21, r3, e3⟩
 go_wp2_with fail
 refine (pick_rd kr a n cap zs _ 6 _ r3 (by omega) (by omega) (by omega)).mono ?_
 rintro e w4 ⟨m3, rfl, m30, m31, r4, e4⟩
 have hne : kr ≠ w.heap.size := by omega
 have hinfo : (Tryz.prog.info? 73).map (·.size) = some 11 := by kernel_rfl
 have e4' := (e1.trans e2).trans (e3.trans e4)
 have T4 : w4.there w.heap.size 0 11 := there_ex (there11 w 73) (by simp) e4' (by omega)
 have E4 : Ex kr w w4 := (Ex.of_below hb1).trans e4'
 have z4 : w.heap.size < w4.heap.size := Nat.lt_of_lt_of_le (by simp) e4'.size
 clear hb1 e1 e2 e3 e4 r1 r2 r3 e4'
 have T4' : Hid _ := T4
 have E4' : Hid _ := E4
 have R4' : Hid _ := r4
 clear T4 E4 r4
 cases hE : h.toList.isEmpty
 ·
  go_wp2_with fail
  have hb4 := bl_alloc (Below.refl w4.heap.size w4) (.cells #[.string c, .int .i64 v1, .string h, .int .i64 p1, .int .i64 s, .int .i64 d, .int .i64 g, .int .i64 (1 + m1), .int .i64 m2, .int .i64 m3, .int .i64 0] 73)
  refine (pick_rd kr a n cap zs _ 14 _ (R4'.out.below hb4) (by omega) (by omega) (by omega)).mono ?_
  rintro e w5 ⟨m5, rfl, m50, m51, r5, e5⟩
  have hne4 : w4.heap.size ≠ kr := by have := E4'.out.size; omega
  have hbx : ∀ j, w5.cell? ⟨w4.heap.size, j, none⟩ = (w4.alloc (.cells #[.string c, .int .i64 v1, .string h, .int .i64 p1, .int .i64 s, .int .i64 d, .int .i64 g, .int .i64 (1 + m1), .int .i64 m2, .int .i64 m3, .int .i64 0] 73)).cell? ⟨w4.heap.size, j, none⟩ := fun j => e5.cell (p := ⟨w4.heap.size, j, none⟩) (by simp) hne4
  have hfx : ∀ j, w5.frozen? ⟨w4.heap.size, j, none⟩ = (w4.alloc (.cells #[.string c, .int .i64 v1, .string h, .int .i64 p1, .int .i64 s, .int .i64 d, .int .i64 g, .int .i64 (1 + m1), .int .i64 m2, .int .i64 m3, .int .i64 0] 73)).frozen? ⟨w4.heap.size, j, none⟩ := fun j => e5.frozen (p := ⟨w4.heap.size, j, none⟩) (by simp) hne4
  have T5 : w5.there w.heap.size 0 11 := there_ex (World.there_alloc T4'.out _) (by simp; omega) e5 (by omega)
  have E5 : Ex kr w w5 := (E4'.out.trans (Ex.of_below hb4)).trans e5
  have z45 : w4.heap.size < w5.heap.size := Nat.lt_of_lt_of_le (by simp) e5.size
  have T5' : Hid _ := T5
  have E5' : Hid _ := E5
  have R5' : Hid _ := r5
  clear T5 E5 r5 e5 hb4
  have c0 : w5.cell? ⟨w4.heap.size, 0, none⟩ = some (.string c) := by rw [hbx 0]; simp [go_sem]
  have c1 : w5.cell? ⟨w4.heap.size, 1, none⟩ = some (.int .i64 v1) := by rw [hbx 1]; simp [go_sem]
  have c2 : w5.cell? ⟨w4.heap.size, 2, none⟩ = some (.string h) := by rw [hbx 2]; simp [go_sem]
  have c3 : w5.cell? ⟨w4.heap.size, 3, none⟩ = some (.int .i64 p1) := by rw [hbx 3]; simp [go_sem]
  have c4 : w5.cell? ⟨w4.heap.size, 4, none⟩ = some (.int .i64 s) := by rw [hbx 4]; simp [go_sem]
  have c5 : w5.cell? ⟨w4.heap.size, 5, none⟩ = some (.int .i64 d) := by rw [hbx 5]; simp [go_sem]
  have c6 : w5.cell? ⟨w4.heap.size, 6, none⟩ = some (.int .i64 g) := by rw [hbx 6]; simp [go_sem]
  have c7 : w5.cell? ⟨w4.heap.size, 7, none⟩ = some (.int .i64 (1 + m1)) := by rw [hbx 7]; simp [go_sem]
  have c8 : w5.cell? ⟨w4.heap.size, 8, none⟩ = some (.int .i64 m2) := by rw [hbx 8]; simp [go_sem]
  have c9 : w5.cell? ⟨w4.heap.size, 9, none⟩ = some (.int .i64 m3) := by rw [hbx 9]; simp [go_sem]
  have c10 : w5.cell? ⟨w4.heap.size, 10, none⟩ = some (.int .i64 0) := by rw [hbx 10]; simp [go_sem]
  have f8 : w5.frozen? ⟨w4.heap.size, 8, none⟩ = false := by rw [hfx 8]; simp [go_sem]
  have f10 : w5.frozen? ⟨w4.heap.size, 10, none⟩ = false := by rw [hfx 10]; simp [go_sem]
  clear hbx hfx
  by_cases hun : clock + m5 - 4 < 0
  ·
   by_cases hst : m1 = 1
   ·
    obtain rfl : m1 = 1 := by omega
    simp only [show (1 : Int) + 1 = 2 from rfl] at c7
    have y1 : Ex w4.heap.size w5 (((w5.setCell ⟨w4.heap.size, 10, none⟩ (.int .i64 (clock + m5 - 4))).setCell ⟨w4.heap.size, 10, none⟩ (.int .i64 (0))).setCell ⟨w4.heap.size, 8, none⟩ (.int .i64 (0))) := Ex.set (Ex.set (Ex.set (Ex.refl w4.heap.size w5) 10 (.int .i64 (clock + m5 - 4))) 10 (.int .i64 (0))) 8 (.int .i64 (0))
    have y2 : Ex kr w (((w5.setCell ⟨w4.heap.size, 10, none⟩ (.int .i64 (clock + m5 - 4))).setCell ⟨w4.heap.size, 10, none⟩ (.int .i64 (0))).setCell ⟨w4.heap.size, 8, none⟩ (.int .i64 (0))) := Ex.other E5'.out y1 (by omega)
    have y3 := Rd.other hr R5'.out y1 (by omega) y2
    have Y2 : Hid _ := y2
    have Y3 : Hid _ := y3
    clear y1 y2 y3
    go_wp2_with (refine wpList_store_mid (by rfl) 73 _ _ (by rfl) w.heap.size 0 #[.string c, .int .i64 v1, .string h, .int .i64 p1, .int .i64 s, .int .i64 d, .int .i64 g, .int .i64 2, .int .i64 0, .int .i64 m3, .int .i64 0] (by rfl) (by rfl) (by exact World.there_setCells (World.there_setCells (World.there_setCells (T5'.out) w4.heap.size 10 [.int .i64 (clock + m5 - 4)]) w4.heap.size 10 [.int .i64 (0)]) w4.heap.size 8 [.int .i64 (0)]) hinfo (by simp [Value.oneCell']) ?_)
    obtain ⟨d0, d1, d2, d3, d4, d5, d6, d7, d8, d9, d10⟩ := cellsAll (World.rangeAt_setCells_same (((w5.setCell ⟨w4.heap.size, 10, none⟩ (.int .i64 (clock + m5 - 4))).setCell ⟨w4.heap.size, 10, none⟩ (.int .i64 (0))).setCell ⟨w4.heap.size, 8, none⟩ (.int .i64 (0))) w.heap.size 0 [.string c, .int .i64 v1, .string h, .int .i64 p1, .int .i64 s, .int .i64 d, .int .i64 g, .int .i64 2, .int .i64 0, .int .i64 m3, .int .i64 0] (by exact World.there_setCells (World.there_setCells (World.there_setCells (T5'.out) w4.heap.size 10 [.int .i64 (clock + m5 - 4)]) w4.heap.size 10 [.int .i64 (0)]) w4.heap.size 8 [.int .i64 (0)]))
    have hx1 : Ex w.heap.size (((w5.setCell ⟨w4.heap.size, 10, none⟩ (.int .i64 (clock + m5 - 4))).setCell ⟨w4.heap.size, 10, none⟩ (.int .i64 (0))).setCell ⟨w4.heap.size, 8, none⟩ (.int .i64 (0))) (World.setCells (((w5.setCell ⟨w4.heap.size, 10, none⟩ (.int .i64 (clock + m5 - 4))).setCell ⟨w4.heap.size, 10, none⟩ (.int .i64 (0))).setCell ⟨w4.heap.size, 8, none⟩ (.int .i64 (0))) w.heap.size 0 [.string c, .int .i64 v1, .string h, .int .i64 p1, .int .i64 s, .int .i64 d, .int .i64 g, .int .i64 2, .int .i64 0, .int .i64 m3, .int .i64 0]) := (Ex.refl _ _).cells _ _
    have hx2 : Ex kr w (World.setCells (((w5.setCell ⟨w4.heap.size, 10, none⟩ (.int .i64 (clock + m5 - 4))).setCell ⟨w4.heap.size, 10, none⟩ (.int .i64 (0))).setCell ⟨w4.heap.size, 8, none⟩ (.int .i64 (0))) w.heap.size 0 [.string c, .int .i64 v1, .string h, .int .i64 p1, .int .i64 s, .int .i64 d, .int .i64 g, .int .i64 2, .int .i64 0, .int .i64 m3, .int .i64 0]) := Ex.other Y2.out hx1 (Nat.le_refl _)
    have hx3 := Rd.other hr Y3.out hx1 hne hx2
    exact bodyPost_ret (v := .agg #[.string c, .int .i64 v1, .string h, .int .i64 p1, .int .i64 s, .int .i64 d, .int .i64 g, .int .i64 2, .int .i64 0, .int .i64 m3, .int .i64 0]) (by simp [results, Tryz.results60, go_sem, d0, d1, d2, d3, d4, d5, d6, d7, d8, d9, d10]) rfl ⟨h, v1, p1, s, d, g, 2, 0, m3, 0, rfl, ⟨by omega, by omega⟩, ⟨by omega, by omega⟩, ⟨_, hx3, by omega⟩, hx2, hh, by omega, by omega⟩
   ·
    have y1 : Ex w4.heap.size w5 ((w5.setCell ⟨w4.heap.size, 10, none⟩ (.int .i64 (clock + m5 - 4))).setCell ⟨w4.heap.size, 10, none⟩ (.int .i64 (0))) := Ex.set (Ex.set (Ex.refl w4.heap.size w5) 10 (.int .i64 (clock + m5 - 4))) 10 (.int .i64 (0))
    have y2 : Ex kr w ((w5.setCell ⟨w4.heap.size, 10, none⟩ (.int .i64 (clock + m5 - 4))).setCell ⟨w4.heap.size, 10, none⟩ (.int .i64 (0))) := Ex.other E5'.out y1 (by omega)
    have y3 := Rd.other hr R5'.out y1 (by omega) y2
    have Y2 : Hid _ := y2
    have Y3 : Hid _ := y3
    clear y1 y2 y3
    go_wp2_with (refine wpList_store_mid (by rfl) 73 _ _ (by rfl) w.heap.size 0 #[.string c, .int .i64 v1, .string h, .int .i64 p1, .int .i64 s, .int .i64 d, .int .i64 g, .int .i64 (1 + m1), .int .i64 m2, .int .i64 m3, .int .i64 0] (by rfl) (by rfl) (by exact World.there_setCells (World.there_setCells (T5'.out) w4.heap.size 10 [.int .i64 (clock + m5 - 4)]) w4.heap.size 10 [.int .i64 (0)]) hinfo (by simp [Value.oneCell']) ?_)
    obtain ⟨d0, d1, d2, d3, d4, d5, d6, d7, d8, d9, d10⟩ := cellsAll (World.rangeAt_setCells_same ((w5.setCell ⟨w4.heap.size, 10, none⟩ (.int .i64 (clock + m5 - 4))).setCell ⟨w4.heap.size, 10, none⟩ (.int .i64 (0))) w.heap.size 0 [.string c, .int .i64 v1, .string h, .int .i64 p1, .int .i64 s, .int .i64 d, .int .i64 g, .int .i64 (1 + m1), .int .i64 m2, .int .i64 m3, .int .i64 0] (by exact World.there_setCells (World.there_setCells (T5'.out) w4.heap.size 10 [.int .i64 (clock + m5 - 4)]) w4.heap.size 10 [.int .i64 (0)]))
    have hx1 : Ex w.heap.size ((w5.setCell ⟨w4.heap.size, 10, none⟩ (.int .i64 (clock + m5 - 4))).setCell ⟨w4.heap.size, 10, none⟩ (.int .i64 (0))) (World.setCells ((w5.setCell ⟨w4.heap.size, 10, none⟩ (.int .i64 (clock + m5 - 4))).setCell ⟨w4.heap.size, 10, none⟩ (.int .i64 (0))) w.heap.size 0 [.string c, .int .i64 v1, .string h, .int .i64 p1, .int .i64 s, .int .i64 d, .int .i64 g, .int .i64 (1 + m1), .int .i64 m2, .int .i64 m3, .int .i64 0]) := (Ex.refl _ _).cells _ _
    have hx2 : Ex kr w (World.setCells ((w5.setCell ⟨w4.heap.size, 10, none⟩ (.int .i64 (clock + m5 - 4))).setCell ⟨w4.heap.size, 10, none⟩ (.int .i64 (0))) w.heap.size 0 [.string c, .int .i64 v1, .string h, .int .i64 p1, .int .i64 s, .int .i64 d, .int .i64 g, .int .i64 (1 + m1), .int .i64 m2, .int .i64 m3, .int .i64 0]) := Ex.other Y2.out hx1 (Nat.le_refl _)
    have hx3 := Rd.other hr Y3.out hx1 hne hx2
    exact bodyPost_ret (v := .agg #[.string c, .int .i64 v1, .string h, .int .i64 p1, .int .i64 s, .int .i64 d, .int .i64 g, .int .i64 (1 + m1), .int .i64 m2, .int .i64 m3, .int .i64 0]) (by simp [results, Tryz.results60, go_sem, d0, d1, d2, d3, d4, d5, d6, d7, d8, d9, d10]) rfl ⟨h, v1, p1, s, d, g, (1 + m1), m2, m3, 0, rfl, ⟨by omega, by omega⟩, ⟨by omega, by omega⟩, ⟨_, hx3, by omega⟩, hx2, hh, by omega, by omega⟩
  ·
   by_cases hst : m1 = 1
   ·
    obtain rfl : m1 = 1 := by omega
    simp only [show (1 : Int) + 1 = 2 from rfl] at c7
    have y1 : Ex w4.heap.size w5 ((w5.setCell ⟨w4.heap.size, 10, none⟩ (.int .i64 (clock + m5 - 4))).setCell ⟨w4.heap.size, 8, none⟩ (.int .i64 (0))) := Ex.set (Ex.set (Ex.refl w4.heap.size w5) 10 (.int .i64 (clock + m5 - 4))) 8 (.int .i64 (0))
    have y2 : Ex kr w ((w5.setCell ⟨w4.heap.size, 10, none⟩ (.int .i64 (clock + m5 - 4))).setCell ⟨w4.heap.size, 8, none⟩ (.int .i64 (0))) := Ex.other E5'.out y1 (by omega)
    have y3 := Rd.other hr R5'.out y1 (by omega) y2
    have Y2 : Hid _ := y2
    have Y3 : Hid _ := y3
    clear y1 y2 y3
    go_wp2_with (refine wpList_store_mid (by rfl) 73 _ _ (by rfl) w.heap.size 0 #[.string c, .int .i64 v1, .string h, .int .i64 p1, .int .i64 s, .int .i64 d, .int .i64 g, .int .i64 2, .int .i64 0, .int .i64 m3, .int .i64 (clock + m5 - 4)] (by rfl) (by rfl) (by exact World.there_setCells (World.there_setCells (T5'.out) w4.heap.size 10 [.int .i64 (clock + m5 - 4)]) w4.heap.size 8 [.int .i64 (0)]) hinfo (by simp [Value.oneCell']) ?_)
    obtain ⟨d0, d1, d2, d3, d4, d5, d6, d7, d8, d9, d10⟩ := cellsAll (World.rangeAt_setCells_same ((w5.setCell ⟨w4.heap.size, 10, none⟩ (.int .i64 (clock + m5 - 4))).setCell ⟨w4.heap.size, 8, none⟩ (.int .i64 (0))) w.heap.size 0 [.string c, .int .i64 v1, .string h, .int .i64 p1, .int .i64 s, .int .i64 d, .int .i64 g, .int .i64 2, .int .i64 0, .int .i64 m3, .int .i64 (clock + m5 - 4)] (by exact World.there_setCells (World.there_setCells (T5'.out) w4.heap.size 10 [.int .i64 (clock + m5 - 4)]) w4.heap.size 8 [.int .i64 (0)]))
    have hx1 : Ex w.heap.size ((w5.setCell ⟨w4.heap.size, 10, none⟩ (.int .i64 (clock + m5 - 4))).setCell ⟨w4.heap.size, 8, none⟩ (.int .i64 (0))) (World.setCells ((w5.setCell ⟨w4.heap.size, 10, none⟩ (.int .i64 (clock + m5 - 4))).setCell ⟨w4.heap.size, 8, none⟩ (.int .i64 (0))) w.heap.size 0 [.string c, .int .i64 v1, .string h, .int .i64 p1, .int .i64 s, .int .i64 d, .int .i64 g, .int .i64 2, .int .i64 0, .int .i64 m3, .int .i64 (clock + m5 - 4)]) := (Ex.refl _ _).cells _ _
    have hx2 : Ex kr w (World.setCells ((w5.setCell ⟨w4.heap.size, 10, none⟩ (.int .i64 (clock + m5 - 4))).setCell ⟨w4.heap.size, 8, none⟩ (.int .i64 (0))) w.heap.size 0 [.string c, .int .i64 v1, .string h, .int .i64 p1, .int .i64 s, .int .i64 d, .int .i64 g, .int .i64 2, .int .i64 0, .int .i64 m3, .int .i64 (clock + m5 - 4)]) := Ex.other Y2.out hx1 (Nat.le_refl _)
    have hx3 := Rd.other hr Y3.out hx1 hne hx2
    exact bodyPost_ret (v := .agg #[.string c, .int .i64 v1, .string h, .int .i64 p1, .int .i64 s, .int .i64 d, .int .i64 g, .int .i64 2, .int .i64 0, .int .i64 m3, .int .i64 (clock + m5 - 4)]) (by simp [results, Tryz.results60, go_sem, d0, d1, d2, d3, d4, d5, d6, d7, d8, d9, d10]) rfl ⟨h, v1, p1, s, d, g, 2, 0, m3, (clock + m5 - 4), rfl, ⟨by omega, by omega⟩, ⟨by omega, by omega⟩, ⟨_, hx3, by omega⟩, hx2, hh, by omega, by omega⟩
   ·
    have y1 : Ex w4.heap.size w5 (w5.setCell ⟨w4.heap.size, 10, none⟩ (.int .i64 (clock + m5 - 4))) := Ex.set (Ex.refl w4.heap.size w5) 10 (.int .i64 (clock + m5 - 4))
    have y2 : Ex kr w (w5.setCell ⟨w4.heap.size, 10, none⟩ (.int .i64 (clock + m5 - 4))) := Ex.other E5'.out y1 (by omega)
    have y3 := Rd.other hr R5'.out y1 (by omega) y2
    have Y2 : Hid _ := y2
    have Y3 : Hid _ := y3
    clear y1 y2 y3
    go_wp2_with (refine wpList_store_mid (by rfl) 73 _ _ (by rfl) w.heap.size 0 #[.string c, .int .i64 v1, .string h, .int .i64 p1, .int .i64 s, .int .i64 d, .int .i64 g, .int .i64 (1 + m1), .int .i64 m2, .int .i64 m3, .int .i64 (clock + m5 - 4)] (by rfl) (by rfl) (by exact World.there_setCells (T5'.out) w4.heap.size 10 [.int .i64 (clock + m5 - 4)]) hinfo (by simp [Value.oneCell']) ?_)
    obtain ⟨d0, d1, d2, d3, d4, d5, d6, d7, d8, d9, d10⟩ := cellsAll (World.rangeAt_setCells_same (w5.setCell ⟨w4.heap.size, 10, none⟩ (.int .i64 (clock + m5 - 4))) w.heap.size 0 [.string c, .int .i64 v1, .string h, .int .i64 p1, .int .i64 s, .int .i64 d, .int .i64 g, .int .i64 (1 + m1), .int .i64 m2, .int .i64 m3, .int .i64 (clock + m5 - 4)] (by exact World.there_setCells (T5'.out) w4.heap.size 10 [.int .i64 (clock + m5 - 4)]))
    have hx1 : Ex w.heap.size (w5.setCell ⟨w4.heap.size, 10, none⟩ (.int .i64 (clock + m5 - 4))) (World.setCells (w5.setCell ⟨w4.heap.size, 10, none⟩ (.int .i64 (clock + m5 - 4))) w.heap.size 0 [.string c, .int .i64 v1, .string h, .int .i64 p1, .int .i64 s, .int .i64 d, .int .i64 g, .int .i64 (1 + m1), .int .i64 m2, .int .i64 m3, .int .i64 (clock + m5 - 4)]) := (Ex.refl _ _).cells _ _
    have hx2 : Ex kr w (World.setCells (w5.setCell ⟨w4.heap.size, 10, none⟩ (.int .i64 (clock + m5 - 4))) w.heap.size 0 [.string c, .int .i64 v1, .string h, .int .i64 p1, .int .i64 s, .int .i64 d, .int .i64 g, .int .i64 (1 + m1), .int .i64 m2, .int .i64 m3, .int .i64 (clock + m5 - 4)]) := Ex.other Y2.out hx1 (Nat.le_refl _)
    have hx3 := Rd.other hr Y3.out hx1 hne hx2
    exact bodyPost_ret (v := .agg #[.string c, .int .i64 v1, .string h, .int .i64 p1, .int .i64 s, .int .i64 d, .int .i64 g, .int .i64 (1 + m1), .int .i64 m2, .int .i64 m3, .int .i64 (clock + m5 - 4)]) (by simp [results, Tryz.results60, go_sem, d0, d1, d2, d3, d4, d5, d6, d7, d8, d9, d10]) rfl ⟨h, v1, p1, s, d, g, (1 + m1), m2, m3, (clock + m5 - 4), rfl, ⟨by omega, by omega⟩, ⟨by omega, by omega⟩, ⟨_, hx3, by omega⟩, hx2, hh, by omega, by omega⟩
 ·
  by_cases hst : m1 = 1
  ·
   obtain rfl : m1 = 1 := by omega
   have hb4 := bl_alloc (Below.refl w4.heap.size w4) (.cells #[.string c, .int .i64 v1, .string h, .int .i64 p1, .int .i64 s, .int .i64 d, .int .i64 g, .int .i64 2, .int .i64 0, .int .i64 m3, .int .i64 0] 73)
   have Y2 : Hid (Ex kr w (w4.alloc (.cells #[.string c, .int .i64 v1, .string h, .int .i64 p1, .int .i64 s, .int .i64 d, .int .i64 g, .int .i64 2, .int .i64 0, .int .i64 m3, .int .i64 0] 73))) := E4'.out.trans (Ex.of_below hb4)
   have Y3 : Hid _ := R4'.out.below hb4
   clear hb4
   go_wp2_with (refine wpList_store_mid (by rfl) 73 _ _ (by rfl) w.heap.size 0 #[.string c, .int .i64 v1, .string h, .int .i64 p1, .int .i64 s, .int .i64 d, .int .i64 g, .int .i64 2, .int .i64 0, .int .i64 m3, .int .i64 0] (by rfl) (by rfl) (by exact World.there_alloc T4'.out _) hinfo (by simp [Value.oneCell']) ?_)
   obtain ⟨d0, d1, d2, d3, d4, d5, d6, d7, d8, d9, d10⟩ := cellsAll (World.rangeAt_setCells_same (w4.alloc (.cells #[.string c, .int .i64 v1, .string h, .int .i64 p1, .int .i64 s, .int .i64 d, .int .i64 g, .int .i64 2, .int .i64 0, .int .i64 m3, .int .i64 0] 73)) w.heap.size 0 [.string c, .int .i64 v1, .string h, .int .i64 p1, .int .i64 s, .int .i64 d, .int .i64 g, .int .i64 2, .int .i64 0, .int .i64 m3, .int .i64 0] (by exact World.there_alloc T4'.out _))
   have hx1 : Ex w.heap.size (w4.alloc (.cells #[.string c, .int .i64 v1, .string h, .int .i64 p1, .int .i64 s, .int .i64 d, .int .i64 g, .int .i64 2, .int .i64 0, .int .i64 m3, .int .i64 0] 73)) (World.setCells (w4.alloc (.cells #[.string c, .int .i64 v1, .string h, .int .i64 p1, .int .i64 s, .int .i64 d, .int .i64 g, .int .i64 2, .int .i64 0, .int .i64 m3, .int .i64 0] 73)) w.heap.size 0 [.string c, .int .i64 v1, .string h, .int .i64 p1, .int .i64 s, .int .i64 d, .int .i64 g, .int .i64 2, .int .i64 0, .int .i64 m3, .int .i64 0]) := (Ex.refl _ _).cells _ _
   have hx2 : Ex kr w (World.setCells (w4.alloc (.cells #[.string c, .int .i64 v1, .string h, .int .i64 p1, .int .i64 s, .int .i64 d, .int .i64 g, .int .i64 2, .int .i64 0, .int .i64 m3, .int .i64 0] 73)) w.heap.size 0 [.string c, .int .i64 v1, .string h, .int .i64 p1, .int .i64 s, .int .i64 d, .int .i64 g, .int .i64 2, .int .i64 0, .int .i64 m3, .int .i64 0]) := Ex.other Y2.out hx1 (Nat.le_refl _)
   have hx3 := Rd.other hr Y3.out hx1 hne hx2
   exact bodyPost_ret (v := .agg #[.string c, .int .i64 v1, .string h, .int .i64 p1, .int .i64 s, .int .i64 d, .int .i64 g, .int .i64 2, .int .i64 0, .int .i64 m3, .int .i64 0]) (by simp [results, Tryz.results60, go_sem, d0, d1, d2, d3, d4, d5, d6, d7, d8, d9, d10]) rfl ⟨h, v1, p1, s, d, g, 2, 0, m3, 0, rfl, ⟨by omega, by omega⟩, ⟨by omega, by omega⟩, ⟨_, hx3, by omega⟩, hx2, hh, by omega, by omega⟩
  ·
   have hb4 := bl_alloc (Below.refl w4.heap.size w4) (.cells #[.string c, .int .i64 v1, .string h, .int .i64 p1, .int .i64 s, .int .i64 d, .int .i64 g, .int .i64 (1 + m1), .int .i64 m2, .int .i64 m3, .int .i64 0] 73)
   have Y2 : Hid (Ex kr w (w4.alloc (.cells #[.string c, .int .i64 v1, .string h, .int .i64 p1, .int .i64 s, .int .i64 d, .int .i64 g, .int .i64 (1 + m1), .int .i64 m2, .int .i64 m3, .int .i64 0] 73))) := E4'.out.trans (Ex.of_below hb4)
   have Y3 : Hid _ := R4'.out.below hb4
   clear hb4
   go_wp2_with (refine wpList_store_mid (by rfl) 73 _ _ (by rfl) w.heap.size 0 #[.string c, .int .i64 v1, .string h, .int .i64 p1, .int .i64 s, .int .i64 d, .int .i64 g, .int .i64 (1 + m1), .int .i64 m2, .int .i64 m3, .int .i64 0] (by rfl) (by rfl) (by exact World.there_alloc T4'.out _) hinfo (by simp [Value.oneCell']) ?_)
   obtain ⟨d0, d1, d2, d3, d4, d5, d6, d7, d8, d9, d10⟩ := cellsAll (World.rangeAt_setCells_same (w4.alloc (.cells #[.string c, .int .i64 v1, .string h, .int .i64 p1, .int .i64 s, .int .i64 d, .int .i64 g, .int .i64 (1 + m1), .int .i64 m2, .int .i64 m3, .int .i64 0] 73)) w.heap.size 0 [.string c, .int .i64 v1, .string h, .int .i64 p1, .int .i64 s, .int .i64 d, .int .i64 g, .int .i64 (1 + m1), .int .i64 m2, .int .i64 m3, .int .i64 0] (by exact World.there_alloc T4'.out _))
   have hx1 : Ex w.heap.size (w4.alloc (.cells #[.string c, .int .i64 v1, .string h, .int .i64 p1, .int .i64 s, .int .i64 d, .int .i64 g, .int .i64 (1 + m1), .int .i64 m2, .int .i64 m3, .int .i64 0] 73)) (World.setCells (w4.alloc (.cells #[.string c, .int .i64 v1, .string h, .int .i64 p1, .int .i64 s, .int .i64 d, .int .i64 g, .int .i64 (1 + m1), .int .i64 m2, .int .i64 m3, .int .i64 0] 73)) w.heap.size 0 [.string c, .int .i64 v1, .string h, .int .i64 p1, .int .i64 s, .int .i64 d, .int .i64 g, .int .i64 (1 + m1), .int .i64 m2, .int .i64 m3, .int .i64 0]) := (Ex.refl _ _).cells _ _
   have hx2 : Ex kr w (World.setCells (w4.alloc (.cells #[.string c, .int .i64 v1, .string h, .int .i64 p1, .int .i64 s, .int .i64 d, .int .i64 g, .int .i64 (1 + m1), .int .i64 m2, .int .i64 m3, .int .i64 0] 73)) w.heap.size 0 [.string c, .int .i64 v1, .string h, .int .i64 p1, .int .i64 s, .int .i64 d, .int .i64 g, .int .i64 (1 + m1), .int .i64 m2, .int .i64 m3, .int .i64 0]) := Ex.other Y2.out hx1 (Nat.le_refl _)
   have hx3 := Rd.other hr Y3.out hx1 hne hx2
   exact bodyPost_ret (v := .agg #[.string c, .int .i64 v1, .string h, .int .i64 p1, .int .i64 s, .int .i64 d, .int .i64 g, .int .i64 (1 + m1), .int .i64 m2, .int .i64 m3, .int .i64 0]) (by simp [results, Tryz.results60, go_sem, d0, d1, d2, d3, d4, d5, d6, d7, d8, d9, d10]) rfl ⟨h, v1, p1, s, d, g, (1 + m1), m2, m3, 0, rfl, ⟨by omega, by omega⟩, ⟨by omega, by omega⟩, ⟨_, hx3, by omega⟩, hx2, hh, by omega, by omega⟩
end Go.Proofs.YtgakmkhbnjofhaaGreatDoor
