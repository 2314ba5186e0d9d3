import Derived.Test.YtgakmkhbnjofhaaGreatDoorJ14
import Derived.Laws.AppendOwn
import Derived.Laws.OwnMore
namespace Go.Proofs.YtgakmkhbnjofhaaGreatDoor
open Go.RowKit
set_option linter.unusedVariables false
def strL (xs : List ByteArray) : List Value := xs.map Value.string
theorem strL_one (x : ByteArray) : ∀ u ∈ [Value.string x], u.oneCell' = true := by simp [Value.oneCell']
def RowO (base : Nat) (xs : List ByteArray) (w : World) (v : Value) : Prop := ∃ g, v = .slice (some ⟨g, 0, none⟩) 3 3 ∧ g < w.heap.size ∧ w.ownsRow base 9 1 (.slice (some ⟨g, 0, none⟩) 3 3) 3 (strL xs)
theorem ownsS_below {x y : World} {base : Nat} {e : TypeId} {size : Nat} {v : Value} {n : Nat} {xs : List Value} (h : x.ownsRow base e size v n xs) (hb : Below x.heap.size x y) : y.ownsRow base e size v n xs :=
 h.kept (row := none) ⟨hb.os, hb.tape, hb.output, hb.size, fun k hk _ => hb.block k hk⟩ (by cases hv : v.ownBlock <;> simp)
theorem ownsS_ge {x : World} {base : Nat} {e : TypeId} {size : Nat} {v : Value} {n : Nat} {xs : List Value} (h : x.ownsRow base e size v n xs) : ∀ k, v.ownBlock = some k → base ≤ k := fun k hk => (h.lt k hk).1
theorem newS_cells (x : World) (N : Nat) (hN : N = x.heap.size) (arr : Array Value) (t : TypeId) (vs : List Value) (hv : arr.toList = vs) : ∀ j u, vs[j]? = some u → (x.alloc (.cells arr t)).cell? ((⟨N, 0, none⟩ : Addr).add j) = some u := by
 intro j u hj
 subst hN hv
 rw [Addr.add_mid, Nat.zero_add, World.cell?_alloc_new]
 simpa using hj
theorem RowO.keep {base : Nat} {xs : List ByteArray} {w w' : World} {v : Value} (h : RowO base xs w v) (hb : Below w.heap.size w w') : RowO base xs w' v := by
 obtain ⟨g, h1, h2, h3⟩ := h
 exact ⟨g, h1, Nat.lt_of_lt_of_le h2 hb.size, ownsS_below h3 hb⟩
theorem RowO.new (base : Nat) (a b c : ByteArray) (y : World) (hb : base ≤ y.heap.size) : RowO base [a, b, c] (y.alloc (.cells (arrS [a, b, c]) 9)) (.slice (some ⟨y.heap.size, 0, none⟩) 3 3) :=
 ⟨y.heap.size, rfl, by simp, by have := World.ownsRow_lit (base := base) (e := 9) (size := 1) y (arrS [a, b, c]) 3 hb (by unfold maxLen; decide) rfl; exact this⟩
theorem infoS : (Tryz.prog.info? 9).map (fun i => (i.zero, i.size, i.bytes)) = some (some (.string ⟨#[]⟩), 1, 16) := by kernel_rfl
theorem infoS_parts : ∃ i, Tryz.prog.info? 9 = some i ∧ i.zero = some (.string ⟨#[]⟩) ∧ i.size = 1 ∧ i.bytes = 16 := by
 have h := infoS
 cases hh : Tryz.prog.info? 9 with
 | none => rw [hh] at h; cases h
 | some i => rw [hh] at h; simp only [Option.map_some, Option.some.injEq, Prod.mk.injEq] at h; exact ⟨i, rfl, h.1, h.2.1, h.2.2⟩
theorem cells_ownsS {w : World} {base n : Nat} {v : Value} {xs : List ByteArray} (h : w.ownsRow base 9 1 v n (strL xs)) (hn : v ≠ .slice none 0 0) :
  ∃ g cap, v = .slice (some ⟨g, 0, none⟩) n cap ∧ n ≤ cap ∧ g < w.heap.size ∧ ∀ (j : Nat) x, xs[j]? = some x → w.cell? ⟨g, j, none⟩ = some (.string x) := by
 obtain ⟨hl, ⟨rfl, -⟩ | ⟨g, cap, cur, rfl, hb, hg, hnc, hcm, hcs, htk⟩⟩ := h
 ·
  exact absurd rfl hn
 ·
  refine ⟨g, cap, rfl, hnc, (Array.getElem?_eq_some_iff.1 hg).1, ?_⟩
  intro j x hj
  have h1 : (strL xs)[j]? = some (.string x) := by simp [strL, hj]
  rw [← htk, List.getElem?_take] at h1
  split at h1
  ·
   rw [cell_of_row w g _ cur _ (0, 0) hg]
   simpa using h1
  ·
   cases h1
theorem not_noneS {g n c : Nat} : Value.slice (some ⟨g, 0, none⟩) n c ≠ .slice none 0 0 := by intro h; cases h
def slWx : Nat → Nat
 | 0 => 6
 | 1 => 7
 | 2 => 8
 | 3 => 9
 | 4 => 10
 | 5 => 11
 | 6 => 12
 | 7 => 13
 | 8 => 3
 | _ => 0
theorem slWx_inj {i : Nat} (hi : i < 9) : ∀ j, j < 9 → slWx j = slWx i → j = i := by
 have h : ∀ a : _root_.Fin 9, ∀ b : _root_.Fin 9, slWx b.val = slWx a.val → b.val = a.val := by decide
 intro j hj e
 exact h ⟨i, hi⟩ ⟨j, hj⟩ e
theorem slWx_out (k : Nat) (h : (List.range 9).all (fun i => slWx i != k) = true) : ∀ i, i < 9 → slWx i ≠ k := fun i hi e => by
 have h1 := List.all_eq_true.1 h i (List.mem_range.2 hi)
 rw [e] at h1
 simp at h1
theorem slWx_far (j : Nat) (h1 : j ≠ 3) (h2 : j < 6 ∨ 6 + 8 ≤ j) : ∀ i, i < 9 → slWx i ≠ j := by
 have h : ∀ a : _root_.Fin 9, slWx a.val = 3 ∨ (6 ≤ slWx a.val ∧ slWx a.val < 6 + 8) := by decide
 intro i hi e
 have h3 := h ⟨i, hi⟩
 simp only [e] at h3
 omega
def GWx (bm : Nat) (c h : ByteArray) (v1 p1 s1 d1 g1 : Int) (w : World) : Nat → Value → Prop
 | 0, v => v = .pointer (some ⟨bm, 0, none⟩)
 | 1, v => v = .string c
 | 2, v => v = .pointer (some ⟨bm, 1, none⟩)
 | 3, v => v = .int .i64 v1
 | 4, v => v = .string (decT v1)
 | 5, v => v = .pointer (some ⟨bm, 2, none⟩)
 | 6, v => v = .string h
 | 7, v => RowO bm [c, (decT v1), h] w v
 | 8, v => RowO bm [c, (decT v1), h] w v
 | _, _ => True
theorem GWx.keep {bm : Nat} {c h : ByteArray} {v1 p1 s1 d1 g1 : Int} {w w' : World} (hb : Below w.heap.size w w') : ∀ i v, GWx bm c h v1 p1 s1 d1 g1 w i v → GWx bm c h v1 p1 s1 d1 g1 w' i v
 | 0, _, h => h
 | 1, _, h => h
 | 2, _, h => h
 | 3, _, h => h
 | 4, _, h => h
 | 5, _, h => h
 | 6, _, h => h
 | 7, _, h => RowO.keep h hb
 | 8, _, h => RowO.keep h hb
 | _ + 9, _, h => h
set_option maxRecDepth 4000 in
set_option maxHeartbeats 8000000 in
theorem writeWant (r : W.WantD) (w : World) (hr : Writes r) (ht : Tab w) :
  Calls Tryz.prog 23 #[.agg #[.string r.c, .int .i64 r.v, .string r.h, .int .i64 r.p, .int .i64 r.s, .int .i64 r.d, .int .i64 r.g]] w fun e w' => (∃ g cap, e = .returned (.slice (some ⟨g, 0, none⟩) 7 cap) ∧ 7 ≤ cap ∧ g < w'.heap.size ∧ ∀ (j : Nat) x, [r.c, decT r.v, holdT r.h, decT r.p, decT r.s, decT r.d, decT r.g][j]? = some x → w'.cell? ⟨g, j, none⟩ = some (.string x)) ∧ Below w.heap.size w w' := by
 obtain ⟨c, h, v1, p1, s1, d1, g1⟩ := r
 obtain ⟨zc, zh, ⟨v0, v2⟩, ⟨p0, p2⟩, ⟨s0, s2⟩, ⟨d0, d2⟩, ⟨g0, g2⟩⟩ := hr
 simp only at zc zh v0 v2 p0 p2 s0 s2 d0 d2 g0 g2 ⊢
 obtain ⟨i0, hi, hz0, hz1, hz2⟩ := infoS_parts
 obtain ⟨W1, hW1⟩ : ∃ W1, W1 = (w.alloc (.cells #[.string c, .int .i64 v1, .string h, .int .i64 p1, .int .i64 s1, .int .i64 d1, .int .i64 g1] 46)) := ⟨_, rfl⟩
 have HB : Hid (Below w.heap.size w W1) := by rw [hW1]; exact bl_alloc (Below.refl _ _) _
 have HTab : Hid (∀ y, Below w.heap.size w y → Tab y) := fun y hb => ht.keep hb
 have HT1 := HTab
 have HTab : Hid (∀ y, Below W1.heap.size W1 y → Tab y) := fun y hb => (ht.keep HB.out).keep hb
 have KX : Hid (∀ y, Below W1.heap.size W1 y → ∀ k', y.cell? ⟨w.heap.size, k', none⟩ = (#[.string c, .int .i64 v1, .string h, .int .i64 p1, .int .i64 s1, .int .i64 d1, .int .i64 g1] : Array Value)[k']?) := by
  intro y hb k'
  rw [hW1] at hb
  rw [box_keep hb k']
  simp [go_sem]
 have HW1 : Hid (W1 = (w.alloc (.cells #[.string c, .int .i64 v1, .string h, .int .i64 p1, .int .i64 s1, .int .i64 d1, .int .i64 g1] 46))) := hW1
 clear hW1 ht
 go_enter Tryz.func23, Tryz.ntmps23
 go_wp2_with fail
 rw [← HW1.out]
 refine wp_region_any (by kernel_rfl) ?_
 refine reg_invP slWx 9 (GWx w.heap.size c h v1 p1 s1 d1 g1) (fun y => Below W1.heap.size W1 y) (by decide) rfl (bl_drew (Below.refl _ _)) ?donewx ?stepwx
 case donewx =>
  intro a y hI
  obtain ⟨g3, g4, g5, g6⟩ := hI.all 8 (by omega)
  have r3 : a.tmps.getD 3 undef = .slice (some ⟨g3, 0, none⟩) 3 3 := g4
  obtain ⟨l, hl, ha⟩ := frameP_two (lo := 6) (n := 8) (se := 3) hI.df hI.sz (lb rfl) (lb rfl) (fun j hj1 hj2 => hI.out j (fun i hi => slWx_far j hj1 hj2 i hi))
  rw [r3] at ha
  have HO : Hid (y.ownsRow w.heap.size 9 1 (.slice (some ⟨g3, 0, none⟩) 3 3) 3 (strL [c, (decT v1), h])) := g6
  have HD : Hid (Below W1.heap.size W1 y) := hI.d
  clear g6 g4 hI r3
  subst ha
  obtain ⟨q0, l0, rfl, hl0⟩ := lenP_succ hl
  obtain ⟨q1, l1, rfl, hl1⟩ := lenP_succ hl0
  obtain ⟨q2, l2, rfl, hl2⟩ := lenP_succ hl1
  obtain ⟨q3, l3, rfl, hl3⟩ := lenP_succ hl2
  obtain ⟨q4, l4, rfl, hl4⟩ := lenP_succ hl3
  obtain ⟨q5, l5, rfl, hl5⟩ := lenP_succ hl4
  obtain ⟨q6, l6, rfl, hl6⟩ := lenP_succ hl5
  obtain ⟨q7, l7, rfl, hl7⟩ := lenP_succ hl6
  obtain rfl := lenP_zero hl7
  simp only [List.setIfInBounds_toArray, List.set_cons_succ, List.set_cons_zero, List.take_succ_cons, List.take_zero, List.drop_succ_cons, List.drop_zero, List.cons_append, List.nil_append, Nat.reduceAdd]
  have HTab := HT1
  clear HT1
  have k0 := KX.out y HD.out 0
  have k1 := KX.out y HD.out 1
  have k2 := KX.out y HD.out 2
  have k3 := KX.out y HD.out 3
  have k4 := KX.out y HD.out 4
  have k5 := KX.out y HD.out 5
  have k6 := KX.out y HD.out 6
  by_cases hh : h.toList.isEmpty = true
  ·
   have c2 : y.cell? ⟨g3, 2, none⟩ = some (.string h) := by rw [HO.out.cellAt 2 (by decide)]; rfl
   have f2 : y.frozen? ⟨g3, 2, none⟩ = false := HO.out.frozenAt 2
   obtain ⟨yy, hyy⟩ : ∃ yy, yy = y.setCell ⟨g3, 2, none⟩ (.string ⟨#[42]⟩) := ⟨_, rfl⟩
   have U0 := HO.out.stored 2 (.string ⟨#[42]⟩)
   have UU : yy.ownsRow w.heap.size 9 1 (.slice (some ⟨g3, 0, none⟩) 3 3) 3 (strL [c, decT v1, holdT h]) := by
    rw [hyy]
    have := U0.1
    unfold holdT
    rw [if_pos hh]
    exact this
   have BU : Hid (Below w.heap.size w yy) := by
    rw [hyy]
    exact Below.grown (bl_trans HB.out HD.out) U0.2 (Nat.le_trans HB.out.size HD.out.size) (fun k hk => by cases hk; exact ownsS_ge HO.out _ rfl)
   have HYY : Hid (yy = y.setCell ⟨g3, 2, none⟩ (.string ⟨#[42]⟩)) := hyy
   clear hyy U0
   have HU : Hid (yy.ownsRow w.heap.size 9 1 (.slice (some ⟨g3, 0, none⟩) 3 3) 3 (strL [c, decT v1, holdT h])) := UU
   clear UU
   go_wp2_with fail
   rw [← HYY.out]
   go_loopw [3, 28] (fun v i wx => ∃ (k : Nat), k ≤ 4 ∧ i = .int .i64 k ∧ Hid (wx.ownsRow w.heap.size 9 1 v (3 + k) (strL ([c, decT v1, holdT h] ++ [decT p1, decT s1, decT d1, decT g1].take k))) ∧ Hid (v ≠ .slice none 0 0) ∧ Hid (Below w.heap.size w wx)) (fun _ i _ => 4 - (intOf i).toNat)
   case atStart => exact ⟨0, Nat.zero_le _, rfl, HU.out, not_noneS, BU.out⟩
   case round =>
    obtain ⟨k, hk, rfl, Ho, Hn, hB⟩ := hrel
    by_cases hlt : k < 4
    ·
     obtain rfl | rfl | rfl | rfl : k = 0 ∨ k = 1 ∨ k = 2 ∨ k = 3 := by omega
     ·
      have hi0 : ∀ w, Sem.run Tryz.prog (Instr.index 94 (.agg #[.int .i64 p1, .int .i64 s1, .int .i64 d1, .int .i64 g1]) (.int .i64 0)) w = .ok (.int .i64 p1) w := fun _ => by kernel_rfl
      go_wp2_with (first | (at_builtin; refine wpList_append_own _ rfl _ _ 43 rfl w.heap.size 9 i0 _ 1 16 Tryz.underlying43 hi hz0 hz1 hz2 rfl (by decide) _ 3 _ rfl (by exact ownsS_below Ho.out (bl_alloc B1.out _)) ⟨_, 0, none⟩ 1 1 [.string (decT p1)] rfl rfl (newS_cells _ _ (by simp) _ _ _ rfl) (strL_one _) (by unfold maxLen; omega) (by omega) (by have := hB.out.size; have := B1.out.size; simp; omega) ?_; intro v' w2 ho1 hg1 hn1; have O1 : Hid (w2.ownsRow w.heap.size 9 1 v' 4 (strL ([c, decT v1, holdT h] ++ [decT p1, decT s1, decT d1, decT g1].take 1))) := ho1; have N1 : Hid (v' ≠ .slice none 0 0) := fun h => (by have := hn1.1 h; simp at this); have G1 : Hid (World.grownBy _ w2 _) := hg1; clear ho1 hn1 hg1) | (go_at_call 55; refine (implItoa p1 _ (by omega) (by omega) (HTab.out _ hB.out)).mono ?_; rintro e w1 ⟨rfl, hb⟩; have B1 : Hid (Below wr.heap.size wr w1) := hb; clear hb))
      exact ⟨⟨1, by omega, by go_num, O1.out, N1.out, Below.grown (bl_alloc (bl_trans hB.out B1.out) _) G1.out (by have := hB.out.size; have := B1.out.size; simp; omega) (ownsS_ge Ho.out)⟩, by simp [intOf]⟩
     ·
      have hi1 : ∀ w, Sem.run Tryz.prog (Instr.index 94 (.agg #[.int .i64 p1, .int .i64 s1, .int .i64 d1, .int .i64 g1]) (.int .i64 1)) w = .ok (.int .i64 s1) w := fun _ => by kernel_rfl
      go_wp2_with (first | (at_builtin; refine wpList_append_own _ rfl _ _ 43 rfl w.heap.size 9 i0 _ 1 16 Tryz.underlying43 hi hz0 hz1 hz2 rfl (by decide) _ 4 _ rfl (by exact ownsS_below Ho.out (bl_alloc B1.out _)) ⟨_, 0, none⟩ 1 1 [.string (decT s1)] rfl rfl (newS_cells _ _ (by simp) _ _ _ rfl) (strL_one _) (by unfold maxLen; omega) (by omega) (by have := hB.out.size; have := B1.out.size; simp; omega) ?_; intro v' w2 ho1 hg1 hn1; have O1 : Hid (w2.ownsRow w.heap.size 9 1 v' 5 (strL ([c, decT v1, holdT h] ++ [decT p1, decT s1, decT d1, decT g1].take 2))) := ho1; have N1 : Hid (v' ≠ .slice none 0 0) := fun h => (by have := hn1.1 h; simp at this); have G1 : Hid (World.grownBy _ w2 _) := hg1; clear ho1 hn1 hg1) | (go_at_call 55; refine (implItoa s1 _ (by omega) (by omega) (HTab.out _ hB.out)).mono ?_; rintro e w1 ⟨rfl, hb⟩; have B1 : Hid (Below wr.heap.size wr w1) := hb; clear hb))
      exact ⟨⟨2, by omega, by go_num, O1.out, N1.out, Below.grown (bl_alloc (bl_trans hB.out B1.out) _) G1.out (by have := hB.out.size; have := B1.out.size; simp; omega) (ownsS_ge Ho.out)⟩, by simp [intOf]⟩
     ·
      have hi2 : ∀ w, Sem.run Tryz.prog (Instr.index 94 (.agg #[.int .i64 p1, .int .i64 s1, .int .i64 d1, .int .i64 g1]) (.int .i64 2)) w = .ok (.int .i64 d1) w := fun _ => by kernel_rfl
      go_wp2_with (first | (at_builtin; refine wpList_append_own _ rfl _ _ 43 rfl w.heap.size 9 i0 _ 1 16 Tryz.underlying43 hi hz0 hz1 hz2 rfl (by decide) _ 5 _ rfl (by exact ownsS_below Ho.out (bl_alloc B1.out _)) ⟨_, 0, none⟩ 1 1 [.string (decT d1)] rfl rfl (newS_cells _ _ (by simp) _ _ _ rfl) (strL_one _) (by unfold maxLen; omega) (by omega) (by have := hB.out.size; have := B1.out.size; simp; omega) ?_; intro v' w2 ho1 hg1 hn1; have O1 : Hid (w2.ownsRow w.heap.size 9 1 v' 6 (strL ([c, decT v1, holdT h] ++ [decT p1, decT s1, decT d1, decT g1].take 3))) := ho1; have N1 : Hid (v' ≠ .slice none 0 0) := fun h => (by have := hn1.1 h; simp at this); have G1 : Hid (World.grownBy _ w2 _) := hg1; clear ho1 hn1 hg1) | (go_at_call 55; refine (implItoa d1 _ (by omega) (by omega) (HTab.out _ hB.out)).mono ?_; rintro e w1 ⟨rfl, hb⟩; have B1 : Hid (Below wr.heap.size wr w1) := hb; clear hb))
      exact ⟨⟨3, by omega, by go_num, O1.out, N1.out, Below.grown (bl_alloc (bl_trans hB.out B1.out) _) G1.out (by have := hB.out.size; have := B1.out.size; simp; omega) (ownsS_ge Ho.out)⟩, by simp [intOf]⟩
     ·
      have hi3 : ∀ w, Sem.run Tryz.prog (Instr.index 94 (.agg #[.int .i64 p1, .int .i64 s1, .int .i64 d1, .int .i64 g1]) (.int .i64 3)) w = .ok (.int .i64 g1) w := fun _ => by kernel_rfl
      go_wp2_with (first | (at_builtin; refine wpList_append_own _ rfl _ _ 43 rfl w.heap.size 9 i0 _ 1 16 Tryz.underlying43 hi hz0 hz1 hz2 rfl (by decide) _ 6 _ rfl (by exact ownsS_below Ho.out (bl_alloc B1.out _)) ⟨_, 0, none⟩ 1 1 [.string (decT g1)] rfl rfl (newS_cells _ _ (by simp) _ _ _ rfl) (strL_one _) (by unfold maxLen; omega) (by omega) (by have := hB.out.size; have := B1.out.size; simp; omega) ?_; intro v' w2 ho1 hg1 hn1; have O1 : Hid (w2.ownsRow w.heap.size 9 1 v' 7 (strL ([c, decT v1, holdT h] ++ [decT p1, decT s1, decT d1, decT g1].take 4))) := ho1; have N1 : Hid (v' ≠ .slice none 0 0) := fun h => (by have := hn1.1 h; simp at this); have G1 : Hid (World.grownBy _ w2 _) := hg1; clear ho1 hn1 hg1) | (go_at_call 55; refine (implItoa g1 _ (by omega) (by omega) (HTab.out _ hB.out)).mono ?_; rintro e w1 ⟨rfl, hb⟩; have B1 : Hid (Below wr.heap.size wr w1) := hb; clear hb))
      exact ⟨⟨4, by omega, by go_num, O1.out, N1.out, Below.grown (bl_alloc (bl_trans hB.out B1.out) _) G1.out (by have := hB.out.size; have := B1.out.size; simp; omega) (ownsS_ge Ho.out)⟩, by simp [intOf]⟩
    ·
     go_wp2_with fail
     go_ret
     have hk' : k = 4 := by omega
     subst hk'
     obtain ⟨g, cap, e1, e2, e3, e4⟩ := cells_ownsS Ho.out Hn.out
     exact ⟨⟨g, cap, by rw [e1]; rfl, e2, e3, e4⟩, hB.out⟩
  ·
   obtain ⟨yy, hyy⟩ : ∃ yy, yy = y := ⟨_, rfl⟩
   have UU : yy.ownsRow w.heap.size 9 1 (.slice (some ⟨g3, 0, none⟩) 3 3) 3 (strL [c, decT v1, holdT h]) := by
    rw [hyy]
    unfold holdT
    rw [if_neg hh]
    exact HO.out
   have BU : Hid (Below w.heap.size w yy) := by rw [hyy]; exact bl_trans HB.out HD.out
   subst hyy
   have HU : Hid (yy.ownsRow w.heap.size 9 1 (.slice (some ⟨g3, 0, none⟩) 3 3) 3 (strL [c, decT v1, holdT h])) := UU
   clear UU
   go_wp2_with fail
   go_loopw [3, 28] (fun v i wx => ∃ (k : Nat), k ≤ 4 ∧ i = .int .i64 k ∧ Hid (wx.ownsRow w.heap.size 9 1 v (3 + k) (strL ([c, decT v1, holdT h] ++ [decT p1, decT s1, decT d1, decT g1].take k))) ∧ Hid (v ≠ .slice none 0 0) ∧ Hid (Below w.heap.size w wx)) (fun _ i _ => 4 - (intOf i).toNat)
   case atStart => exact ⟨0, Nat.zero_le _, rfl, HU.out, not_noneS, BU.out⟩
   case round =>
    obtain ⟨k, hk, rfl, Ho, Hn, hB⟩ := hrel
    by_cases hlt : k < 4
    ·
     obtain rfl | rfl | rfl | rfl : k = 0 ∨ k = 1 ∨ k = 2 ∨ k = 3 := by omega
     ·
      have hi0 : ∀ w, Sem.run Tryz.prog (Instr.index 94 (.agg #[.int .i64 p1, .int .i64 s1, .int .i64 d1, .int .i64 g1]) (.int .i64 0)) w = .ok (.int .i64 p1) w := fun _ => by kernel_rfl
      go_wp2_with (first | (at_builtin; refine wpList_append_own _ rfl _ _ 43 rfl w.heap.size 9 i0 _ 1 16 Tryz.underlying43 hi hz0 hz1 hz2 rfl (by decide) _ 3 _ rfl (by exact ownsS_below Ho.out (bl_alloc B1.out _)) ⟨_, 0, none⟩ 1 1 [.string (decT p1)] rfl rfl (newS_cells _ _ (by simp) _ _ _ rfl) (strL_one _) (by unfold maxLen; omega) (by omega) (by have := hB.out.size; have := B1.out.size; simp; omega) ?_; intro v' w2 ho1 hg1 hn1; have O1 : Hid (w2.ownsRow w.heap.size 9 1 v' 4 (strL ([c, decT v1, holdT h] ++ [decT p1, decT s1, decT d1, decT g1].take 1))) := ho1; have N1 : Hid (v' ≠ .slice none 0 0) := fun h => (by have := hn1.1 h; simp at this); have G1 : Hid (World.grownBy _ w2 _) := hg1; clear ho1 hn1 hg1) | (go_at_call 55; refine (implItoa p1 _ (by omega) (by omega) (HTab.out _ hB.out)).mono ?_; rintro e w1 ⟨rfl, hb⟩; have B1 : Hid (Below wr.heap.size wr w1) := hb; clear hb))
      exact ⟨⟨1, by omega, by go_num, O1.out, N1.out, Below.grown (bl_alloc (bl_trans hB.out B1.out) _) G1.out (by have := hB.out.size; have := B1.out.size; simp; omega) (ownsS_ge Ho.out)⟩, by simp [intOf]⟩
     ·
      have hi1 : ∀ w, Sem.run Tryz.prog (Instr.index 94 (.agg #[.int .i64 p1, .int .i64 s1, .int .i64 d1, .int .i64 g1]) (.int .i64 1)) w = .ok (.int .i64 s1) w := fun _ => by kernel_rfl
      go_wp2_with (first | (at_builtin; refine wpList_append_own _ rfl _ _ 43 rfl w.heap.size 9 i0 _ 1 16 Tryz.underlying43 hi hz0 hz1 hz2 rfl (by decide) _ 4 _ rfl (by exact ownsS_below Ho.out (bl_alloc B1.out _)) ⟨_, 0, none⟩ 1 1 [.string (decT s1)] rfl rfl (newS_cells _ _ (by simp) _ _ _ rfl) (strL_one _) (by unfold maxLen; omega) (by omega) (by have := hB.out.size; have := B1.out.size; simp; omega) ?_; intro v' w2 ho1 hg1 hn1; have O1 : Hid (w2.ownsRow w.heap.size 9 1 v' 5 (strL ([c, decT v1, holdT h] ++ [decT p1, decT s1, decT d1, decT g1].take 2))) := ho1; have N1 : Hid (v' ≠ .slice none 0 0) := fun h => (by have := hn1.1 h; simp at this); have G1 : Hid (World.grownBy _ w2 _) := hg1; clear ho1 hn1 hg1) | (go_at_call 55; refine (implItoa s1 _ (by omega) (by omega) (HTab.out _ hB.out)).mono ?_; rintro e w1 ⟨rfl, hb⟩; have B1 : Hid (Below wr.heap.size wr w1) := hb; clear hb))
      exact ⟨⟨2, by omega, by go_num, O1.out, N1.out, Below.grown (bl_alloc (bl_trans hB.out B1.out) _) G1.out (by have := hB.out.size; have := B1.out.size; simp; omega) (ownsS_ge Ho.out)⟩, by simp [intOf]⟩
     ·
      have hi2 : ∀ w, Sem.run Tryz.prog (Instr.index 94 (.agg #[.int .i64 p1, .int .i64 s1, .int .i64 d1, .int .i64 g1]) (.int .i64 2)) w = .ok (.int .i64 d1) w := fun _ => by kernel_rfl
      go_wp2_with (first | (at_builtin; refine wpList_append_own _ rfl _ _ 43 rfl w.heap.size 9 i0 _ 1 16 Tryz.underlying43 hi hz0 hz1 hz2 rfl (by decide) _ 5 _ rfl (by exact ownsS_below Ho.out (bl_alloc B1.out _)) ⟨_, 0, none⟩ 1 1 [.string (decT d1)] rfl rfl (newS_cells _ _ (by simp) _ _ _ rfl) (strL_one _) (by unfold maxLen; omega) (by omega) (by have := hB.out.size; have := B1.out.size; simp; omega) ?_; intro v' w2 ho1 hg1 hn1; have O1 : Hid (w2.ownsRow w.heap.size 9 1 v' 6 (strL ([c, decT v1, holdT h] ++ [decT p1, decT s1, decT d1, decT g1].take 3))) := ho1; have N1 : Hid (v' ≠ .slice none 0 0) := fun h => (by have := hn1.1 h; simp at this); have G1 : Hid (World.grownBy _ w2 _) := hg1; clear ho1 hn1 hg1) | (go_at_call 55; refine (implItoa d1 _ (by omega) (by omega) (HTab.out _ hB.out)).mono ?_; rintro e w1 ⟨rfl, hb⟩; have B1 : Hid (Below wr.heap.size wr w1) := hb; clear hb))
      exact ⟨⟨3, by omega, by go_num, O1.out, N1.out, Below.grown (bl_alloc (bl_trans hB.out B1.out) _) G1.out (by have := hB.out.size; have := B1.out.size; simp; omega) (ownsS_ge Ho.out)⟩, by simp [intOf]⟩
     ·
      have hi3 : ∀ w, Sem.run Tryz.prog (Instr.index 94 (.agg #[.int .i64 p1, .int .i64 s1, .int .i64 d1, .int .i64 g1]) (.int .i64 3)) w = .ok (.int .i64 g1) w := fun _ => by kernel_rfl
      go_wp2_with (first | (at_builtin; refine wpList_append_own _ rfl _ _ 43 rfl w.heap.size 9 i0 _ 1 16 Tryz.underlying43 hi hz0 hz1 hz2 rfl (by decide) _ 6 _ rfl (by exact ownsS_below Ho.out (bl_alloc B1.out _)) ⟨_, 0, none⟩ 1 1 [.string (decT g1)] rfl rfl (newS_cells _ _ (by simp) _ _ _ rfl) (strL_one _) (by unfold maxLen; omega) (by omega) (by have := hB.out.size; have := B1.out.size; simp; omega) ?_; intro v' w2 ho1 hg1 hn1; have O1 : Hid (w2.ownsRow w.heap.size 9 1 v' 7 (strL ([c, decT v1, holdT h] ++ [decT p1, decT s1, decT d1, decT g1].take 4))) := ho1; have N1 : Hid (v' ≠ .slice none 0 0) := fun h => (by have := hn1.1 h; simp at this); have G1 : Hid (World.grownBy _ w2 _) := hg1; clear ho1 hn1 hg1) | (go_at_call 55; refine (implItoa g1 _ (by omega) (by omega) (HTab.out _ hB.out)).mono ?_; rintro e w1 ⟨rfl, hb⟩; have B1 : Hid (Below wr.heap.size wr w1) := hb; clear hb))
      exact ⟨⟨4, by omega, by go_num, O1.out, N1.out, Below.grown (bl_alloc (bl_trans hB.out B1.out) _) G1.out (by have := hB.out.size; have := B1.out.size; simp; omega) (ownsS_ge Ho.out)⟩, by simp [intOf]⟩
    ·
     go_wp2_with fail
     go_ret
     have hk' : k = 4 := by omega
     subst hk'
     obtain ⟨g, cap, e1, e2, e3, e4⟩ := cells_ownsS Ho.out Hn.out
     exact ⟨⟨g, cap, by rw [e1]; rfl, e2, e3, e4⟩, hB.out⟩
 case stepwx =>
  intro listed x y i hI hi hlt
  obtain rfl | rfl | rfl | rfl | rfl | rfl | rfl | rfl | rfl : i = 0 ∨ i = 1 ∨ i = 2 ∨ i = 3 ∨ i = 4 ∨ i = 5 ∨ i = 6 ∨ i = 7 ∨ i = 8 := by omega
  ·
   clear hi
   refine wpOp_plain rfl rfl (wp_cover fun K hK => ?_)
   have i1 : x.tmps[1]?.getD undef = _ := ev_tmp (hI.out 1 (slWx_out 1 (by decide)))
   have HJ := hidP hI
   clear hI
   go_simp
   exact HJ.out.sm hK (by omega) (lb rfl) (slWx_inj (by omega)) rfl
  ·
   have gd0 := hI.good 0 (by omega) (waits_of hi (j := 0) (by rfl))
   clear hi
   refine wpOp_plain rfl rfl (wp_cover fun K hK => ?_)
   have ed0 : x.tmps[6]?.getD undef = _ := ev_tmp gd0
   have k9 : y.cell? ⟨w.heap.size, 0, none⟩ = some (.string c) := KX.out y hI.d 0
   have HJ := hidP hI
   clear hI gd0
   go_simp
   exact HJ.out.sm hK (by omega) (lb rfl) (slWx_inj (by omega)) rfl
  ·
   clear hi
   refine wpOp_plain rfl rfl (wp_cover fun K hK => ?_)
   have i1 : x.tmps[1]?.getD undef = _ := ev_tmp (hI.out 1 (slWx_out 1 (by decide)))
   have HJ := hidP hI
   clear hI
   go_simp
   exact HJ.out.sm hK (by omega) (lb rfl) (slWx_inj (by omega)) rfl
  ·
   have gd2 := hI.good 2 (by omega) (waits_of hi (j := 2) (by rfl))
   clear hi
   refine wpOp_plain rfl rfl (wp_cover fun K hK => ?_)
   have ed2 : x.tmps[8]?.getD undef = _ := ev_tmp gd2
   have k9 : y.cell? ⟨w.heap.size, 1, none⟩ = some (.int .i64 v1) := KX.out y hI.d 1
   have HJ := hidP hI
   clear hI gd2
   go_simp
   exact HJ.out.sm hK (by omega) (lb rfl) (slWx_inj (by omega)) rfl
  ·
   have gd3 := hI.good 3 (by omega) (waits_of hi (j := 3) (by rfl))
   clear hi
   refine wpOp_plain rfl rfl (wp_cover fun K hK => ?_)
   have ed3 : x.tmps[9]?.getD undef = _ := ev_tmp gd3
   have HJ := hidP hI
   clear hI gd3
   go_simp
   refine (implItoa v1 y (by omega) (by omega) (HTab.out y HJ.out.d)).mono ?_
   rintro e y' ⟨rfl, hb⟩
   exact hK.out _ _ (HJ.out.put (by omega) (lb rfl) (slWx_inj (by omega)) (rfl) (fun j u _ h => GWx.keep hb j u h) (bl_trans HJ.out.d hb))
  ·
   clear hi
   refine wpOp_plain rfl rfl (wp_cover fun K hK => ?_)
   have i1 : x.tmps[1]?.getD undef = _ := ev_tmp (hI.out 1 (slWx_out 1 (by decide)))
   have HJ := hidP hI
   clear hI
   go_simp
   exact HJ.out.sm hK (by omega) (lb rfl) (slWx_inj (by omega)) rfl
  ·
   have gd5 := hI.good 5 (by omega) (waits_of hi (j := 5) (by rfl))
   clear hi
   refine wpOp_plain rfl rfl (wp_cover fun K hK => ?_)
   have ed5 : x.tmps[11]?.getD undef = _ := ev_tmp gd5
   have k9 : y.cell? ⟨w.heap.size, 2, none⟩ = some (.string h) := KX.out y hI.d 2
   have HJ := hidP hI
   clear hI gd5
   go_simp
   exact HJ.out.sm hK (by omega) (lb rfl) (slWx_inj (by omega)) rfl
  ·
   have gd1 := hI.good 1 (by omega) (waits_of hi (j := 1) (by rfl))
   have gd4 := hI.good 4 (by omega) (waits_of hi (j := 4) (by rfl))
   have gd6 := hI.good 6 (by omega) (waits_of hi (j := 6) (by rfl))
   clear hi
   refine wpOp_plain rfl rfl (wp_cover fun K hK => ?_)
   have ed1 : x.tmps[7]?.getD undef = _ := ev_tmp gd1
   have ed4 : x.tmps[10]?.getD undef = _ := ev_tmp gd4
   have ed6 : x.tmps[12]?.getD undef = _ := ev_tmp gd6
   have hbb := bldS3 (c) ((decT v1)) (h)
   have HJ := hidP hI
   clear hI gd1 gd4 gd6
   go_simp
   have hb : Below y.heap.size y (y.alloc (.cells (arrS [c, (decT v1), h]) 9)) := bl_alloc (Below.refl _ _) _
   exact hK.out _ _ (HJ.out.put (by omega) (lb rfl) (slWx_inj (by omega)) (RowO.new _ _ _ _ y (Nat.le_trans HB.out.size HJ.out.d.size)) (fun j u _ h => GWx.keep hb j u h) (bl_trans HJ.out.d hb))
  ·
   have gd7 := hI.good 7 (by omega) (waits_of hi (j := 7) (by rfl))
   clear hi
   refine wpOp_plain rfl rfl (wp_cover fun K hK => ?_)
   obtain ⟨g3, g4, g5, g6⟩ := gd7
   have ed7 : x.tmps[13]?.getD undef = _ := ev_tmp g4
   clear g4
   have G6 : Hid (y.ownsRow w.heap.size 9 1 (.slice (some ⟨g3, 0, none⟩) 3 3) 3 (strL [c, (decT v1), h])) := g6
   clear g6
   have HJ := hidP hI
   clear hI
   go_simp
   exact hK.out _ _ (HJ.out.put (by omega) (lb rfl) (slWx_inj (by omega)) (⟨g3, rfl, g5, G6.out⟩) (fun j u _ h => h) HJ.out.d)
end Go.Proofs.YtgakmkhbnjofhaaGreatDoor
