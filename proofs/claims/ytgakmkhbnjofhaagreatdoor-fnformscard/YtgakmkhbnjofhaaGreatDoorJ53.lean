import Derived.Test.YtgakmkhbnjofhaaGreatDoorJ52
/- Both ways: Runs are drawn. -/
namespace Go.Proofs.YtgakmkhbnjofhaaGreatDoor
open Go.RowKit
set_option linter.unusedVariables false

set_option maxRecDepth 4000 in
set_option maxHeartbeats 4000000 in
theorem runsT (kr : Nat) (q clock : Int) (w : World) (hr : Rq w kr q) (hq : q < 600000) (k0 : 0 ≤ clock) (k1 : clock ≤ 100000) :
    Calls Tryz.prog 37 #[.pointer (some ⟨kr, 0, none⟩), .int .i64 clock, .bool true] w fun e w' => ∃ rs v, e = .returned v ∧ w'.ownsRow w.heap.size 73 11 v rs.length (flatR rs) ∧ rs.length ≤ 4 ∧ (∀ x ∈ rs, Small x) ∧ (rs = [] → ∃ b c, v = .slice (some ⟨b, 0, none⟩) 0 c) ∧ Rq w' kr (q + 500) ∧ Ex kr w w' := by
  obtain ⟨i0, hi, hz0, hz1, hz2⟩ := info_parts infoR
  have hkr := hr.lt
  have nbr := build0r
  have HR : Hid (Rq w kr q) := hr
  clear hr
  go_enter Tryz.func37, Tryz.ntmps37
  go_wp2_with fail
  go_loopw [7, 8] (fun v i wx => ∃ (k : Nat) (rs : List RunD), k ≤ 4 ∧ i = .int .i64 k ∧ rs.length ≤ k ∧ Hid (∀ x ∈ rs, Small x) ∧ Hid (rs = [] → ∃ b c, v = .slice (some ⟨b, 0, none⟩) 0 c) ∧ Hid (wx.ownsRow w.heap.size 73 11 v rs.length (flatR rs)) ∧ Hid (Rq wx kr (q + 101 * k)) ∧ Hid (Ex kr w wx)) (fun _ i _ => 4 - (intOf i).toNat)
  case atStart => exact ⟨0, [], by omega, rfl, Nat.le_refl _, (fun x hx => by cases hx), (fun _ => ⟨_, _, rfl⟩), own_made0 _ _ _, (HR.out.below (bl_alloc (Below.refl _ _) (.cells #[] 73))).up (by omega), Ex.of_below (bl_alloc (Below.refl _ _) _)⟩
  case round =>
    obtain ⟨k, rs, hk, rfl, hws, HF, HN, HO, HQ, HE⟩ := hrel
    by_cases hlt : k < 4
    · go_wp2_with fail
      refine (pickQ kr _ 2 _ HQ.out (by omega) (by omega) (by omega)).mono ?_
      rintro e w1 ⟨m, rfl, m0, m1, r1, e1⟩
      have O1 : Hid (w1.ownsRow w.heap.size 73 11 u7 rs.length (flatR rs)) := ownsE2 HO.out e1 hkr
      have E1 : Hid (Ex kr w w1) := HE.out.trans e1
      have R1 : Hid (Rq w1 kr (q + 101 * k + 1)) := r1
      clear HO HE HQ r1 e1
      by_cases hm : m = 0
      · subst hm
        go_wp2_with fail
        refine (dec_small k (by omega) (by omega) _).mono ?_
        rintro e w2 ⟨x, rfl, hx, b2⟩
        have R2 : Hid (Rq w2 kr (q + 101 * k + 1)) := R1.out.below b2
        have E2 : Hid (Ex kr w w2) := E1.out.then_below b2
        have O2 : Hid (w2.ownsRow w.heap.size 73 11 u7 rs.length (flatR rs)) := owns_below O1.out b2
        clear b2 R1 E1 O1
        go_wp2_with fail
        refine (drawRunQ kr _ clock _ _ R2.out (by omega) k0 k1).mono ?_
        rintro e w3 ⟨h, v1, p1, s, d, g, st, lf, fl, un, rfl, ⟨lf0, lf1⟩, ⟨fl0, fl1⟩, hh, ⟨un0, un1⟩, r3, e3⟩
        have O3 : Hid (w3.ownsRow w.heap.size 73 11 u7 rs.length (flatR rs)) := ownsE2 O2.out e3 hkr
        have E3 : Hid (Ex kr w w3) := E2.out.trans e3
        have R3 : Hid (Rq w3 kr (q + 101 * k + 1 + 100)) := r3
        have hxs : ({ data := #[99] } ++ x).size ≤ maxLen := by rw [size_front, hx]; unfold maxLen; omega
        have hhs : h.size ≤ maxLen := by unfold maxLen; omega
        have hz3 : w.heap.size ≤ w3.heap.size := E3.out.size
        clear r3 e3 O2 E2 R2
        go_wp2_with fail
        refine (specRunOk_any _ h v1 p1 s d g st lf fl un clock _ hxs hhs).mono ?_
        rintro e w4 ⟨rfl, b4⟩
        have kb := box_keep b4
        have kf : ∀ j, w4.frozen? ⟨w3.heap.size, j, none⟩ = false := fun j => by rw [b4.frozen (p := ⟨w3.heap.size, j, none⟩) (by simp)]; simp [go_sem]
        have Bz : Hid (Below w3.heap.size w3 w4) := bl_trans (bl_alloc (Below.refl _ _) _) b4
        have hz4 : w3.heap.size < w4.heap.size := Nat.lt_of_lt_of_le (by simp) b4.size
        clear b4
        cases hB : runB ({ data := #[99] } ++ x) h v1 p1 s d g st lf fl un clock
        · go_wp2_with (at_builtin; refine wpList_append_own _ rfl _ _ 33 rfl w.heap.size 73 i0 _ 11 104 Tryz.underlying33 hi hz0 hz1 hz2 rfl (by decide) u7 rs.length _ rfl (by exact owns_below O3.out (bl_alloc (bl_set2 (bl_set2 Bz.out w3.heap.size 7 (.int .i64 2) (Nat.le_refl _)) w3.heap.size 8 (.int .i64 0) (Nat.le_refl _)) _)) ⟨_, 0, none⟩ 1 1 (⟨{ data := #[99] } ++ x, h, v1, p1, s, d, g, 2, 0, fl, un⟩ : RunD).cells rfl rfl (new_cells _ _ (by simp) _ _ _ rfl) (cellsR_one (⟨{ data := #[99] } ++ x, h, v1, p1, s, d, g, 2, 0, fl, un⟩ : RunD)) (by unfold maxLen; omega) (by omega) (by have := (bl_alloc (bl_set2 (bl_set2 Bz.out w3.heap.size 7 (.int .i64 2) (Nat.le_refl _)) w3.heap.size 8 (.int .i64 0) (Nat.le_refl _)) (.cells #[] 73)).size; simp at this ⊢; omega) ?_; intro v' w5 ho hg hn)
          refine ⟨⟨k + 1, rs ++ [(⟨{ data := #[99] } ++ x, h, v1, p1, s, d, g, 2, 0, fl, un⟩ : RunD)], by omega, by go_num, by simp; omega, small_snoc HF.out (small_mk hxs hhs ⟨by omega, by omega⟩ ⟨by omega, by omega⟩ ⟨by omega, by omega⟩), (fun e => absurd e (by simp)), ?_, ((R3.out.below (bl_alloc (bl_set2 (bl_set2 Bz.out w3.heap.size 7 (.int .i64 2) (Nat.le_refl _)) w3.heap.size 8 (.int .i64 0) (Nat.le_refl _)) _)).grown hg (fun j hj => Nat.lt_of_lt_of_le hkr (owns_ge O3.out j hj))).up (by omega), (E3.out.then_below (bl_alloc (bl_set2 (bl_set2 Bz.out w3.heap.size 7 (.int .i64 2) (Nat.le_refl _)) w3.heap.size 8 (.int .i64 0) (Nat.le_refl _)) _)).grown hg (fun j hj => owns_ge O3.out j hj)⟩, by simp [intOf]; omega⟩
          show w5.ownsRow _ _ _ _ (rs ++ [(⟨{ data := #[99] } ++ x, h, v1, p1, s, d, g, 2, 0, fl, un⟩ : RunD)]).length _
          rw [List.length_append, flatR_append]
          simpa [flatR] using ho
        · go_wp2_with (at_builtin; refine wpList_append_own _ rfl _ _ 33 rfl w.heap.size 73 i0 _ 11 104 Tryz.underlying33 hi hz0 hz1 hz2 rfl (by decide) u7 rs.length _ rfl (by exact owns_below O3.out (bl_alloc Bz.out _)) ⟨_, 0, none⟩ 1 1 (⟨{ data := #[99] } ++ x, h, v1, p1, s, d, g, st, lf, fl, un⟩ : RunD).cells rfl rfl (new_cells _ _ (by simp) _ _ _ rfl) (cellsR_one (⟨{ data := #[99] } ++ x, h, v1, p1, s, d, g, st, lf, fl, un⟩ : RunD)) (by unfold maxLen; omega) (by omega) (by have := (bl_alloc Bz.out (.cells #[] 73)).size; simp at this ⊢; omega) ?_; intro v' w5 ho hg hn)
          refine ⟨⟨k + 1, rs ++ [(⟨{ data := #[99] } ++ x, h, v1, p1, s, d, g, st, lf, fl, un⟩ : RunD)], by omega, by go_num, by simp; omega, small_snoc HF.out (small_mk hxs hhs ⟨by omega, by omega⟩ ⟨by omega, by omega⟩ ⟨by omega, by omega⟩), (fun e => absurd e (by simp)), ?_, ((R3.out.below (bl_alloc Bz.out _)).grown hg (fun j hj => Nat.lt_of_lt_of_le hkr (owns_ge O3.out j hj))).up (by omega), (E3.out.then_below (bl_alloc Bz.out _)).grown hg (fun j hj => owns_ge O3.out j hj)⟩, by simp [intOf]; omega⟩
          show w5.ownsRow _ _ _ _ (rs ++ [(⟨{ data := #[99] } ++ x, h, v1, p1, s, d, g, st, lf, fl, un⟩ : RunD)]).length _
          rw [List.length_append, flatR_append]
          simpa [flatR] using ho
      · go_wp2
        exact ⟨⟨k + 1, rs, by omega, by go_num, by omega, HF.out, HN.out, O1.out, R1.out.up (by omega), E1.out⟩, by simp [intOf]; omega⟩
    · go_wp2
      go_ret
      have hk4 : k = 4 := by omega
      subst hk4
      exact ⟨rs, _, rfl, HO.out, by omega, HF.out, HN.out, HQ.out.up (by omega), HE.out⟩
set_option maxRecDepth 4000 in
set_option maxHeartbeats 4000000 in
theorem runsF (kr : Nat) (q clock : Int) (w : World) (hr : Rq w kr q) (hq : q < 600000) (k0 : 0 ≤ clock) (k1 : clock ≤ 100000) :
    Calls Tryz.prog 37 #[.pointer (some ⟨kr, 0, none⟩), .int .i64 clock, .bool false] w fun e w' => ∃ rs v, e = .returned v ∧ w'.ownsRow w.heap.size 73 11 v rs.length (flatR rs) ∧ rs.length ≤ 4 ∧ (∀ x ∈ rs, Small x) ∧ (rs = [] → ∃ b c, v = .slice (some ⟨b, 0, none⟩) 0 c) ∧ Rq w' kr (q + 500) ∧ Ex kr w w' := by
  obtain ⟨i0, hi, hz0, hz1, hz2⟩ := info_parts infoR
  have hkr := hr.lt
  have nbr := build0r
  have HR : Hid (Rq w kr q) := hr
  clear hr
  go_enter Tryz.func37, Tryz.ntmps37
  go_wp2_with fail
  go_loopw [7, 8] (fun v i wx => ∃ (k : Nat) (rs : List RunD), k ≤ 4 ∧ i = .int .i64 k ∧ rs.length ≤ k ∧ Hid (∀ x ∈ rs, Small x) ∧ Hid (rs = [] → ∃ b c, v = .slice (some ⟨b, 0, none⟩) 0 c) ∧ Hid (wx.ownsRow w.heap.size 73 11 v rs.length (flatR rs)) ∧ Hid (Rq wx kr (q + 101 * k)) ∧ Hid (Ex kr w wx)) (fun _ i _ => 4 - (intOf i).toNat)
  case atStart => exact ⟨0, [], by omega, rfl, Nat.le_refl _, (fun x hx => by cases hx), (fun _ => ⟨_, _, rfl⟩), own_made0 _ _ _, (HR.out.below (bl_alloc (Below.refl _ _) (.cells #[] 73))).up (by omega), Ex.of_below (bl_alloc (Below.refl _ _) _)⟩
  case round =>
    obtain ⟨k, rs, hk, rfl, hws, HF, HN, HO, HQ, HE⟩ := hrel
    by_cases hlt : k < 4
    · go_wp2_with fail
      refine (pickQ kr _ 2 _ HQ.out (by omega) (by omega) (by omega)).mono ?_
      rintro e w1 ⟨m, rfl, m0, m1, r1, e1⟩
      have O1 : Hid (w1.ownsRow w.heap.size 73 11 u7 rs.length (flatR rs)) := ownsE2 HO.out e1 hkr
      have E1 : Hid (Ex kr w w1) := HE.out.trans e1
      have R1 : Hid (Rq w1 kr (q + 101 * k + 1)) := r1
      clear HO HE HQ r1 e1
      by_cases hm : m = 0
      · subst hm
        go_wp2_with fail
        refine (dec_small k (by omega) (by omega) _).mono ?_
        rintro e w2 ⟨x, rfl, hx, b2⟩
        have R2 : Hid (Rq w2 kr (q + 101 * k + 1)) := R1.out.below b2
        have E2 : Hid (Ex kr w w2) := E1.out.then_below b2
        have O2 : Hid (w2.ownsRow w.heap.size 73 11 u7 rs.length (flatR rs)) := owns_below O1.out b2
        clear b2 R1 E1 O1
        go_wp2_with fail
        refine (drawRunQ kr _ clock _ _ R2.out (by omega) k0 k1).mono ?_
        rintro e w3 ⟨h, v1, p1, s, d, g, st, lf, fl, un, rfl, ⟨lf0, lf1⟩, ⟨fl0, fl1⟩, hh, ⟨un0, un1⟩, r3, e3⟩
        have O3 : Hid (w3.ownsRow w.heap.size 73 11 u7 rs.length (flatR rs)) := ownsE2 O2.out e3 hkr
        have E3 : Hid (Ex kr w w3) := E2.out.trans e3
        have R3 : Hid (Rq w3 kr (q + 101 * k + 1 + 100)) := r3
        have hxs : ({ data := #[99] } ++ x).size ≤ maxLen := by rw [size_front, hx]; unfold maxLen; omega
        have hhs : h.size ≤ maxLen := by unfold maxLen; omega
        have hz3 : w.heap.size ≤ w3.heap.size := E3.out.size
        clear r3 e3 O2 E2 R2
        have Bz : Hid (Below w3.heap.size w3 (w3.alloc (.cells #[.string ({ data := #[99] } ++ x), .int .i64 v1, .string h, .int .i64 p1, .int .i64 s, .int .i64 d, .int .i64 g, .int .i64 st, .int .i64 lf, .int .i64 fl, .int .i64 un] 73))) := bl_alloc (Below.refl _ _) _
        go_wp2_with (at_builtin; refine wpList_append_own _ rfl _ _ 33 rfl w.heap.size 73 i0 _ 11 104 Tryz.underlying33 hi hz0 hz1 hz2 rfl (by decide) u7 rs.length _ rfl (by exact owns_below O3.out (bl_alloc Bz.out _)) ⟨_, 0, none⟩ 1 1 (⟨{ data := #[99] } ++ x, h, v1, p1, s, d, g, st, lf, fl, un⟩ : RunD).cells rfl rfl (new_cells _ _ (by simp) _ _ _ rfl) (cellsR_one (⟨{ data := #[99] } ++ x, h, v1, p1, s, d, g, st, lf, fl, un⟩ : RunD)) (by unfold maxLen; omega) (by omega) (by have := (bl_alloc Bz.out (.cells #[] 73)).size; simp at this ⊢; omega) ?_; intro v' w5 ho hg hn)
        refine ⟨⟨k + 1, rs ++ [(⟨{ data := #[99] } ++ x, h, v1, p1, s, d, g, st, lf, fl, un⟩ : RunD)], by omega, by go_num, by simp; omega, small_snoc HF.out (small_mk hxs hhs ⟨by omega, by omega⟩ ⟨by omega, by omega⟩ ⟨by omega, by omega⟩), (fun e => absurd e (by simp)), ?_, ((R3.out.below (bl_alloc Bz.out _)).grown hg (fun j hj => Nat.lt_of_lt_of_le hkr (owns_ge O3.out j hj))).up (by omega), (E3.out.then_below (bl_alloc Bz.out _)).grown hg (fun j hj => owns_ge O3.out j hj)⟩, by simp [intOf]; omega⟩
        show w5.ownsRow _ _ _ _ (rs ++ [(⟨{ data := #[99] } ++ x, h, v1, p1, s, d, g, st, lf, fl, un⟩ : RunD)]).length _
        rw [List.length_append, flatR_append]
        simpa [flatR] using ho
      · go_wp2
        exact ⟨⟨k + 1, rs, by omega, by go_num, by omega, HF.out, HN.out, O1.out, R1.out.up (by omega), E1.out⟩, by simp [intOf]; omega⟩
    · go_wp2
      go_ret
      have hk4 : k = 4 := by omega
      subst hk4
      exact ⟨rs, _, rfl, HO.out, by omega, HF.out, HN.out, HQ.out.up (by omega), HE.out⟩
end Go.Proofs.YtgakmkhbnjofhaaGreatDoor
