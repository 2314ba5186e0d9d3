import Derived.Test.YtgakmkhbnjofhaaGreatDoorJ26
/- MateForm: the specification, where there are no wants. -/
namespace Go.Proofs.YtgakmkhbnjofhaaGreatDoor
open Go.RowKit
set_option linter.unusedVariables false
set_option linter.unusedSimpArgs false

set_option maxRecDepth 4000 in
set_option maxHeartbeats 4000000 in
theorem specN6 (b : ByteArray) (se : Int) (h c : ByteArray) (t : Int) (A : Option Addr) (cp : Nat) (w : World) (hP : ParSz ⟨6, b, se, [], h, c, t⟩) (hb : nameB b = true) :
    Calls Tryz.prog 7 #[.agg #[.int .i64 (6), .string b, .int .i64 se, .slice A 0 cp, .string h, .string c, .int .i64 t]] w fun e w' => e = .returned (.string (formT ⟨6, b, se, [], h, c, t⟩)) ∧ Below w.heap.size w w' := by
  have HP0 : Hid (ParSz ⟨6, b, se, [], h, c, t⟩) := hP
  have zb : b.size ≤ maxLen := Nat.le_trans hP.b (by unfold maxLen; decide)
  have zh : h.size ≤ maxLen := Nat.le_trans hP.h (by unfold maxLen; decide)
  have zc : c.size ≤ maxLen := Nat.le_trans hP.c (by unfold maxLen; decide)
  clear hP
  have hl : ¬ 0 < ([] : List W.WantD).length := by simp
  cases hi : inB se 0 1000000
  · have e0 : formT ⟨6, b, se, [], h, c, t⟩ = { data := #[] } := by simp [formT, hb, hl, hi]
    have HE0 : Hid (formT ⟨6, b, se, [], h, c, t⟩ = { data := #[] }) := e0
    clear e0
    go_enter Tryz.func7, Tryz.ntmps7
    go_wp2_with (first | (go_at_call 25; refine (specName_any _ _ (by assumption)).mono ?_; rintro e w' ⟨rfl, rfl⟩; first | rw [hb] | rw [hn] | skip) | (go_at_call 26; refine (specHold_any h _ zh).mono ?_; rintro e w' ⟨rfl, rfl⟩; first | rw [hq] | rw [hh] | skip) | (go_at_call 27; refine (specIn_any _ _ _ _).mono ?_; rintro e w' ⟨rfl, rfl⟩; try rw [ht]; try rw [hi]))
    all_goals (go_ret; exact ⟨by rw [HE0.out]; rfl, bl_alloc (Below.refl _ _) _⟩)
  · cases hh : h.toList.isEmpty
    · have e0 : formT ⟨6, b, se, [], h, c, t⟩ = { data := #[] } := by simp [formT, hb, hl, hi, hh]
      have HE0 : Hid (formT ⟨6, b, se, [], h, c, t⟩ = { data := #[] }) := e0
      clear e0
      go_enter Tryz.func7, Tryz.ntmps7
      go_wp2_with (first | (go_at_call 25; refine (specName_any _ _ (by assumption)).mono ?_; rintro e w' ⟨rfl, rfl⟩; first | rw [hb] | rw [hn] | skip) | (go_at_call 26; refine (specHold_any h _ zh).mono ?_; rintro e w' ⟨rfl, rfl⟩; first | rw [hq] | rw [hh] | skip) | (go_at_call 27; refine (specIn_any _ _ _ _).mono ?_; rintro e w' ⟨rfl, rfl⟩; try rw [ht]; try rw [hi]))
      all_goals (go_ret; exact ⟨by rw [HE0.out]; rfl, bl_alloc (Below.refl _ _) _⟩)
    · have hq := hold_empty hh
      cases hn : c.toList.isEmpty
      · have e0 : formT ⟨6, b, se, [], h, c, t⟩ = { data := #[] } := by simp [formT, hb, hl, hi, hh, hn]
        have HE0 : Hid (formT ⟨6, b, se, [], h, c, t⟩ = { data := #[] }) := e0
        clear e0
        go_enter Tryz.func7, Tryz.ntmps7
        go_wp2_with (first | (go_at_call 25; refine (specName_any _ _ (by assumption)).mono ?_; rintro e w' ⟨rfl, rfl⟩; first | rw [hb] | rw [hn] | skip) | (go_at_call 26; refine (specHold_any h _ zh).mono ?_; rintro e w' ⟨rfl, rfl⟩; first | rw [hq] | rw [hh] | skip) | (go_at_call 27; refine (specIn_any _ _ _ _).mono ?_; rintro e w' ⟨rfl, rfl⟩; try rw [ht]; try rw [hi]))
        all_goals (go_ret; exact ⟨by rw [HE0.out]; rfl, bl_alloc (Below.refl _ _) _⟩)
      · by_cases ht : t = 0
        · subst ht
          have e0 : formT ⟨6, b, se, [], h, c, 0⟩ = catL [{ data := #[104, 101, 114, 101, 32] }, b, { data := #[32] }, (decT se), { data := #[10] }] := by simp [formT, hb, hl, hi, hh, hn]
          have HE0 : Hid (formT ⟨6, b, se, [], h, c, 0⟩ = catL [{ data := #[104, 101, 114, 101, 32] }, b, { data := #[32] }, (decT se), { data := #[10] }]) := e0
          clear e0
          have yb : b.size ≤ 1000000000 := by have := HP0.out.b; exact Nat.le_trans this (by decide)
          have yh : h.size ≤ 1000000000 := by have := HP0.out.h; exact Nat.le_trans this (by decide)
          have yc : c.size ≤ 1000000000 := by have := HP0.out.c; exact Nat.le_trans this (by decide)
          obtain ⟨s0, s1⟩ : 0 ≤ se ∧ se ≤ 1000000 := by simp [inB] at hi; exact hi
          have ks := decT_le se s0 (by omega)
          have s2 : se < 1000000000 := by omega
          have HP : Hid (∀ p ∈ [{ data := #[104, 101, 114, 101, 32] }, b, { data := #[32] }, (decT se), { data := #[10] }], p.size ≤ 1000000000) := by
            intro p hp
            simp only [List.mem_cons, List.not_mem_nil, or_false] at hp
            rcases hp with rfl | rfl | rfl | rfl | rfl
            all_goals first | assumption | decide | omega
          obtain ⟨W1, hW1⟩ : ∃ W1, W1 = (w.alloc (.cells #[.int .i64 6, .string b, .int .i64 se, .slice A 0 cp, .string h, .string c, .int .i64 0] 25)) := ⟨_, rfl⟩
          have HB : Hid (Below w.heap.size w W1) := by rw [hW1]; exact bl_alloc (Below.refl _ _) _
          have KX : Hid (∀ y, Below W1.heap.size W1 y → ∀ k, y.cell? ⟨w.heap.size, k, none⟩ = (#[.int .i64 6, .string b, .int .i64 se, .slice A 0 cp, .string h, .string c, .int .i64 0] : Array Value)[k]?) := by
            intro y hb k
            rw [hW1] at hb
            rw [box_keep hb k]
            simp [go_sem]
          have HW1 : Hid (W1 = (w.alloc (.cells #[.int .i64 6, .string b, .int .i64 se, .slice A 0 cp, .string h, .string c, .int .i64 0] 25))) := hW1
          clear hW1
          go_enter Tryz.func7, Tryz.ntmps7
          go_wp2_with (first | (go_at_call 25; refine (specName_any _ _ (by assumption)).mono ?_; rintro e w' ⟨rfl, rfl⟩; first | rw [hb] | rw [hn] | skip) | (go_at_call 26; refine (specHold_any h _ zh).mono ?_; rintro e w' ⟨rfl, rfl⟩; first | rw [hq] | rw [hh] | skip) | (go_at_call 27; refine (specIn_any _ _ _ _).mono ?_; rintro e w' ⟨rfl, rfl⟩; try rw [ht]; try rw [hi]))
          rw [← HW1.out]
          clear hb
          refine wp_region_any (by kernel_rfl) ?_
          refine reg_invP slF26 10 (GF6 w.heap.size b h c 6 se 0) (fun y => Below W1.heap.size W1 y) (by decide) rfl (bl_drew (Below.refl _ _)) ?donef6 ?stepf6
          case donef6 =>
            intro a y hI
            have r2 : a.tmps[2]?.getD undef = .string (catL [{ data := #[104, 101, 114, 101, 32] }, b, { data := #[32] }, (decT se), { data := #[10] }]) := ev_tmp (hI.all 9 (by omega))
            have df := hI.df
            go_wp2
            exact bodyPost_ret (v := .string (catL [{ data := #[104, 101, 114, 101, 32] }, b, { data := #[32] }, (decT se), { data := #[10] }])) (by simp [results, Tryz.results7, go_sem, r2]) df ⟨by rw [HE0.out], bl_trans HB.out hI.d⟩
          case stepf6 =>
            intro listed x y i hI hi hlt
            obtain rfl | rfl | rfl | rfl | rfl | rfl | rfl | rfl | rfl | rfl : i = 0 ∨ i = 1 ∨ i = 2 ∨ i = 3 ∨ i = 4 ∨ i = 5 ∨ i = 6 ∨ i = 7 ∨ i = 8 ∨ i = 9 := by omega
            · clear hi
              refine wpOp_plain rfl rfl ?_
              refine wp_cover (fun K hK => ?_)
              have i1 : x.tmps[1]?.getD undef = _ := ev_tmp (hI.out 1 (slF26_out 1 (by decide)))
              have HJ : Hid (Ip _ _ _ _ _ _ _ _) := hI
              clear hI
              go_simp
              exact hK.out _ _ (HJ.out.put (by omega) (Nat.le_of_ble_eq_true rfl) (slF26_inj (by omega)) (rfl) (fun j u _ h => h) HJ.out.d)
            · have gd0 := hI.good 0 (by omega) (waits_of hi (j := 0) (by rfl))
              clear hi
              refine wpOp_plain rfl rfl ?_
              refine wp_cover (fun K hK => ?_)
              have ed0 : x.tmps[170]?.getD undef = _ := ev_tmp gd0
              have k9 : y.cell? ⟨w.heap.size, 1, none⟩ = some (.string b) := KX.out y hI.d 1
              have HJ : Hid (Ip _ _ _ _ _ _ _ _) := hI
              clear hI gd0
              go_simp
              exact hK.out _ _ (HJ.out.put (by omega) (Nat.le_of_ble_eq_true rfl) (slF26_inj (by omega)) (rfl) (fun j u _ h => h) HJ.out.d)
            · have gd1 := hI.good 1 (by omega) (waits_of hi (j := 1) (by rfl))
              clear hi
              refine wpOp_plain rfl rfl ?_
              refine wp_cover (fun K hK => ?_)
              have ed1 : x.tmps[171]?.getD undef = _ := ev_tmp gd1
              have hz : ¬ (9223372036854775807 < 5 + (b).size) := by have h := cat_room1 [{ data := #[104, 101, 114, 101, 32] }, b, { data := #[32] }, (decT se), { data := #[10] }] HP.out (Nat.le_of_ble_eq_true rfl); exact h
              have HJ : Hid (Ip _ _ _ _ _ _ _ _) := hI
              clear hI gd1
              go_simp
              exact hK.out _ _ (HJ.out.put (by omega) (Nat.le_of_ble_eq_true rfl) (slF26_inj (by omega)) (rfl) (fun j u _ h => h) HJ.out.d)
            · have gd2 := hI.good 2 (by omega) (waits_of hi (j := 2) (by rfl))
              clear hi
              refine wpOp_plain rfl rfl ?_
              refine wp_cover (fun K hK => ?_)
              have ed2 : x.tmps[172]?.getD undef = _ := ev_tmp gd2
              have hz : ¬ (9223372036854775807 < (catL [{ data := #[104, 101, 114, 101, 32] }, b]).size + 1) := by have h := cat_room [{ data := #[104, 101, 114, 101, 32] }, b, { data := #[32] }, (decT se), { data := #[10] }] 2 HP.out (Nat.le_of_ble_eq_true rfl); exact h
              have HJ : Hid (Ip _ _ _ _ _ _ _ _) := hI
              clear hI gd2
              go_simp
              exact hK.out _ _ (HJ.out.put (by omega) (Nat.le_of_ble_eq_true rfl) (slF26_inj (by omega)) (rfl) (fun j u _ h => h) HJ.out.d)
            · clear hi
              refine wpOp_plain rfl rfl ?_
              refine wp_cover (fun K hK => ?_)
              have i1 : x.tmps[1]?.getD undef = _ := ev_tmp (hI.out 1 (slF26_out 1 (by decide)))
              have HJ : Hid (Ip _ _ _ _ _ _ _ _) := hI
              clear hI
              go_simp
              exact hK.out _ _ (HJ.out.put (by omega) (Nat.le_of_ble_eq_true rfl) (slF26_inj (by omega)) (rfl) (fun j u _ h => h) HJ.out.d)
            · have gd4 := hI.good 4 (by omega) (waits_of hi (j := 4) (by rfl))
              clear hi
              refine wpOp_plain rfl rfl ?_
              refine wp_cover (fun K hK => ?_)
              have ed4 : x.tmps[174]?.getD undef = _ := ev_tmp gd4
              have k9 : y.cell? ⟨w.heap.size, 2, none⟩ = some (.int .i64 se) := KX.out y hI.d 2
              have HJ : Hid (Ip _ _ _ _ _ _ _ _) := hI
              clear hI gd4
              go_simp
              exact hK.out _ _ (HJ.out.put (by omega) (Nat.le_of_ble_eq_true rfl) (slF26_inj (by omega)) (rfl) (fun j u _ h => h) HJ.out.d)
            · have gd5 := hI.good 5 (by omega) (waits_of hi (j := 5) (by rfl))
              clear hi
              refine wpOp_plain rfl rfl ?_
              refine wp_cover (fun K hK => ?_)
              have ed5 : x.tmps[175]?.getD undef = _ := ev_tmp gd5
              have HJ : Hid (Ip _ _ _ _ _ _ _ _) := hI
              clear hI gd5
              go_simp
              refine (specDecI se y (by first | assumption | omega) (by first | assumption | omega)).mono ?_
              rintro e y' ⟨rfl, hb⟩
              exact hK.out _ _ (HJ.out.put (by omega) (Nat.le_of_ble_eq_true rfl) (slF26_inj (by omega)) (rfl) (fun j u _ h => GF6.keep hb j u h) (bl_trans HJ.out.d hb))
            · have gd3 := hI.good 3 (by omega) (waits_of hi (j := 3) (by rfl))
              have gd6 := hI.good 6 (by omega) (waits_of hi (j := 6) (by rfl))
              clear hi
              refine wpOp_plain rfl rfl ?_
              refine wp_cover (fun K hK => ?_)
              have ed3 : x.tmps[173]?.getD undef = _ := ev_tmp gd3
              have ed6 : x.tmps[176]?.getD undef = _ := ev_tmp gd6
              have hz : ¬ (9223372036854775807 < (catL [{ data := #[104, 101, 114, 101, 32] }, b, { data := #[32] }]).size + ((decT se)).size) := by have h := cat_room [{ data := #[104, 101, 114, 101, 32] }, b, { data := #[32] }, (decT se), { data := #[10] }] 3 HP.out (Nat.le_of_ble_eq_true rfl); exact h
              have HJ : Hid (Ip _ _ _ _ _ _ _ _) := hI
              clear hI gd3 gd6
              go_simp
              exact hK.out _ _ (HJ.out.put (by omega) (Nat.le_of_ble_eq_true rfl) (slF26_inj (by omega)) (rfl) (fun j u _ h => h) HJ.out.d)
            · have gd7 := hI.good 7 (by omega) (waits_of hi (j := 7) (by rfl))
              clear hi
              refine wpOp_plain rfl rfl ?_
              refine wp_cover (fun K hK => ?_)
              have ed7 : x.tmps[177]?.getD undef = _ := ev_tmp gd7
              have hz : ¬ (9223372036854775807 < (catL [{ data := #[104, 101, 114, 101, 32] }, b, { data := #[32] }, (decT se)]).size + 1) := by have h := cat_room [{ data := #[104, 101, 114, 101, 32] }, b, { data := #[32] }, (decT se), { data := #[10] }] 4 HP.out (Nat.le_of_ble_eq_true rfl); exact h
              have HJ : Hid (Ip _ _ _ _ _ _ _ _) := hI
              clear hI gd7
              go_simp
              exact hK.out _ _ (HJ.out.put (by omega) (Nat.le_of_ble_eq_true rfl) (slF26_inj (by omega)) (rfl) (fun j u _ h => h) HJ.out.d)
            · have gd8 := hI.good 8 (by omega) (waits_of hi (j := 8) (by rfl))
              clear hi
              refine wpOp_plain rfl rfl ?_
              refine wp_cover (fun K hK => ?_)
              have ed8 : x.tmps[178]?.getD undef = _ := ev_tmp gd8
              have HJ : Hid (Ip _ _ _ _ _ _ _ _) := hI
              clear hI gd8
              go_simp
              exact hK.out _ _ (HJ.out.put (by omega) (Nat.le_of_ble_eq_true rfl) (slF26_inj (by omega)) (rfl) (fun j u _ h => h) HJ.out.d)
        · have e0 : formT ⟨6, b, se, [], h, c, t⟩ = { data := #[] } := by simp [formT, hb, hl, hi, hh, hn, ht]
          have HE0 : Hid (formT ⟨6, b, se, [], h, c, t⟩ = { data := #[] }) := e0
          clear e0
          go_enter Tryz.func7, Tryz.ntmps7
          go_wp2_with (first | (go_at_call 25; refine (specName_any _ _ (by assumption)).mono ?_; rintro e w' ⟨rfl, rfl⟩; first | rw [hb] | rw [hn] | skip) | (go_at_call 26; refine (specHold_any h _ zh).mono ?_; rintro e w' ⟨rfl, rfl⟩; first | rw [hq] | rw [hh] | skip) | (go_at_call 27; refine (specIn_any _ _ _ _).mono ?_; rintro e w' ⟨rfl, rfl⟩; try rw [ht]; try rw [hi]))
          all_goals (go_ret; exact ⟨by rw [HE0.out]; rfl, bl_alloc (Below.refl _ _) _⟩)
end Go.Proofs.YtgakmkhbnjofhaaGreatDoor
/- MateForm: the specification, where there are no wants. -/
namespace Go.Proofs.YtgakmkhbnjofhaaGreatDoor
open Go.RowKit
set_option linter.unusedVariables false
set_option linter.unusedSimpArgs false

set_option maxRecDepth 4000 in
set_option maxHeartbeats 4000000 in
theorem specN7 (k : Int) (b : ByteArray) (se : Int) (h c : ByteArray) (t : Int) (A : Option Addr) (cp : Nat) (w : World) (hP : ParSz ⟨k, b, se, [], h, c, t⟩) (hb : nameB b = true) (h1 : k ≠ 1) (h2 : k ≠ 2) (h3 : k ≠ 3) (h4 : k ≠ 4) (h5 : k ≠ 5) (h6 : k ≠ 6) :
    Calls Tryz.prog 7 #[.agg #[.int .i64 k, .string b, .int .i64 se, .slice A 0 cp, .string h, .string c, .int .i64 t]] w fun e w' => e = .returned (.string (formT ⟨k, b, se, [], h, c, t⟩)) ∧ Below w.heap.size w w' := by
  have HP0 : Hid (ParSz ⟨k, b, se, [], h, c, t⟩) := hP
  have zb : b.size ≤ maxLen := Nat.le_trans hP.b (by unfold maxLen; decide)
  have zh : h.size ≤ maxLen := Nat.le_trans hP.h (by unfold maxLen; decide)
  have zc : c.size ≤ maxLen := Nat.le_trans hP.c (by unfold maxLen; decide)
  clear hP
  have hl : ¬ 0 < ([] : List W.WantD).length := by simp
  by_cases hs : se = 0
  · have e0 : formT ⟨k, b, se, [], h, c, t⟩ = { data := #[] } := by simp [formT, hb, h1, h2, h3, h4, h5, h6, hl, hs]
    have HE0 : Hid (formT ⟨k, b, se, [], h, c, t⟩ = { data := #[] }) := e0
    clear e0
    go_enter Tryz.func7, Tryz.ntmps7
    go_wp2_with (first | (go_at_call 25; refine (specName_any _ _ (by assumption)).mono ?_; rintro e w' ⟨rfl, rfl⟩; first | rw [hb] | rw [hn] | skip) | (go_at_call 26; refine (specHold_any h _ zh).mono ?_; rintro e w' ⟨rfl, rfl⟩; first | rw [hq] | rw [hh] | skip) | (go_at_call 27; refine (specIn_any _ _ _ _).mono ?_; rintro e w' ⟨rfl, rfl⟩; try rw [ht]; try rw [hi]))
    all_goals (go_ret; exact ⟨by rw [HE0.out]; rfl, bl_alloc (Below.refl _ _) _⟩)
  · have e0 : formT ⟨k, b, se, [], h, c, t⟩ = { data := #[] } := by simp [formT, hb, h1, h6, hl, hs]
    have HE0 : Hid (formT ⟨k, b, se, [], h, c, t⟩ = { data := #[] }) := e0
    clear e0
    go_enter Tryz.func7, Tryz.ntmps7
    go_wp2_with (first | (go_at_call 25; refine (specName_any _ _ (by assumption)).mono ?_; rintro e w' ⟨rfl, rfl⟩; first | rw [hb] | rw [hn] | skip) | (go_at_call 26; refine (specHold_any h _ zh).mono ?_; rintro e w' ⟨rfl, rfl⟩; first | rw [hq] | rw [hh] | skip) | (go_at_call 27; refine (specIn_any _ _ _ _).mono ?_; rintro e w' ⟨rfl, rfl⟩; try rw [ht]; try rw [hi]))
    all_goals (go_ret; exact ⟨by rw [HE0.out]; rfl, bl_alloc (Below.refl _ _) _⟩)
end Go.Proofs.YtgakmkhbnjofhaaGreatDoor
