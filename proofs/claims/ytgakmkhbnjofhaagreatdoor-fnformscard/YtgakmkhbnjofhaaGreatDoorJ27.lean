import Derived.Test.YtgakmkhbnjofhaaGreatDoorJ20
/- A parcel's text: what the specification writes. -/
namespace Go.Proofs.YtgakmkhbnjofhaaGreatDoor
open Go.RowKit
set_option linter.unusedVariables false

theorem slF10_far (j : Nat) (h1 : j ≠ 4) (h2 : j < 71 ∨ 71 + 9 ≤ j) : ∀ i, i < 10 → slF10 i ≠ j := by
  intro i hi
  obtain rfl | rfl | rfl | rfl | rfl | rfl | rfl | rfl | rfl | rfl : i = 0 ∨ i = 1 ∨ i = 2 ∨ i = 3 ∨ i = 4 ∨ i = 5 ∨ i = 6 ∨ i = 7 ∨ i = 8 ∨ i = 9 := by omega
  all_goals (simp only [slF10]; omega)
set_option maxRecDepth 4000 in
set_option maxHeartbeats 4000000 in
theorem specK1 (b : ByteArray) (se : Int) (ws : List W.WantD) (h c : ByteArray) (t : Int) (g cap : Nat) (w : World) (hP : ParIn w ⟨1, b, se, ws, h, c, t⟩ g) (hb : nameB b = true) :
    Calls Tryz.prog 7 #[.agg #[.int .i64 (1), .string b, .int .i64 se, .slice (some ⟨g, 0, none⟩) ws.length cap, .string h, .string c, .int .i64 t]] w fun e w' => e = .returned (.string (formT ⟨1, b, se, ws, h, c, t⟩)) ∧ Below w.heap.size w w' := by
  have HP0 : Hid (ParIn w ⟨1, b, se, ws, h, c, t⟩ g) := hP
  have zb : b.size ≤ maxLen := Nat.le_trans hP.b (by unfold maxLen; decide)
  have zh : h.size ≤ maxLen := Nat.le_trans hP.h (by unfold maxLen; decide)
  have zc : c.size ≤ maxLen := Nat.le_trans hP.c (by unfold maxLen; decide)
  clear hP
  cases hi : inB se 1 1000000
  · have e0 : formT ⟨1, b, se, ws, h, c, t⟩ = { data := #[] } := by simp [formT, hb, hi]
    have HE0 : Hid (formT ⟨1, b, se, ws, h, c, t⟩ = { data := #[] }) := e0
    clear e0
    have HRW : Hid (W.RowsAt (w.alloc (.cells #[.int .i64 1, .string b, .int .i64 se, .slice (some ⟨g, 0, none⟩) ws.length cap, .string h, .string c, .int .i64 t] 25)) g 0 ws) := HP0.out.r.keep HP0.out.g (bl_alloc (Below.refl _ _) _)
    have HGW : Hid (g < (w.alloc (.cells #[.int .i64 1, .string b, .int .i64 se, .slice (some ⟨g, 0, none⟩) ws.length cap, .string h, .string c, .int .i64 t] 25)).heap.size) := Nat.lt_of_lt_of_le HP0.out.g (by simp)
    go_enter Tryz.func7, Tryz.ntmps7
    go_wp2_with (first | (go_at_call 25; refine (specName_any _ _ (by assumption)).mono ?_; rintro e w' ⟨rfl, rfl⟩; first | rw [hb] | rw [hn] | skip) | (go_at_call 26; refine (specHold_any h _ zh).mono ?_; rintro e w' ⟨rfl, rfl⟩; first | rw [hq] | rw [hh] | skip) | (go_at_call 27; refine (specIn_any _ _ _ _).mono ?_; rintro e w' ⟨rfl, rfl⟩; try rw [ht]; try rw [hi]) | (go_at_call 14; refine (W.specWantsOk g 0 cap ws _ HRW.out HGW.out HP0.out.f HP0.out.l).mono ?_; rintro e w2 ⟨⟨q, rfl, hq0⟩, b2⟩; have HQ : Hid (W.Says q ws) := hq0; have B2 : Hid (Below (w.alloc (.cells #[.int .i64 1, .string b, .int .i64 se, .slice (some ⟨g, 0, none⟩) ws.length cap, .string h, .string c, .int .i64 t] 25)).heap.size (w.alloc (.cells #[.int .i64 1, .string b, .int .i64 se, .slice (some ⟨g, 0, none⟩) ws.length cap, .string h, .string c, .int .i64 t] 25)) w2) := b2; have kb2 := box_keep b2; clear hq0 b2))
    all_goals (go_ret; exact ⟨by rw [HE0.out]; rfl, bl_trans (bl_alloc (Below.refl _ _) _) B2.out⟩)
  · cases hh : h.toList.isEmpty
    · have e0 : formT ⟨1, b, se, ws, h, c, t⟩ = { data := #[] } := by simp [formT, hb, hi, hh]
      have HE0 : Hid (formT ⟨1, b, se, ws, h, c, t⟩ = { data := #[] }) := e0
      clear e0
      have HRW : Hid (W.RowsAt (w.alloc (.cells #[.int .i64 1, .string b, .int .i64 se, .slice (some ⟨g, 0, none⟩) ws.length cap, .string h, .string c, .int .i64 t] 25)) g 0 ws) := HP0.out.r.keep HP0.out.g (bl_alloc (Below.refl _ _) _)
      have HGW : Hid (g < (w.alloc (.cells #[.int .i64 1, .string b, .int .i64 se, .slice (some ⟨g, 0, none⟩) ws.length cap, .string h, .string c, .int .i64 t] 25)).heap.size) := Nat.lt_of_lt_of_le HP0.out.g (by simp)
      go_enter Tryz.func7, Tryz.ntmps7
      go_wp2_with (first | (go_at_call 25; refine (specName_any _ _ (by assumption)).mono ?_; rintro e w' ⟨rfl, rfl⟩; first | rw [hb] | rw [hn] | skip) | (go_at_call 26; refine (specHold_any h _ zh).mono ?_; rintro e w' ⟨rfl, rfl⟩; first | rw [hq] | rw [hh] | skip) | (go_at_call 27; refine (specIn_any _ _ _ _).mono ?_; rintro e w' ⟨rfl, rfl⟩; try rw [ht]; try rw [hi]) | (go_at_call 14; refine (W.specWantsOk g 0 cap ws _ HRW.out HGW.out HP0.out.f HP0.out.l).mono ?_; rintro e w2 ⟨⟨q, rfl, hq0⟩, b2⟩; have HQ : Hid (W.Says q ws) := hq0; have B2 : Hid (Below (w.alloc (.cells #[.int .i64 1, .string b, .int .i64 se, .slice (some ⟨g, 0, none⟩) ws.length cap, .string h, .string c, .int .i64 t] 25)).heap.size (w.alloc (.cells #[.int .i64 1, .string b, .int .i64 se, .slice (some ⟨g, 0, none⟩) ws.length cap, .string h, .string c, .int .i64 t] 25)) w2) := b2; have kb2 := box_keep b2; clear hq0 b2))
      all_goals (go_ret; exact ⟨by rw [HE0.out]; rfl, bl_trans (bl_alloc (Below.refl _ _) _) B2.out⟩)
    · cases hn : c.toList.isEmpty
      · have e0 : formT ⟨1, b, se, ws, h, c, t⟩ = { data := #[] } := by simp [formT, hb, hi, hh, hn]
        have HE0 : Hid (formT ⟨1, b, se, ws, h, c, t⟩ = { data := #[] }) := e0
        clear e0
        have HRW : Hid (W.RowsAt (w.alloc (.cells #[.int .i64 1, .string b, .int .i64 se, .slice (some ⟨g, 0, none⟩) ws.length cap, .string h, .string c, .int .i64 t] 25)) g 0 ws) := HP0.out.r.keep HP0.out.g (bl_alloc (Below.refl _ _) _)
        have HGW : Hid (g < (w.alloc (.cells #[.int .i64 1, .string b, .int .i64 se, .slice (some ⟨g, 0, none⟩) ws.length cap, .string h, .string c, .int .i64 t] 25)).heap.size) := Nat.lt_of_lt_of_le HP0.out.g (by simp)
        go_enter Tryz.func7, Tryz.ntmps7
        go_wp2_with (first | (go_at_call 25; refine (specName_any _ _ (by assumption)).mono ?_; rintro e w' ⟨rfl, rfl⟩; first | rw [hb] | rw [hn] | skip) | (go_at_call 26; refine (specHold_any h _ zh).mono ?_; rintro e w' ⟨rfl, rfl⟩; first | rw [hq] | rw [hh] | skip) | (go_at_call 27; refine (specIn_any _ _ _ _).mono ?_; rintro e w' ⟨rfl, rfl⟩; try rw [ht]; try rw [hi]) | (go_at_call 14; refine (W.specWantsOk g 0 cap ws _ HRW.out HGW.out HP0.out.f HP0.out.l).mono ?_; rintro e w2 ⟨⟨q, rfl, hq0⟩, b2⟩; have HQ : Hid (W.Says q ws) := hq0; have B2 : Hid (Below (w.alloc (.cells #[.int .i64 1, .string b, .int .i64 se, .slice (some ⟨g, 0, none⟩) ws.length cap, .string h, .string c, .int .i64 t] 25)).heap.size (w.alloc (.cells #[.int .i64 1, .string b, .int .i64 se, .slice (some ⟨g, 0, none⟩) ws.length cap, .string h, .string c, .int .i64 t] 25)) w2) := b2; have kb2 := box_keep b2; clear hq0 b2))
        all_goals (go_ret; exact ⟨by rw [HE0.out]; rfl, bl_trans (bl_alloc (Below.refl _ _) _) B2.out⟩)
      · by_cases ht : t = 0
        · subst ht
          have hq := hold_empty hh
          obtain ⟨s0, s1⟩ : 1 ≤ se ∧ se ≤ 1000000 := by simp [inB] at hi; exact hi
          have s3 : 0 ≤ se := by omega
          have s2 : se < 1000000000 := by omega
          have ks := decT_le se s3 s2
          have yb : b.size ≤ 1000000000 := by have := HP0.out.b; exact Nat.le_trans this (by decide)
          have yh : h.size ≤ 1000000000 := by have := HP0.out.h; exact Nat.le_trans this (by decide)
          have yc : c.size ≤ 1000000000 := by have := HP0.out.c; exact Nat.le_trans this (by decide)
          have HP : Hid (∀ p ∈ [{ data := #[116, 111, 108, 100, 32] }, b, { data := #[32] }, (decT se), { data := #[10] }], p.size ≤ 1000000000) := by
            intro p hp
            simp only [List.mem_cons, List.not_mem_nil, or_false] at hp
            rcases hp with rfl | rfl | rfl | rfl | rfl
            all_goals first | assumption | decide | omega
          have HRW : Hid (W.RowsAt (w.alloc (.cells #[.int .i64 1, .string b, .int .i64 se, .slice (some ⟨g, 0, none⟩) ws.length cap, .string h, .string c, .int .i64 0] 25)) g 0 ws) := HP0.out.r.keep HP0.out.g (bl_alloc (Below.refl _ _) _)
          have HGW : Hid (g < (w.alloc (.cells #[.int .i64 1, .string b, .int .i64 se, .slice (some ⟨g, 0, none⟩) ws.length cap, .string h, .string c, .int .i64 0] 25)).heap.size) := Nat.lt_of_lt_of_le HP0.out.g (by simp)
          go_enter Tryz.func7, Tryz.ntmps7
          go_wp2_with (first | (go_at_call 25; refine (specName_any _ _ (by assumption)).mono ?_; rintro e w' ⟨rfl, rfl⟩; first | rw [hb] | rw [hn] | skip) | (go_at_call 26; refine (specHold_any h _ zh).mono ?_; rintro e w' ⟨rfl, rfl⟩; first | rw [hq] | rw [hh] | skip) | (go_at_call 27; refine (specIn_any _ _ _ _).mono ?_; rintro e w' ⟨rfl, rfl⟩; try rw [ht]; try rw [hi]))
          refine (W.specWantsOk g 0 cap ws _ HRW.out HGW.out HP0.out.f HP0.out.l).mono ?_
          rintro e w2 ⟨⟨q, rfl, hq0⟩, b2⟩
          have HQ : Hid (q = wantsB ws) := says_eq hq0
          have HS : Hid (W.Says q ws) := hq0
          obtain ⟨W1, hW1⟩ : ∃ W1, W1 = (w.alloc (.cells #[.int .i64 1, .string b, .int .i64 se, .slice (some ⟨g, 0, none⟩) ws.length cap, .string h, .string c, .int .i64 0] 25)) := ⟨_, rfl⟩
          rw [← hW1] at b2
          have HB : Hid (Below w.heap.size w W1) := by rw [hW1]; exact bl_alloc (Below.refl _ _) _
          have KX : Hid (∀ y, Below W1.heap.size W1 y → ∀ k, y.cell? ⟨w.heap.size, k, none⟩ = (#[.int .i64 1, .string b, .int .i64 se, .slice (some ⟨g, 0, none⟩) ws.length cap, .string h, .string c, .int .i64 0] : Array Value)[k]?) := by
            intro y hb k
            rw [hW1] at hb
            rw [box_keep hb k]
            simp [go_sem]
          have KR : Hid (∀ y, Below W1.heap.size W1 y → W.RowsAt y g 0 ws ∧ g < y.heap.size ∧ w.heap.size < y.heap.size) := by
            intro y hb
            rw [hW1] at hb
            exact ⟨HRW.out.keep HGW.out hb, Nat.lt_of_lt_of_le HGW.out hb.size, Nat.lt_of_lt_of_le (by simp) hb.size⟩
          have B2 : Hid (Below W1.heap.size W1 w2) := b2
          have kb2 := KX.out _ b2
          clear hq0 b2 hW1
          cases q
          · have e0 : formT ⟨1, b, se, ws, h, c, 0⟩ = { data := #[] } := by simp [formT, hb, ← HQ.out]
            have HE0 : Hid (formT ⟨1, b, se, ws, h, c, 0⟩ = { data := #[] }) := e0
            clear e0
            go_wp2_with (first | (go_at_call 25; refine (specName_any _ _ (by assumption)).mono ?_; rintro e w' ⟨rfl, rfl⟩; first | rw [hb] | rw [hn] | skip) | (go_at_call 26; refine (specHold_any h _ zh).mono ?_; rintro e w' ⟨rfl, rfl⟩; first | rw [hq] | rw [hh] | skip) | (go_at_call 27; refine (specIn_any _ _ _ _).mono ?_; rintro e w' ⟨rfl, rfl⟩; try rw [ht]; try rw [hi]))
            go_ret
            exact ⟨by rw [HE0.out]; rfl, bl_trans HB.out B2.out⟩
          have e0 : formT ⟨1, b, se, ws, h, c, 0⟩ = tailT ws (catL [{ data := #[116, 111, 108, 100, 32] }, b, { data := #[32] }, (decT se), { data := #[10] }]) := by simp [formT, hb, ← HQ.out, hi, hh, hn]
          have HE0 : Hid (formT ⟨1, b, se, ws, h, c, 0⟩ = tailT ws (catL [{ data := #[116, 111, 108, 100, 32] }, b, { data := #[32] }, (decT se), { data := #[10] }])) := e0
          clear e0
          go_wp2_with (first | (go_at_call 25; refine (specName_any _ _ (by assumption)).mono ?_; rintro e w' ⟨rfl, rfl⟩; first | rw [hb] | rw [hn] | skip) | (go_at_call 26; refine (specHold_any h _ zh).mono ?_; rintro e w' ⟨rfl, rfl⟩; first | rw [hq] | rw [hh] | skip) | (go_at_call 27; refine (specIn_any _ _ _ _).mono ?_; rintro e w' ⟨rfl, rfl⟩; try rw [ht]; try rw [hi]))
          clear kb2 hb
          refine wp_region_any (by kernel_rfl) ?_
          refine reg_invP slF10 10 (GF1 w.heap.size b h c 1 se 0) (fun y => Below W1.heap.size W1 y) (by decide) rfl (bl_drew B2.out) ?donef1 ?stepf1
          case donef1 =>
            intro a y hI
            have r4 : a.tmps.getD 4 undef = .string (catL [{ data := #[116, 111, 108, 100, 32] }, b, { data := #[32] }, (decT se), { data := #[10] }]) := hI.all 9 (by omega)
            obtain ⟨l, hl, ha⟩ := frameP_two (lo := 71) (n := 9) (se := 4) hI.df hI.sz (Nat.le_of_ble_eq_true rfl) (Nat.le_of_ble_eq_true rfl) (fun j hj1 hj2 => hI.out j (fun i hi => slF10_far j hj1 hj2 i hi))
            rw [r4] at ha
            have HY : Hid (Below W1.heap.size W1 y) := hI.d
            clear r4 hI
            subst ha
            obtain ⟨v0, l0, rfl, hl0⟩ := lenP_succ hl
            obtain ⟨v1, l1, rfl, hl1⟩ := lenP_succ hl0
            obtain ⟨v2, l2, rfl, hl2⟩ := lenP_succ hl1
            obtain ⟨v3, l3, rfl, hl3⟩ := lenP_succ hl2
            obtain ⟨v4, l4, rfl, hl4⟩ := lenP_succ hl3
            obtain ⟨v5, l5, rfl, hl5⟩ := lenP_succ hl4
            obtain ⟨v6, l6, rfl, hl6⟩ := lenP_succ hl5
            obtain ⟨v7, l7, rfl, hl7⟩ := lenP_succ hl6
            obtain ⟨v8, l8, rfl, hl8⟩ := lenP_succ hl7
            obtain rfl := lenP_zero hl8
            simp only [List.setIfInBounds_toArray, List.set_cons_succ, List.set_cons_zero, List.take_succ_cons, List.take_zero, List.drop_succ_cons, List.drop_zero, List.cons_append, List.nil_append, Nat.reduceAdd]
            have hall : ws.length ≤ 10 ∧ W.AllW ws ws.length := HS.out.1 rfl
            have hlen : ws.length ≤ 10 := hall.1
            have HWr : Hid (∀ r ∈ ws, Writes r) := fun r hr => by
              obtain ⟨j, hj⟩ := List.getElem?_of_mem hr
              exact writes_of (hall.2.1 j r (List.getElem?_eq_some_iff.1 hj).1 hj)
            have hT0 := catL_n 1000000000 5 [{ data := #[116, 111, 108, 100, 32] }, b, { data := #[32] }, (decT se), { data := #[10] }] HP.out rfl
            have hT1 : (catL [{ data := #[116, 111, 108, 100, 32] }, b, { data := #[32] }, (decT se), { data := #[10] }]).size ≤ 5000000000 := by omega
            have HT0 : Hid ((catL [{ data := #[116, 111, 108, 100, 32] }, b, { data := #[32] }, (decT se), { data := #[10] }]).size ≤ 5000000000) := hT1
            clear hT0 hT1
            clear hall
            go_wp2_with fail
            go_loopw [4, 5] (fun x i wx => ∃ (j : Nat), i = .int .i64 (j : Int) ∧ j ≤ ws.length ∧ x = .string (tailT (ws.take j) (catL [{ data := #[116, 111, 108, 100, 32] }, b, { data := #[32] }, (decT se), { data := #[10] }])) ∧ Hid (Below W1.heap.size W1 wx)) (fun _ i _ => ws.length - (intOf i).toNat)
            case atStart => exact ⟨0, rfl, Nat.zero_le _, rfl, HY.out⟩
            case round =>
              obtain ⟨j, rfl, hj, rfl, HW⟩ := hrel
              have kb3 : wr.cell? ⟨w.heap.size, 3, none⟩ = some (.slice (some ⟨g, 0, none⟩) ws.length cap) := KX.out _ HW.out 3
              by_cases hlt : j < ws.length
              · obtain ⟨r, hr⟩ : ∃ r, ws[j]? = some r := ⟨ws[j], List.getElem?_eq_getElem hlt⟩
                have Hr : Hid (ws[j]? = some r) := hr
                have Hw : Hid (Writes r) := HWr.out r (List.mem_of_getElem? hr)
                obtain ⟨c0, c1, c2, c3, c4, c5, c6⟩ := W.RowsAt.at (KR.out _ HW.out).1 hr
                simp only [Nat.zero_add] at c0 c1 c2 c3 c4 c5 c6
                have j0 : (0 : Int) ≤ (j : Int) := by omega
                have j1 : (j : Int) < (ws.length : Int) := by omega
                have hz : ¬ (9223372036854775807 < (tailT (ws.take j) (catL [{ data := #[116, 111, 108, 100, 32] }, b, { data := #[32] }, (decT se), { data := #[10] }])).size + (wantT r).size) := by
                  have h1 := tail_le (ws.take j) (catL [{ data := #[116, 111, 108, 100, 32] }, b, { data := #[32] }, (decT se), { data := #[10] }]) (fun q hq => HWr.out q (List.mem_of_mem_take hq))
                  have h2 := wantT_size Hw.out
                  have h3 := HT0.out
                  have h4 : (ws.take j).length ≤ 10 := by simp; omega
                  have h5 : (ws.take j).length * 15000000000 ≤ 10 * 15000000000 := Nat.mul_le_mul_right _ h4
                  omega
                clear hr
                go_wp2_with (go_at_call 29; refine (specWantT r _ Hw.out).mono ?_; rintro e w3 ⟨rfl, b3⟩; have B3 : Hid (Below W1.heap.size W1 w3) := bl_trans HW.out b3; clear b3)
                exact ⟨⟨j + 1, by go_num, by omega, by rw [tail_succ Hr.out], B3.out⟩, by simp [intOf]; omega⟩
              · go_wp2_with fail
                go_ret
                have hjl : j = ws.length := by omega
                exact ⟨by rw [HE0.out, hjl, List.take_length]; rfl, bl_trans HB.out HW.out⟩
          case stepf1 =>
            intro listed x y i hI hi hlt
            obtain rfl | rfl | rfl | rfl | rfl | rfl | rfl | rfl | rfl | rfl : i = 0 ∨ i = 1 ∨ i = 2 ∨ i = 3 ∨ i = 4 ∨ i = 5 ∨ i = 6 ∨ i = 7 ∨ i = 8 ∨ i = 9 := by omega
            · clear hi
              refine wpOp_plain rfl rfl ?_
              refine wp_cover (fun K hK => ?_)
              have i1 : x.tmps[1]?.getD undef = _ := ev_tmp (hI.out 1 (slF10_out 1 (by decide)))
              have HJ : Hid (Ip _ _ _ _ _ _ _ _) := hI
              clear hI
              go_simp
              exact hK.out _ _ (HJ.out.put (by omega) (Nat.le_of_ble_eq_true rfl) (slF10_inj (by omega)) (rfl) (fun j u _ h => h) HJ.out.d)
            · have gd0 := hI.good 0 (by omega) (waits_of hi (j := 0) (by rfl))
              clear hi
              refine wpOp_plain rfl rfl ?_
              refine wp_cover (fun K hK => ?_)
              have ed0 : x.tmps[71]?.getD undef = _ := ev_tmp gd0
              have k9 : y.cell? ⟨w.heap.size, 1, none⟩ = some (.string b) := KX.out y hI.d 1
              have HJ : Hid (Ip _ _ _ _ _ _ _ _) := hI
              clear hI gd0
              go_simp
              exact hK.out _ _ (HJ.out.put (by omega) (Nat.le_of_ble_eq_true rfl) (slF10_inj (by omega)) (rfl) (fun j u _ h => h) HJ.out.d)
            · have gd1 := hI.good 1 (by omega) (waits_of hi (j := 1) (by rfl))
              clear hi
              refine wpOp_plain rfl rfl ?_
              refine wp_cover (fun K hK => ?_)
              have ed1 : x.tmps[72]?.getD undef = _ := ev_tmp gd1
              have hz : ¬ (9223372036854775807 < 5 + (b).size) := by have h := cat_room1 [{ data := #[116, 111, 108, 100, 32] }, b, { data := #[32] }, (decT se), { data := #[10] }] HP.out (Nat.le_of_ble_eq_true rfl); exact h
              have HJ : Hid (Ip _ _ _ _ _ _ _ _) := hI
              clear hI gd1
              go_simp
              exact hK.out _ _ (HJ.out.put (by omega) (Nat.le_of_ble_eq_true rfl) (slF10_inj (by omega)) (rfl) (fun j u _ h => h) HJ.out.d)
            · have gd2 := hI.good 2 (by omega) (waits_of hi (j := 2) (by rfl))
              clear hi
              refine wpOp_plain rfl rfl ?_
              refine wp_cover (fun K hK => ?_)
              have ed2 : x.tmps[73]?.getD undef = _ := ev_tmp gd2
              have hz : ¬ (9223372036854775807 < (catL [{ data := #[116, 111, 108, 100, 32] }, b]).size + 1) := by have h := cat_room [{ data := #[116, 111, 108, 100, 32] }, b, { data := #[32] }, (decT se), { data := #[10] }] 2 HP.out (Nat.le_of_ble_eq_true rfl); exact h
              have HJ : Hid (Ip _ _ _ _ _ _ _ _) := hI
              clear hI gd2
              go_simp
              exact hK.out _ _ (HJ.out.put (by omega) (Nat.le_of_ble_eq_true rfl) (slF10_inj (by omega)) (rfl) (fun j u _ h => h) HJ.out.d)
            · clear hi
              refine wpOp_plain rfl rfl ?_
              refine wp_cover (fun K hK => ?_)
              have i1 : x.tmps[1]?.getD undef = _ := ev_tmp (hI.out 1 (slF10_out 1 (by decide)))
              have HJ : Hid (Ip _ _ _ _ _ _ _ _) := hI
              clear hI
              go_simp
              exact hK.out _ _ (HJ.out.put (by omega) (Nat.le_of_ble_eq_true rfl) (slF10_inj (by omega)) (rfl) (fun j u _ h => h) HJ.out.d)
            · have gd4 := hI.good 4 (by omega) (waits_of hi (j := 4) (by rfl))
              clear hi
              refine wpOp_plain rfl rfl ?_
              refine wp_cover (fun K hK => ?_)
              have ed4 : x.tmps[75]?.getD undef = _ := ev_tmp gd4
              have k9 : y.cell? ⟨w.heap.size, 2, none⟩ = some (.int .i64 se) := KX.out y hI.d 2
              have HJ : Hid (Ip _ _ _ _ _ _ _ _) := hI
              clear hI gd4
              go_simp
              exact hK.out _ _ (HJ.out.put (by omega) (Nat.le_of_ble_eq_true rfl) (slF10_inj (by omega)) (rfl) (fun j u _ h => h) HJ.out.d)
            · have gd5 := hI.good 5 (by omega) (waits_of hi (j := 5) (by rfl))
              clear hi
              refine wpOp_plain rfl rfl ?_
              refine wp_cover (fun K hK => ?_)
              have ed5 : x.tmps[76]?.getD undef = _ := ev_tmp gd5
              have HJ : Hid (Ip _ _ _ _ _ _ _ _) := hI
              clear hI gd5
              go_simp
              refine (specDecI se y (by first | assumption | omega) (by first | assumption | omega)).mono ?_
              rintro e y' ⟨rfl, hb⟩
              exact hK.out _ _ (HJ.out.put (by omega) (Nat.le_of_ble_eq_true rfl) (slF10_inj (by omega)) (rfl) (fun j u _ h => GF1.keep hb j u h) (bl_trans HJ.out.d hb))
            · have gd3 := hI.good 3 (by omega) (waits_of hi (j := 3) (by rfl))
              have gd6 := hI.good 6 (by omega) (waits_of hi (j := 6) (by rfl))
              clear hi
              refine wpOp_plain rfl rfl ?_
              refine wp_cover (fun K hK => ?_)
              have ed3 : x.tmps[74]?.getD undef = _ := ev_tmp gd3
              have ed6 : x.tmps[77]?.getD undef = _ := ev_tmp gd6
              have hz : ¬ (9223372036854775807 < (catL [{ data := #[116, 111, 108, 100, 32] }, b, { data := #[32] }]).size + ((decT se)).size) := by have h := cat_room [{ data := #[116, 111, 108, 100, 32] }, b, { data := #[32] }, (decT se), { data := #[10] }] 3 HP.out (Nat.le_of_ble_eq_true rfl); exact h
              have HJ : Hid (Ip _ _ _ _ _ _ _ _) := hI
              clear hI gd3 gd6
              go_simp
              exact hK.out _ _ (HJ.out.put (by omega) (Nat.le_of_ble_eq_true rfl) (slF10_inj (by omega)) (rfl) (fun j u _ h => h) HJ.out.d)
            · have gd7 := hI.good 7 (by omega) (waits_of hi (j := 7) (by rfl))
              clear hi
              refine wpOp_plain rfl rfl ?_
              refine wp_cover (fun K hK => ?_)
              have ed7 : x.tmps[78]?.getD undef = _ := ev_tmp gd7
              have hz : ¬ (9223372036854775807 < (catL [{ data := #[116, 111, 108, 100, 32] }, b, { data := #[32] }, (decT se)]).size + 1) := by have h := cat_room [{ data := #[116, 111, 108, 100, 32] }, b, { data := #[32] }, (decT se), { data := #[10] }] 4 HP.out (Nat.le_of_ble_eq_true rfl); exact h
              have HJ : Hid (Ip _ _ _ _ _ _ _ _) := hI
              clear hI gd7
              go_simp
              exact hK.out _ _ (HJ.out.put (by omega) (Nat.le_of_ble_eq_true rfl) (slF10_inj (by omega)) (rfl) (fun j u _ h => h) HJ.out.d)
            · have gd8 := hI.good 8 (by omega) (waits_of hi (j := 8) (by rfl))
              clear hi
              refine wpOp_plain rfl rfl ?_
              refine wp_cover (fun K hK => ?_)
              have ed8 : x.tmps[79]?.getD undef = _ := ev_tmp gd8
              have HJ : Hid (Ip _ _ _ _ _ _ _ _) := hI
              clear hI gd8
              go_simp
              exact hK.out _ _ (HJ.out.put (by omega) (Nat.le_of_ble_eq_true rfl) (slF10_inj (by omega)) (rfl) (fun j u _ h => h) HJ.out.d)
        · have e0 : formT ⟨1, b, se, ws, h, c, t⟩ = { data := #[] } := by simp [formT, hb, hi, hh, hn, ht]
          have HE0 : Hid (formT ⟨1, b, se, ws, h, c, t⟩ = { data := #[] }) := e0
          clear e0
          have HRW : Hid (W.RowsAt (w.alloc (.cells #[.int .i64 1, .string b, .int .i64 se, .slice (some ⟨g, 0, none⟩) ws.length cap, .string h, .string c, .int .i64 t] 25)) g 0 ws) := HP0.out.r.keep HP0.out.g (bl_alloc (Below.refl _ _) _)
          have HGW : Hid (g < (w.alloc (.cells #[.int .i64 1, .string b, .int .i64 se, .slice (some ⟨g, 0, none⟩) ws.length cap, .string h, .string c, .int .i64 t] 25)).heap.size) := Nat.lt_of_lt_of_le HP0.out.g (by simp)
          go_enter Tryz.func7, Tryz.ntmps7
          go_wp2_with (first | (go_at_call 25; refine (specName_any _ _ (by assumption)).mono ?_; rintro e w' ⟨rfl, rfl⟩; first | rw [hb] | rw [hn] | skip) | (go_at_call 26; refine (specHold_any h _ zh).mono ?_; rintro e w' ⟨rfl, rfl⟩; first | rw [hq] | rw [hh] | skip) | (go_at_call 27; refine (specIn_any _ _ _ _).mono ?_; rintro e w' ⟨rfl, rfl⟩; try rw [ht]; try rw [hi]) | (go_at_call 14; refine (W.specWantsOk g 0 cap ws _ HRW.out HGW.out HP0.out.f HP0.out.l).mono ?_; rintro e w2 ⟨⟨q, rfl, hq0⟩, b2⟩; have HQ : Hid (W.Says q ws) := hq0; have B2 : Hid (Below (w.alloc (.cells #[.int .i64 1, .string b, .int .i64 se, .slice (some ⟨g, 0, none⟩) ws.length cap, .string h, .string c, .int .i64 t] 25)).heap.size (w.alloc (.cells #[.int .i64 1, .string b, .int .i64 se, .slice (some ⟨g, 0, none⟩) ws.length cap, .string h, .string c, .int .i64 t] 25)) w2) := b2; have kb2 := box_keep b2; clear hq0 b2))
          all_goals (go_ret; exact ⟨by rw [HE0.out]; rfl, bl_trans (bl_alloc (Below.refl _ _) _) B2.out⟩)
end Go.Proofs.YtgakmkhbnjofhaaGreatDoor
