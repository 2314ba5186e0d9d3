import Derived.Test.YtgakmkhbnjofhaaGreatDoorJ16
namespace Go.Proofs.YtgakmkhbnjofhaaGreatDoor
open Go.RowKit
set_option linter.unusedVariables false
set_option maxRecDepth 4000 in
set_option maxHeartbeats 4000000 in
theorem specK4 (b : ByteArray) (se : Int) (ws : List W.WantD) (h c : ByteArray) (t : Int) (A : Option Addr) (cap : Nat) (w : World) (hP : ParSz ⟨4, b, se, ws, h, c, t⟩) (hb : nameB b = true) :
  Calls Tryz.prog 7 #[.agg #[.int .i64 (4), .string b, .int .i64 se, .slice A ws.length cap, .string h, .string c, .int .i64 t]] w fun e w' => e = .returned (.string (formT ⟨4, b, se, ws, h, c, t⟩)) ∧ Below w.heap.size w w' := by
 have HP0 : Hid (ParSz ⟨4, b, se, ws, h, c, t⟩) := hP
 have zb : b.size ≤ maxLen := Nat.le_trans hP.b (by unfold maxLen; decide)
 have zh : h.size ≤ maxLen := Nat.le_trans hP.h (by unfold maxLen; decide)
 have zc : c.size ≤ maxLen := Nat.le_trans hP.c (by unfold maxLen; decide)
 clear hP
 by_cases hl : 0 < ws.length
 ·
  have e0 : formT ⟨4, b, se, ws, h, c, t⟩ = { data := #[] } := by simp [formT, hb, hl]
  have HE0 : Hid (formT ⟨4, b, se, ws, h, c, t⟩ = { data := #[] }) := e0
  clear e0
  go_enter Tryz.func7, Tryz.ntmps7
  go_wp2_with (first | (go_at_call 25; refine (specName_any _ _ (by assumption)).mono ?_; rintro e w' ⟨rfl, rfl⟩; first | rw [hb] | rw [hn] | skip) | (go_at_call 26; refine (specHold_any h _ zh).mono ?_; rintro e w' ⟨rfl, rfl⟩; first | rw [hq] | rw [hh] | skip) | (go_at_call 27; refine (specIn_any _ _ _ _).mono ?_; rintro e w' ⟨rfl, rfl⟩; try rw [ht]; try rw [hi]))
  all_goals (go_ret; exact ⟨by rw [HE0.out]; rfl, bl_alloc (Below.refl _ _) _⟩)
 ·
  by_cases hs : se = 0
  ·
   subst hs
   cases hh : holdB h
   ·
    have e0 : formT ⟨4, b, 0, ws, h, c, t⟩ = { data := #[] } := by simp [formT, hb, hl, hh]
    have HE0 : Hid (formT ⟨4, b, 0, ws, h, c, t⟩ = { data := #[] }) := e0
    clear e0
    go_enter Tryz.func7, Tryz.ntmps7
    go_wp2_with (first | (go_at_call 25; refine (specName_any _ _ (by assumption)).mono ?_; rintro e w' ⟨rfl, rfl⟩; first | rw [hb] | rw [hn] | skip) | (go_at_call 26; refine (specHold_any h _ zh).mono ?_; rintro e w' ⟨rfl, rfl⟩; first | rw [hq] | rw [hh] | skip) | (go_at_call 27; refine (specIn_any _ _ _ _).mono ?_; rintro e w' ⟨rfl, rfl⟩; try rw [ht]; try rw [hi]))
    all_goals (go_ret; exact ⟨by rw [HE0.out]; rfl, bl_alloc (Below.refl _ _) _⟩)
   ·
    cases ht : inB t 0 1000000
    ·
     have e0 : formT ⟨4, b, 0, ws, h, c, t⟩ = { data := #[] } := by simp [formT, hb, hl, hh, ht]
     have HE0 : Hid (formT ⟨4, b, 0, ws, h, c, t⟩ = { data := #[] }) := e0
     clear e0
     go_enter Tryz.func7, Tryz.ntmps7
     go_wp2_with (first | (go_at_call 25; refine (specName_any _ _ (by assumption)).mono ?_; rintro e w' ⟨rfl, rfl⟩; first | rw [hb] | rw [hn] | skip) | (go_at_call 26; refine (specHold_any h _ zh).mono ?_; rintro e w' ⟨rfl, rfl⟩; first | rw [hq] | rw [hh] | skip) | (go_at_call 27; refine (specIn_any _ _ _ _).mono ?_; rintro e w' ⟨rfl, rfl⟩; try rw [ht]; try rw [hi]))
     all_goals (go_ret; exact ⟨by rw [HE0.out]; rfl, bl_alloc (Below.refl _ _) _⟩)
    ·
     cases hn : nameB c
     ·
      have e0 : formT ⟨4, b, 0, ws, h, c, t⟩ = { data := #[] } := by simp [formT, hb, hl, hh, ht, hn]
      have HE0 : Hid (formT ⟨4, b, 0, ws, h, c, t⟩ = { data := #[] }) := e0
      clear e0
      go_enter Tryz.func7, Tryz.ntmps7
      go_wp2_with (first | (go_at_call 25; refine (specName_any _ _ (by assumption)).mono ?_; rintro e w' ⟨rfl, rfl⟩; first | rw [hb] | rw [hn] | skip) | (go_at_call 26; refine (specHold_any h _ zh).mono ?_; rintro e w' ⟨rfl, rfl⟩; first | rw [hq] | rw [hh] | skip) | (go_at_call 27; refine (specIn_any _ _ _ _).mono ?_; rintro e w' ⟨rfl, rfl⟩; try rw [ht]; try rw [hi]))
      all_goals (go_ret; exact ⟨by rw [HE0.out]; rfl, bl_alloc (Below.refl _ _) _⟩)
     ·
      have e0 : formT ⟨4, b, 0, ws, h, c, t⟩ = catL [{ data := #[98, 97, 99, 107, 32] }, b, { data := #[32] }, h, { data := #[32] }, c, { data := #[32] }, (decT t), { data := #[10] }] := by simp [formT, wordT, hb, hl, hh, ht, hn]
      have HE0 : Hid (formT ⟨4, b, 0, ws, h, c, t⟩ = catL [{ data := #[98, 97, 99, 107, 32] }, b, { data := #[32] }, h, { data := #[32] }, c, { data := #[32] }, (decT t), { data := #[10] }]) := e0
      clear e0
      have yb : b.size ≤ 1000000000 := by have := HP0.out.b; exact Nat.le_trans this (by decide)
      have yh : h.size ≤ 1000000000 := by have := HP0.out.h; exact Nat.le_trans this (by decide)
      have yc : c.size ≤ 1000000000 := by have := HP0.out.c; exact Nat.le_trans this (by decide)
      obtain ⟨t0, t1⟩ : 0 ≤ t ∧ t ≤ 1000000 := by simp [inB] at ht; exact ht
      have kt := decT_le t t0 (by omega)
      have t2 : t < 1000000000 := by omega
      have HP : Hid (∀ p ∈ [{ data := #[98, 97, 99, 107, 32] }, b, { data := #[32] }, h, { data := #[32] }, c, { data := #[32] }, (decT t), { data := #[10] }], p.size ≤ 1000000000) := by
       intro p hp
       simp only [List.mem_cons, List.not_mem_nil, or_false] at hp
       rcases hp with rfl | rfl | rfl | rfl | rfl | rfl | rfl | rfl | rfl
       all_goals first | assumption | decide | omega
      obtain ⟨W1, hW1⟩ : ∃ W1, W1 = (w.alloc (.cells #[.int .i64 4, .string b, .int .i64 0, .slice A ws.length cap, .string h, .string c, .int .i64 t] 25)) := ⟨_, rfl⟩
      have HB : Hid (Below w.heap.size w W1) := by rw [hW1]; exact bl_alloc (Below.refl _ _) _
      have KX : Hid (∀ y, Below W1.heap.size W1 y → ∀ k, y.cell? ⟨w.heap.size, k, none⟩ = (#[.int .i64 4, .string b, .int .i64 0, .slice A ws.length cap, .string h, .string c, .int .i64 t] : Array Value)[k]?) := by
       intro y hb k
       rw [hW1] at hb
       rw [box_keep hb k]
       simp [go_sem]
      have HW1 : Hid (W1 = (w.alloc (.cells #[.int .i64 4, .string b, .int .i64 0, .slice A ws.length cap, .string h, .string c, .int .i64 t] 25))) := hW1
      clear hW1
      go_enter Tryz.func7, Tryz.ntmps7
      go_wp2_with (first | (go_at_call 25; refine (specName_any _ _ (by assumption)).mono ?_; rintro e w' ⟨rfl, rfl⟩; first | rw [hb] | rw [hn] | skip) | (go_at_call 26; refine (specHold_any h _ zh).mono ?_; rintro e w' ⟨rfl, rfl⟩; first | rw [hq] | rw [hh] | skip) | (go_at_call 27; refine (specIn_any _ _ _ _).mono ?_; rintro e w' ⟨rfl, rfl⟩; try rw [ht]; try rw [hi]))
      rw [← HW1.out]
      clear hb
      refine wp_region_any (by kernel_rfl) ?_
      refine reg_invP slF20 24 (GF4 w.heap.size b h c 4 0 t) (fun y => Below W1.heap.size W1 y) (by decide) rfl (bl_drew (Below.refl _ _)) ?donef4 ?stepf4
      case donef4 =>
       intro a y hI
       have r2 : a.tmps[2]?.getD undef = .string (catL [{ data := #[98, 97, 99, 107, 32] }, b, { data := #[32] }, h, { data := #[32] }, c, { data := #[32] }, (decT t), { data := #[10] }]) := ev_tmp (hI.all 23 (by omega))
       have df := hI.df
       go_wp2
       exact bodyPost_ret (v := .string (catL [{ data := #[98, 97, 99, 107, 32] }, b, { data := #[32] }, h, { data := #[32] }, c, { data := #[32] }, (decT t), { data := #[10] }])) (by simp [results, Tryz.results7, go_sem, r2]) df ⟨by rw [HE0.out], bl_trans HB.out hI.d⟩
      case stepf4 =>
       intro listed x y i hI hi hlt
       obtain rfl | rfl | rfl | rfl | rfl | rfl | rfl | rfl | rfl | rfl | rfl | rfl | rfl | rfl | rfl | rfl | rfl | rfl | rfl | rfl | rfl | rfl | rfl | rfl : i = 0 ∨ i = 1 ∨ i = 2 ∨ i = 3 ∨ i = 4 ∨ i = 5 ∨ i = 6 ∨ i = 7 ∨ i = 8 ∨ i = 9 ∨ i = 10 ∨ i = 11 ∨ i = 12 ∨ i = 13 ∨ i = 14 ∨ i = 15 ∨ i = 16 ∨ i = 17 ∨ i = 18 ∨ i = 19 ∨ i = 20 ∨ i = 21 ∨ i = 22 ∨ i = 23 := by omega
       ·
        clear hi
        refine wpOp_plain rfl rfl (wp_cover fun K hK => ?_)
        have hbb := bldW
        have HJ := hidP hI
        clear hI
        go_simp
        have hb : Below y.heap.size y (y.alloc (.cells arrW 9)) := bl_alloc (Below.refl _ _) _
        exact hK.out _ _ (HJ.out.put (by omega) (lb rfl) (slF20_inj (by omega)) (Lst3.new y) (fun j u _ h => GF4.keep hb j u h) (bl_trans HJ.out.d hb))
       ·
        clear hi
        refine wpOp_plain rfl rfl (wp_cover fun K hK => ?_)
        have i1 : x.tmps[1]?.getD undef = _ := ev_tmp (hI.out 1 (slF20_out 1 (by decide)))
        have HJ := hidP hI
        clear hI
        go_simp
        exact HJ.out.sm hK (by omega) (lb rfl) (slF20_inj (by omega)) rfl
       ·
        have gd1 := hI.good 1 (by omega) (waits_of hi (j := 1) (by rfl))
        clear hi
        refine wpOp_plain rfl rfl (wp_cover fun K hK => ?_)
        have ed1 : x.tmps[107]?.getD undef = _ := ev_tmp gd1
        have k9 : y.cell? ⟨w.heap.size, 0, none⟩ = some (.int .i64 4) := KX.out y hI.d 0
        have HJ := hidP hI
        clear hI gd1
        go_simp
        exact HJ.out.sm hK (by omega) (lb rfl) (slF20_inj (by omega)) rfl
       ·
        have gd2 := hI.good 2 (by omega) (waits_of hi (j := 2) (by rfl))
        clear hi
        refine wpOp_plain rfl rfl (wp_cover fun K hK => ?_)
        have ed2 : x.tmps[108]?.getD undef = _ := ev_tmp gd2
        have HJ := hidP hI
        clear hI gd2
        go_simp
        exact hK.out _ _ (HJ.out.put (by omega) (lb rfl) (slF20_inj (by omega)) (by first | rfl | decide) (fun j u _ h => h) HJ.out.d)
       ·
        have gd0 := hI.good 0 (by omega) (waits_of hi (j := 0) (by rfl))
        have gd3 := hI.good 3 (by omega) (waits_of hi (j := 3) (by rfl))
        clear hi
        refine wpOp_plain rfl rfl (wp_cover fun K hK => ?_)
        have ed3 : x.tmps[109]?.getD undef = _ := ev_tmp gd3
        obtain ⟨g3, g4, g5, g6⟩ := gd0
        have ed0 : x.tmps[106]?.getD undef = _ := ev_tmp g4
        clear g4
        have G6 : Hid (∀ j, y.cell? ⟨g3, j, none⟩ = arrW[j]?) := g6
        clear g6
        have HJ := hidP hI
        clear hI gd3
        go_simp
        exact hK.out _ _ (HJ.out.put (by omega) (lb rfl) (slF20_inj (by omega)) (⟨g3, rfl, g5, G6.out 2⟩) (fun j u _ h => h) HJ.out.d)
       ·
        have gd4 := hI.good 4 (by omega) (waits_of hi (j := 4) (by rfl))
        clear hi
        refine wpOp_plain rfl rfl (wp_cover fun K hK => ?_)
        obtain ⟨g3, g4, g5, g6⟩ := gd4
        have ed4 : x.tmps[110]?.getD undef = _ := ev_tmp g4
        clear g4
        have k9 : y.cell? ⟨g3, 2, none⟩ = some (.string ⟨#[98, 97, 99, 107, 32]⟩) := g6
        clear g6
        have HJ := hidP hI
        clear hI
        go_simp
        exact HJ.out.sm hK (by omega) (lb rfl) (slF20_inj (by omega)) rfl
       ·
        clear hi
        refine wpOp_plain rfl rfl (wp_cover fun K hK => ?_)
        have i1 : x.tmps[1]?.getD undef = _ := ev_tmp (hI.out 1 (slF20_out 1 (by decide)))
        have HJ := hidP hI
        clear hI
        go_simp
        exact HJ.out.sm hK (by omega) (lb rfl) (slF20_inj (by omega)) rfl
       ·
        have gd6 := hI.good 6 (by omega) (waits_of hi (j := 6) (by rfl))
        clear hi
        refine wpOp_plain rfl rfl (wp_cover fun K hK => ?_)
        have ed6 : x.tmps[112]?.getD undef = _ := ev_tmp gd6
        have k9 : y.cell? ⟨w.heap.size, 1, none⟩ = some (.string b) := KX.out y hI.d 1
        have HJ := hidP hI
        clear hI gd6
        go_simp
        exact HJ.out.sm hK (by omega) (lb rfl) (slF20_inj (by omega)) rfl
       ·
        have gd5 := hI.good 5 (by omega) (waits_of hi (j := 5) (by rfl))
        have gd7 := hI.good 7 (by omega) (waits_of hi (j := 7) (by rfl))
        clear hi
        refine wpOp_plain rfl rfl (wp_cover fun K hK => ?_)
        have ed5 : x.tmps[111]?.getD undef = _ := ev_tmp gd5
        have ed7 : x.tmps[113]?.getD undef = _ := ev_tmp gd7
        have hz : ¬ (9223372036854775807 < 5 + (b).size) := by have h := cat_room1 [{ data := #[98, 97, 99, 107, 32] }, b, { data := #[32] }, h, { data := #[32] }, c, { data := #[32] }, (decT t), { data := #[10] }] HP.out (lb rfl); exact h
        have HJ := hidP hI
        clear hI gd5 gd7
        go_simp
        exact HJ.out.sm hK (by omega) (lb rfl) (slF20_inj (by omega)) rfl
       ·
        have gd8 := hI.good 8 (by omega) (waits_of hi (j := 8) (by rfl))
        clear hi
        refine wpOp_plain rfl rfl (wp_cover fun K hK => ?_)
        have ed8 : x.tmps[114]?.getD undef = _ := ev_tmp gd8
        have hz : ¬ (9223372036854775807 < (catL [{ data := #[98, 97, 99, 107, 32] }, b]).size + 1) := by have h := cat_room [{ data := #[98, 97, 99, 107, 32] }, b, { data := #[32] }, h, { data := #[32] }, c, { data := #[32] }, (decT t), { data := #[10] }] 2 HP.out (lb rfl); exact h
        have HJ := hidP hI
        clear hI gd8
        go_simp
        exact HJ.out.sm hK (by omega) (lb rfl) (slF20_inj (by omega)) rfl
       ·
        clear hi
        refine wpOp_plain rfl rfl (wp_cover fun K hK => ?_)
        have i1 : x.tmps[1]?.getD undef = _ := ev_tmp (hI.out 1 (slF20_out 1 (by decide)))
        have HJ := hidP hI
        clear hI
        go_simp
        exact HJ.out.sm hK (by omega) (lb rfl) (slF20_inj (by omega)) rfl
       ·
        have gd10 := hI.good 10 (by omega) (waits_of hi (j := 10) (by rfl))
        clear hi
        refine wpOp_plain rfl rfl (wp_cover fun K hK => ?_)
        have ed10 : x.tmps[116]?.getD undef = _ := ev_tmp gd10
        have k9 : y.cell? ⟨w.heap.size, 4, none⟩ = some (.string h) := KX.out y hI.d 4
        have HJ := hidP hI
        clear hI gd10
        go_simp
        exact HJ.out.sm hK (by omega) (lb rfl) (slF20_inj (by omega)) rfl
       ·
        have gd9 := hI.good 9 (by omega) (waits_of hi (j := 9) (by rfl))
        have gd11 := hI.good 11 (by omega) (waits_of hi (j := 11) (by rfl))
        clear hi
        refine wpOp_plain rfl rfl (wp_cover fun K hK => ?_)
        have ed9 : x.tmps[115]?.getD undef = _ := ev_tmp gd9
        have ed11 : x.tmps[117]?.getD undef = _ := ev_tmp gd11
        have hz : ¬ (9223372036854775807 < (catL [{ data := #[98, 97, 99, 107, 32] }, b, { data := #[32] }]).size + (h).size) := by have h := cat_room [{ data := #[98, 97, 99, 107, 32] }, b, { data := #[32] }, h, { data := #[32] }, c, { data := #[32] }, (decT t), { data := #[10] }] 3 HP.out (lb rfl); exact h
        have HJ := hidP hI
        clear hI gd9 gd11
        go_simp
        exact HJ.out.sm hK (by omega) (lb rfl) (slF20_inj (by omega)) rfl
       ·
        have gd12 := hI.good 12 (by omega) (waits_of hi (j := 12) (by rfl))
        clear hi
        refine wpOp_plain rfl rfl (wp_cover fun K hK => ?_)
        have ed12 : x.tmps[118]?.getD undef = _ := ev_tmp gd12
        have hz : ¬ (9223372036854775807 < (catL [{ data := #[98, 97, 99, 107, 32] }, b, { data := #[32] }, h]).size + 1) := by have h := cat_room [{ data := #[98, 97, 99, 107, 32] }, b, { data := #[32] }, h, { data := #[32] }, c, { data := #[32] }, (decT t), { data := #[10] }] 4 HP.out (lb rfl); exact h
        have HJ := hidP hI
        clear hI gd12
        go_simp
        exact HJ.out.sm hK (by omega) (lb rfl) (slF20_inj (by omega)) rfl
       ·
        clear hi
        refine wpOp_plain rfl rfl (wp_cover fun K hK => ?_)
        have i1 : x.tmps[1]?.getD undef = _ := ev_tmp (hI.out 1 (slF20_out 1 (by decide)))
        have HJ := hidP hI
        clear hI
        go_simp
        exact HJ.out.sm hK (by omega) (lb rfl) (slF20_inj (by omega)) rfl
       ·
        have gd14 := hI.good 14 (by omega) (waits_of hi (j := 14) (by rfl))
        clear hi
        refine wpOp_plain rfl rfl (wp_cover fun K hK => ?_)
        have ed14 : x.tmps[120]?.getD undef = _ := ev_tmp gd14
        have k9 : y.cell? ⟨w.heap.size, 5, none⟩ = some (.string c) := KX.out y hI.d 5
        have HJ := hidP hI
        clear hI gd14
        go_simp
        exact HJ.out.sm hK (by omega) (lb rfl) (slF20_inj (by omega)) rfl
       ·
        have gd13 := hI.good 13 (by omega) (waits_of hi (j := 13) (by rfl))
        have gd15 := hI.good 15 (by omega) (waits_of hi (j := 15) (by rfl))
        clear hi
        refine wpOp_plain rfl rfl (wp_cover fun K hK => ?_)
        have ed13 : x.tmps[119]?.getD undef = _ := ev_tmp gd13
        have ed15 : x.tmps[121]?.getD undef = _ := ev_tmp gd15
        have hz : ¬ (9223372036854775807 < (catL [{ data := #[98, 97, 99, 107, 32] }, b, { data := #[32] }, h, { data := #[32] }]).size + (c).size) := by have h := cat_room [{ data := #[98, 97, 99, 107, 32] }, b, { data := #[32] }, h, { data := #[32] }, c, { data := #[32] }, (decT t), { data := #[10] }] 5 HP.out (lb rfl); exact h
        have HJ := hidP hI
        clear hI gd13 gd15
        go_simp
        exact HJ.out.sm hK (by omega) (lb rfl) (slF20_inj (by omega)) rfl
       ·
        have gd16 := hI.good 16 (by omega) (waits_of hi (j := 16) (by rfl))
        clear hi
        refine wpOp_plain rfl rfl (wp_cover fun K hK => ?_)
        have ed16 : x.tmps[122]?.getD undef = _ := ev_tmp gd16
        have hz : ¬ (9223372036854775807 < (catL [{ data := #[98, 97, 99, 107, 32] }, b, { data := #[32] }, h, { data := #[32] }, c]).size + 1) := by have h := cat_room [{ data := #[98, 97, 99, 107, 32] }, b, { data := #[32] }, h, { data := #[32] }, c, { data := #[32] }, (decT t), { data := #[10] }] 6 HP.out (lb rfl); exact h
        have HJ := hidP hI
        clear hI gd16
        go_simp
        exact HJ.out.sm hK (by omega) (lb rfl) (slF20_inj (by omega)) rfl
       ·
        clear hi
        refine wpOp_plain rfl rfl (wp_cover fun K hK => ?_)
        have i1 : x.tmps[1]?.getD undef = _ := ev_tmp (hI.out 1 (slF20_out 1 (by decide)))
        have HJ := hidP hI
        clear hI
        go_simp
        exact HJ.out.sm hK (by omega) (lb rfl) (slF20_inj (by omega)) rfl
       ·
        have gd18 := hI.good 18 (by omega) (waits_of hi (j := 18) (by rfl))
        clear hi
        refine wpOp_plain rfl rfl (wp_cover fun K hK => ?_)
        have ed18 : x.tmps[124]?.getD undef = _ := ev_tmp gd18
        have k9 : y.cell? ⟨w.heap.size, 6, none⟩ = some (.int .i64 t) := KX.out y hI.d 6
        have HJ := hidP hI
        clear hI gd18
        go_simp
        exact HJ.out.sm hK (by omega) (lb rfl) (slF20_inj (by omega)) rfl
       ·
        have gd19 := hI.good 19 (by omega) (waits_of hi (j := 19) (by rfl))
        clear hi
        refine wpOp_plain rfl rfl (wp_cover fun K hK => ?_)
        have ed19 : x.tmps[125]?.getD undef = _ := ev_tmp gd19
        have HJ := hidP hI
        clear hI gd19
        go_simp
        refine (specDecI t y (by first | assumption | omega) (by first | assumption | omega)).mono ?_
        rintro e y' ⟨rfl, hb⟩
        exact hK.out _ _ (HJ.out.put (by omega) (lb rfl) (slF20_inj (by omega)) (rfl) (fun j u _ h => GF4.keep hb j u h) (bl_trans HJ.out.d hb))
       ·
        have gd17 := hI.good 17 (by omega) (waits_of hi (j := 17) (by rfl))
        have gd20 := hI.good 20 (by omega) (waits_of hi (j := 20) (by rfl))
        clear hi
        refine wpOp_plain rfl rfl (wp_cover fun K hK => ?_)
        have ed17 : x.tmps[123]?.getD undef = _ := ev_tmp gd17
        have ed20 : x.tmps[126]?.getD undef = _ := ev_tmp gd20
        have hz : ¬ (9223372036854775807 < (catL [{ data := #[98, 97, 99, 107, 32] }, b, { data := #[32] }, h, { data := #[32] }, c, { data := #[32] }]).size + ((decT t)).size) := by have h := cat_room [{ data := #[98, 97, 99, 107, 32] }, b, { data := #[32] }, h, { data := #[32] }, c, { data := #[32] }, (decT t), { data := #[10] }] 7 HP.out (lb rfl); exact h
        have HJ := hidP hI
        clear hI gd17 gd20
        go_simp
        exact HJ.out.sm hK (by omega) (lb rfl) (slF20_inj (by omega)) rfl
       ·
        have gd21 := hI.good 21 (by omega) (waits_of hi (j := 21) (by rfl))
        clear hi
        refine wpOp_plain rfl rfl (wp_cover fun K hK => ?_)
        have ed21 : x.tmps[127]?.getD undef = _ := ev_tmp gd21
        have hz : ¬ (9223372036854775807 < (catL [{ data := #[98, 97, 99, 107, 32] }, b, { data := #[32] }, h, { data := #[32] }, c, { data := #[32] }, (decT t)]).size + 1) := by have h := cat_room [{ data := #[98, 97, 99, 107, 32] }, b, { data := #[32] }, h, { data := #[32] }, c, { data := #[32] }, (decT t), { data := #[10] }] 8 HP.out (lb rfl); exact h
        have HJ := hidP hI
        clear hI gd21
        go_simp
        exact HJ.out.sm hK (by omega) (lb rfl) (slF20_inj (by omega)) rfl
       ·
        have gd22 := hI.good 22 (by omega) (waits_of hi (j := 22) (by rfl))
        clear hi
        refine wpOp_plain rfl rfl (wp_cover fun K hK => ?_)
        have ed22 : x.tmps[128]?.getD undef = _ := ev_tmp gd22
        have HJ := hidP hI
        clear hI gd22
        go_simp
        exact HJ.out.sm hK (by omega) (lb rfl) (slF20_inj (by omega)) rfl
  ·
   have e0 : formT ⟨4, b, se, ws, h, c, t⟩ = { data := #[] } := by simp [formT, hb, hl, hs]
   have HE0 : Hid (formT ⟨4, b, se, ws, h, c, t⟩ = { data := #[] }) := e0
   clear e0
   go_enter Tryz.func7, Tryz.ntmps7
   go_wp2_with (first | (go_at_call 25; refine (specName_any _ _ (by assumption)).mono ?_; rintro e w' ⟨rfl, rfl⟩; first | rw [hb] | rw [hn] | skip) | (go_at_call 26; refine (specHold_any h _ zh).mono ?_; rintro e w' ⟨rfl, rfl⟩; first | rw [hq] | rw [hh] | skip) | (go_at_call 27; refine (specIn_any _ _ _ _).mono ?_; rintro e w' ⟨rfl, rfl⟩; try rw [ht]; try rw [hi]))
   all_goals (go_ret; exact ⟨by rw [HE0.out]; rfl, bl_alloc (Below.refl _ _) _⟩)
set_option maxRecDepth 4000 in
set_option maxHeartbeats 4000000 in
theorem specK5 (b : ByteArray) (se : Int) (ws : List W.WantD) (h c : ByteArray) (t : Int) (A : Option Addr) (cap : Nat) (w : World) (hP : ParSz ⟨5, b, se, ws, h, c, t⟩) (hb : nameB b = true) :
  Calls Tryz.prog 7 #[.agg #[.int .i64 (5), .string b, .int .i64 se, .slice A ws.length cap, .string h, .string c, .int .i64 t]] w fun e w' => e = .returned (.string (formT ⟨5, b, se, ws, h, c, t⟩)) ∧ Below w.heap.size w w' := by
 have HP0 : Hid (ParSz ⟨5, b, se, ws, h, c, t⟩) := hP
 have zb : b.size ≤ maxLen := Nat.le_trans hP.b (by unfold maxLen; decide)
 have zh : h.size ≤ maxLen := Nat.le_trans hP.h (by unfold maxLen; decide)
 have zc : c.size ≤ maxLen := Nat.le_trans hP.c (by unfold maxLen; decide)
 clear hP
 by_cases hl : 0 < ws.length
 ·
  have e0 : formT ⟨5, b, se, ws, h, c, t⟩ = { data := #[] } := by simp [formT, hb, hl]
  have HE0 : Hid (formT ⟨5, b, se, ws, h, c, t⟩ = { data := #[] }) := e0
  clear e0
  go_enter Tryz.func7, Tryz.ntmps7
  go_wp2_with (first | (go_at_call 25; refine (specName_any _ _ (by assumption)).mono ?_; rintro e w' ⟨rfl, rfl⟩; first | rw [hb] | rw [hn] | skip) | (go_at_call 26; refine (specHold_any h _ zh).mono ?_; rintro e w' ⟨rfl, rfl⟩; first | rw [hq] | rw [hh] | skip) | (go_at_call 27; refine (specIn_any _ _ _ _).mono ?_; rintro e w' ⟨rfl, rfl⟩; try rw [ht]; try rw [hi]))
  all_goals (go_ret; exact ⟨by rw [HE0.out]; rfl, bl_alloc (Below.refl _ _) _⟩)
 ·
  by_cases hs : se = 0
  ·
   subst hs
   cases hh : holdB h
   ·
    have e0 : formT ⟨5, b, 0, ws, h, c, t⟩ = { data := #[] } := by simp [formT, hb, hl, hh]
    have HE0 : Hid (formT ⟨5, b, 0, ws, h, c, t⟩ = { data := #[] }) := e0
    clear e0
    go_enter Tryz.func7, Tryz.ntmps7
    go_wp2_with (first | (go_at_call 25; refine (specName_any _ _ (by assumption)).mono ?_; rintro e w' ⟨rfl, rfl⟩; first | rw [hb] | rw [hn] | skip) | (go_at_call 26; refine (specHold_any h _ zh).mono ?_; rintro e w' ⟨rfl, rfl⟩; first | rw [hq] | rw [hh] | skip) | (go_at_call 27; refine (specIn_any _ _ _ _).mono ?_; rintro e w' ⟨rfl, rfl⟩; try rw [ht]; try rw [hi]))
    all_goals (go_ret; exact ⟨by rw [HE0.out]; rfl, bl_alloc (Below.refl _ _) _⟩)
   ·
    cases ht : inB t 0 1000000
    ·
     have e0 : formT ⟨5, b, 0, ws, h, c, t⟩ = { data := #[] } := by simp [formT, hb, hl, hh, ht]
     have HE0 : Hid (formT ⟨5, b, 0, ws, h, c, t⟩ = { data := #[] }) := e0
     clear e0
     go_enter Tryz.func7, Tryz.ntmps7
     go_wp2_with (first | (go_at_call 25; refine (specName_any _ _ (by assumption)).mono ?_; rintro e w' ⟨rfl, rfl⟩; first | rw [hb] | rw [hn] | skip) | (go_at_call 26; refine (specHold_any h _ zh).mono ?_; rintro e w' ⟨rfl, rfl⟩; first | rw [hq] | rw [hh] | skip) | (go_at_call 27; refine (specIn_any _ _ _ _).mono ?_; rintro e w' ⟨rfl, rfl⟩; try rw [ht]; try rw [hi]))
     all_goals (go_ret; exact ⟨by rw [HE0.out]; rfl, bl_alloc (Below.refl _ _) _⟩)
    ·
     cases hn : c.toList.isEmpty
     ·
      have e0 : formT ⟨5, b, 0, ws, h, c, t⟩ = { data := #[] } := by simp [formT, hb, hl, hh, ht, hn]
      have HE0 : Hid (formT ⟨5, b, 0, ws, h, c, t⟩ = { data := #[] }) := e0
      clear e0
      go_enter Tryz.func7, Tryz.ntmps7
      go_wp2_with (first | (go_at_call 25; refine (specName_any _ _ (by assumption)).mono ?_; rintro e w' ⟨rfl, rfl⟩; first | rw [hb] | rw [hn] | skip) | (go_at_call 26; refine (specHold_any h _ zh).mono ?_; rintro e w' ⟨rfl, rfl⟩; first | rw [hq] | rw [hh] | skip) | (go_at_call 27; refine (specIn_any _ _ _ _).mono ?_; rintro e w' ⟨rfl, rfl⟩; try rw [ht]; try rw [hi]))
      all_goals (go_ret; exact ⟨by rw [HE0.out]; rfl, bl_alloc (Below.refl _ _) _⟩)
     ·
      have e0 : formT ⟨5, b, 0, ws, h, c, t⟩ = catL [{ data := #[103, 111, 116, 98, 97, 99, 107, 32] }, b, { data := #[32] }, h, { data := #[32] }, (decT t), { data := #[10] }] := by simp [formT, hb, hl, hh, ht, hn]
      have HE0 : Hid (formT ⟨5, b, 0, ws, h, c, t⟩ = catL [{ data := #[103, 111, 116, 98, 97, 99, 107, 32] }, b, { data := #[32] }, h, { data := #[32] }, (decT t), { data := #[10] }]) := e0
      clear e0
      have yb : b.size ≤ 1000000000 := by have := HP0.out.b; exact Nat.le_trans this (by decide)
      have yh : h.size ≤ 1000000000 := by have := HP0.out.h; exact Nat.le_trans this (by decide)
      have yc : c.size ≤ 1000000000 := by have := HP0.out.c; exact Nat.le_trans this (by decide)
      obtain ⟨t0, t1⟩ : 0 ≤ t ∧ t ≤ 1000000 := by simp [inB] at ht; exact ht
      have kt := decT_le t t0 (by omega)
      have t2 : t < 1000000000 := by omega
      have HP : Hid (∀ p ∈ [{ data := #[103, 111, 116, 98, 97, 99, 107, 32] }, b, { data := #[32] }, h, { data := #[32] }, (decT t), { data := #[10] }], p.size ≤ 1000000000) := by
       intro p hp
       simp only [List.mem_cons, List.not_mem_nil, or_false] at hp
       rcases hp with rfl | rfl | rfl | rfl | rfl | rfl | rfl
       all_goals first | assumption | decide | omega
      obtain ⟨W1, hW1⟩ : ∃ W1, W1 = (w.alloc (.cells #[.int .i64 5, .string b, .int .i64 0, .slice A ws.length cap, .string h, .string c, .int .i64 t] 25)) := ⟨_, rfl⟩
      have HB : Hid (Below w.heap.size w W1) := by rw [hW1]; exact bl_alloc (Below.refl _ _) _
      have KX : Hid (∀ y, Below W1.heap.size W1 y → ∀ k, y.cell? ⟨w.heap.size, k, none⟩ = (#[.int .i64 5, .string b, .int .i64 0, .slice A ws.length cap, .string h, .string c, .int .i64 t] : Array Value)[k]?) := by
       intro y hb k
       rw [hW1] at hb
       rw [box_keep hb k]
       simp [go_sem]
      have HW1 : Hid (W1 = (w.alloc (.cells #[.int .i64 5, .string b, .int .i64 0, .slice A ws.length cap, .string h, .string c, .int .i64 t] 25))) := hW1
      clear hW1
      go_enter Tryz.func7, Tryz.ntmps7
      go_wp2_with (first | (go_at_call 25; refine (specName_any _ _ (by assumption)).mono ?_; rintro e w' ⟨rfl, rfl⟩; first | rw [hb] | rw [hn] | skip) | (go_at_call 26; refine (specHold_any h _ zh).mono ?_; rintro e w' ⟨rfl, rfl⟩; first | rw [hq] | rw [hh] | skip) | (go_at_call 27; refine (specIn_any _ _ _ _).mono ?_; rintro e w' ⟨rfl, rfl⟩; try rw [ht]; try rw [hi]))
      rw [← HW1.out]
      clear hb
      refine wp_region_any (by kernel_rfl) ?_
      refine reg_invP slF23 14 (GF5 w.heap.size b h c 5 0 t) (fun y => Below W1.heap.size W1 y) (by decide) rfl (bl_drew (Below.refl _ _)) ?donef5 ?stepf5
      case donef5 =>
       intro a y hI
       have r2 : a.tmps[2]?.getD undef = .string (catL [{ data := #[103, 111, 116, 98, 97, 99, 107, 32] }, b, { data := #[32] }, h, { data := #[32] }, (decT t), { data := #[10] }]) := ev_tmp (hI.all 13 (by omega))
       have df := hI.df
       go_wp2
       exact bodyPost_ret (v := .string (catL [{ data := #[103, 111, 116, 98, 97, 99, 107, 32] }, b, { data := #[32] }, h, { data := #[32] }, (decT t), { data := #[10] }])) (by simp [results, Tryz.results7, go_sem, r2]) df ⟨by rw [HE0.out], bl_trans HB.out hI.d⟩
      case stepf5 =>
       intro listed x y i hI hi hlt
       obtain rfl | rfl | rfl | rfl | rfl | rfl | rfl | rfl | rfl | rfl | rfl | rfl | rfl | rfl : i = 0 ∨ i = 1 ∨ i = 2 ∨ i = 3 ∨ i = 4 ∨ i = 5 ∨ i = 6 ∨ i = 7 ∨ i = 8 ∨ i = 9 ∨ i = 10 ∨ i = 11 ∨ i = 12 ∨ i = 13 := by omega
       ·
        clear hi
        refine wpOp_plain rfl rfl (wp_cover fun K hK => ?_)
        have i1 : x.tmps[1]?.getD undef = _ := ev_tmp (hI.out 1 (slF23_out 1 (by decide)))
        have HJ := hidP hI
        clear hI
        go_simp
        exact HJ.out.sm hK (by omega) (lb rfl) (slF23_inj (by omega)) rfl
       ·
        have gd0 := hI.good 0 (by omega) (waits_of hi (j := 0) (by rfl))
        clear hi
        refine wpOp_plain rfl rfl (wp_cover fun K hK => ?_)
        have ed0 : x.tmps[137]?.getD undef = _ := ev_tmp gd0
        have k9 : y.cell? ⟨w.heap.size, 1, none⟩ = some (.string b) := KX.out y hI.d 1
        have HJ := hidP hI
        clear hI gd0
        go_simp
        exact HJ.out.sm hK (by omega) (lb rfl) (slF23_inj (by omega)) rfl
       ·
        have gd1 := hI.good 1 (by omega) (waits_of hi (j := 1) (by rfl))
        clear hi
        refine wpOp_plain rfl rfl (wp_cover fun K hK => ?_)
        have ed1 : x.tmps[138]?.getD undef = _ := ev_tmp gd1
        have hz : ¬ (9223372036854775807 < 8 + (b).size) := by have h := cat_room1 [{ data := #[103, 111, 116, 98, 97, 99, 107, 32] }, b, { data := #[32] }, h, { data := #[32] }, (decT t), { data := #[10] }] HP.out (lb rfl); exact h
        have HJ := hidP hI
        clear hI gd1
        go_simp
        exact HJ.out.sm hK (by omega) (lb rfl) (slF23_inj (by omega)) rfl
       ·
        have gd2 := hI.good 2 (by omega) (waits_of hi (j := 2) (by rfl))
        clear hi
        refine wpOp_plain rfl rfl (wp_cover fun K hK => ?_)
        have ed2 : x.tmps[139]?.getD undef = _ := ev_tmp gd2
        have hz : ¬ (9223372036854775807 < (catL [{ data := #[103, 111, 116, 98, 97, 99, 107, 32] }, b]).size + 1) := by have h := cat_room [{ data := #[103, 111, 116, 98, 97, 99, 107, 32] }, b, { data := #[32] }, h, { data := #[32] }, (decT t), { data := #[10] }] 2 HP.out (lb rfl); exact h
        have HJ := hidP hI
        clear hI gd2
        go_simp
        exact HJ.out.sm hK (by omega) (lb rfl) (slF23_inj (by omega)) rfl
       ·
        clear hi
        refine wpOp_plain rfl rfl (wp_cover fun K hK => ?_)
        have i1 : x.tmps[1]?.getD undef = _ := ev_tmp (hI.out 1 (slF23_out 1 (by decide)))
        have HJ := hidP hI
        clear hI
        go_simp
        exact HJ.out.sm hK (by omega) (lb rfl) (slF23_inj (by omega)) rfl
       ·
        have gd4 := hI.good 4 (by omega) (waits_of hi (j := 4) (by rfl))
        clear hi
        refine wpOp_plain rfl rfl (wp_cover fun K hK => ?_)
        have ed4 : x.tmps[141]?.getD undef = _ := ev_tmp gd4
        have k9 : y.cell? ⟨w.heap.size, 4, none⟩ = some (.string h) := KX.out y hI.d 4
        have HJ := hidP hI
        clear hI gd4
        go_simp
        exact HJ.out.sm hK (by omega) (lb rfl) (slF23_inj (by omega)) rfl
       ·
        have gd3 := hI.good 3 (by omega) (waits_of hi (j := 3) (by rfl))
        have gd5 := hI.good 5 (by omega) (waits_of hi (j := 5) (by rfl))
        clear hi
        refine wpOp_plain rfl rfl (wp_cover fun K hK => ?_)
        have ed3 : x.tmps[140]?.getD undef = _ := ev_tmp gd3
        have ed5 : x.tmps[142]?.getD undef = _ := ev_tmp gd5
        have hz : ¬ (9223372036854775807 < (catL [{ data := #[103, 111, 116, 98, 97, 99, 107, 32] }, b, { data := #[32] }]).size + (h).size) := by have h := cat_room [{ data := #[103, 111, 116, 98, 97, 99, 107, 32] }, b, { data := #[32] }, h, { data := #[32] }, (decT t), { data := #[10] }] 3 HP.out (lb rfl); exact h
        have HJ := hidP hI
        clear hI gd3 gd5
        go_simp
        exact HJ.out.sm hK (by omega) (lb rfl) (slF23_inj (by omega)) rfl
       ·
        have gd6 := hI.good 6 (by omega) (waits_of hi (j := 6) (by rfl))
        clear hi
        refine wpOp_plain rfl rfl (wp_cover fun K hK => ?_)
        have ed6 : x.tmps[143]?.getD undef = _ := ev_tmp gd6
        have hz : ¬ (9223372036854775807 < (catL [{ data := #[103, 111, 116, 98, 97, 99, 107, 32] }, b, { data := #[32] }, h]).size + 1) := by have h := cat_room [{ data := #[103, 111, 116, 98, 97, 99, 107, 32] }, b, { data := #[32] }, h, { data := #[32] }, (decT t), { data := #[10] }] 4 HP.out (lb rfl); exact h
        have HJ := hidP hI
        clear hI gd6
        go_simp
        exact HJ.out.sm hK (by omega) (lb rfl) (slF23_inj (by omega)) rfl
       ·
        clear hi
        refine wpOp_plain rfl rfl (wp_cover fun K hK => ?_)
        have i1 : x.tmps[1]?.getD undef = _ := ev_tmp (hI.out 1 (slF23_out 1 (by decide)))
        have HJ := hidP hI
        clear hI
        go_simp
        exact HJ.out.sm hK (by omega) (lb rfl) (slF23_inj (by omega)) rfl
       ·
        have gd8 := hI.good 8 (by omega) (waits_of hi (j := 8) (by rfl))
        clear hi
        refine wpOp_plain rfl rfl (wp_cover fun K hK => ?_)
        have ed8 : x.tmps[145]?.getD undef = _ := ev_tmp gd8
        have k9 : y.cell? ⟨w.heap.size, 6, none⟩ = some (.int .i64 t) := KX.out y hI.d 6
        have HJ := hidP hI
        clear hI gd8
        go_simp
        exact HJ.out.sm hK (by omega) (lb rfl) (slF23_inj (by omega)) rfl
       ·
        have gd9 := hI.good 9 (by omega) (waits_of hi (j := 9) (by rfl))
        clear hi
        refine wpOp_plain rfl rfl (wp_cover fun K hK => ?_)
        have ed9 : x.tmps[146]?.getD undef = _ := ev_tmp gd9
        have HJ := hidP hI
        clear hI gd9
        go_simp
        refine (specDecI t y (by first | assumption | omega) (by first | assumption | omega)).mono ?_
        rintro e y' ⟨rfl, hb⟩
        exact hK.out _ _ (HJ.out.put (by omega) (lb rfl) (slF23_inj (by omega)) (rfl) (fun j u _ h => GF5.keep hb j u h) (bl_trans HJ.out.d hb))
       ·
        have gd7 := hI.good 7 (by omega) (waits_of hi (j := 7) (by rfl))
        have gd10 := hI.good 10 (by omega) (waits_of hi (j := 10) (by rfl))
        clear hi
        refine wpOp_plain rfl rfl (wp_cover fun K hK => ?_)
        have ed7 : x.tmps[144]?.getD undef = _ := ev_tmp gd7
        have ed10 : x.tmps[147]?.getD undef = _ := ev_tmp gd10
        have hz : ¬ (9223372036854775807 < (catL [{ data := #[103, 111, 116, 98, 97, 99, 107, 32] }, b, { data := #[32] }, h, { data := #[32] }]).size + ((decT t)).size) := by have h := cat_room [{ data := #[103, 111, 116, 98, 97, 99, 107, 32] }, b, { data := #[32] }, h, { data := #[32] }, (decT t), { data := #[10] }] 5 HP.out (lb rfl); exact h
        have HJ := hidP hI
        clear hI gd7 gd10
        go_simp
        exact HJ.out.sm hK (by omega) (lb rfl) (slF23_inj (by omega)) rfl
       ·
        have gd11 := hI.good 11 (by omega) (waits_of hi (j := 11) (by rfl))
        clear hi
        refine wpOp_plain rfl rfl (wp_cover fun K hK => ?_)
        have ed11 : x.tmps[148]?.getD undef = _ := ev_tmp gd11
        have hz : ¬ (9223372036854775807 < (catL [{ data := #[103, 111, 116, 98, 97, 99, 107, 32] }, b, { data := #[32] }, h, { data := #[32] }, (decT t)]).size + 1) := by have h := cat_room [{ data := #[103, 111, 116, 98, 97, 99, 107, 32] }, b, { data := #[32] }, h, { data := #[32] }, (decT t), { data := #[10] }] 6 HP.out (lb rfl); exact h
        have HJ := hidP hI
        clear hI gd11
        go_simp
        exact HJ.out.sm hK (by omega) (lb rfl) (slF23_inj (by omega)) rfl
       ·
        have gd12 := hI.good 12 (by omega) (waits_of hi (j := 12) (by rfl))
        clear hi
        refine wpOp_plain rfl rfl (wp_cover fun K hK => ?_)
        have ed12 : x.tmps[149]?.getD undef = _ := ev_tmp gd12
        have HJ := hidP hI
        clear hI gd12
        go_simp
        exact HJ.out.sm hK (by omega) (lb rfl) (slF23_inj (by omega)) rfl
  ·
   have e0 : formT ⟨5, b, se, ws, h, c, t⟩ = { data := #[] } := by simp [formT, hb, hl, hs]
   have HE0 : Hid (formT ⟨5, b, se, ws, h, c, t⟩ = { data := #[] }) := e0
   clear e0
   go_enter Tryz.func7, Tryz.ntmps7
   go_wp2_with (first | (go_at_call 25; refine (specName_any _ _ (by assumption)).mono ?_; rintro e w' ⟨rfl, rfl⟩; first | rw [hb] | rw [hn] | skip) | (go_at_call 26; refine (specHold_any h _ zh).mono ?_; rintro e w' ⟨rfl, rfl⟩; first | rw [hq] | rw [hh] | skip) | (go_at_call 27; refine (specIn_any _ _ _ _).mono ?_; rintro e w' ⟨rfl, rfl⟩; try rw [ht]; try rw [hi]))
   all_goals (go_ret; exact ⟨by rw [HE0.out]; rfl, bl_alloc (Below.refl _ _) _⟩)
end Go.Proofs.YtgakmkhbnjofhaaGreatDoor
