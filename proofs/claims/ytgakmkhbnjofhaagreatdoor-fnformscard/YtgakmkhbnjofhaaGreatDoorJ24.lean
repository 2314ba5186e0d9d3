import Derived.Test.YtgakmkhbnjofhaaGreatDoorJ16
import Derived.Test.YtgakmkhbnjofhaaGreatDoorJ20
import Derived.Test.YtgakmkhbnjofhaaGreatDoorJ21
import Derived.Test.YtgakmkhbnjofhaaGreatDoorJ22
import Derived.Test.YtgakmkhbnjofhaaGreatDoorJ23
namespace Go.Proofs.YtgakmkhbnjofhaaGreatDoor
open Go.RowKit
set_option linter.unusedVariables false
set_option maxRecDepth 4000 in
set_option maxHeartbeats 4000000 in
theorem specK6 (b : ByteArray) (se : Int) (ws : List W.WantD) (h c : ByteArray) (t : Int) (A : Option Addr) (cap : Nat) (w : World) (hP : ParSz ⟨6, b, se, ws, h, c, t⟩) (hb : nameB b = true) :
  Calls Tryz.prog 7 #[.agg #[.int .i64 (6), .string b, .int .i64 se, .slice A ws.length cap, .string h, .string c, .int .i64 t]] w fun e w' => e = .returned (.string (formT ⟨6, b, se, ws, h, c, t⟩)) ∧ Below w.heap.size w w' := by
 have HP0 : Hid (ParSz ⟨6, b, se, ws, h, c, t⟩) := hP
 have zb : b.size ≤ maxLen := Nat.le_trans hP.b (by unfold maxLen; decide)
 have zh : h.size ≤ maxLen := Nat.le_trans hP.h (by unfold maxLen; decide)
 have zc : c.size ≤ maxLen := Nat.le_trans hP.c (by unfold maxLen; decide)
 clear hP
 by_cases hl : 0 < ws.length
 ·
  have e0 : formT ⟨6, b, se, ws, h, c, t⟩ = { data := #[] } := by simp [formT, hb, hl]
  have HE0 : Hid (formT ⟨6, b, se, ws, h, c, t⟩ = { data := #[] }) := e0
  clear e0
  go_enter Tryz.func7, Tryz.ntmps7
  go_wp2_with (first | (go_at_call 25; refine (specName_any _ _ (by assumption)).mono ?_; rintro e w' ⟨rfl, rfl⟩; first | rw [hb] | rw [hn] | skip) | (go_at_call 26; refine (specHold_any h _ zh).mono ?_; rintro e w' ⟨rfl, rfl⟩; first | rw [hq] | rw [hh] | skip) | (go_at_call 27; refine (specIn_any _ _ _ _).mono ?_; rintro e w' ⟨rfl, rfl⟩; try rw [ht]; try rw [hi]))
  all_goals (go_ret; exact ⟨by rw [HE0.out]; rfl, bl_alloc (Below.refl _ _) _⟩)
 ·
  cases hi : inB se 0 1000000
  ·
   have e0 : formT ⟨6, b, se, ws, h, c, t⟩ = { data := #[] } := by simp [formT, hb, hl, hi]
   have HE0 : Hid (formT ⟨6, b, se, ws, h, c, t⟩ = { data := #[] }) := e0
   clear e0
   go_enter Tryz.func7, Tryz.ntmps7
   go_wp2_with (first | (go_at_call 25; refine (specName_any _ _ (by assumption)).mono ?_; rintro e w' ⟨rfl, rfl⟩; first | rw [hb] | rw [hn] | skip) | (go_at_call 26; refine (specHold_any h _ zh).mono ?_; rintro e w' ⟨rfl, rfl⟩; first | rw [hq] | rw [hh] | skip) | (go_at_call 27; refine (specIn_any _ _ _ _).mono ?_; rintro e w' ⟨rfl, rfl⟩; try rw [ht]; try rw [hi]))
   all_goals (go_ret; exact ⟨by rw [HE0.out]; rfl, bl_alloc (Below.refl _ _) _⟩)
  ·
   cases hh : h.toList.isEmpty
   ·
    have e0 : formT ⟨6, b, se, ws, h, c, t⟩ = { data := #[] } := by simp [formT, hb, hl, hi, hh]
    have HE0 : Hid (formT ⟨6, b, se, ws, h, c, t⟩ = { data := #[] }) := e0
    clear e0
    go_enter Tryz.func7, Tryz.ntmps7
    go_wp2_with (first | (go_at_call 25; refine (specName_any _ _ (by assumption)).mono ?_; rintro e w' ⟨rfl, rfl⟩; first | rw [hb] | rw [hn] | skip) | (go_at_call 26; refine (specHold_any h _ zh).mono ?_; rintro e w' ⟨rfl, rfl⟩; first | rw [hq] | rw [hh] | skip) | (go_at_call 27; refine (specIn_any _ _ _ _).mono ?_; rintro e w' ⟨rfl, rfl⟩; try rw [ht]; try rw [hi]))
    all_goals (go_ret; exact ⟨by rw [HE0.out]; rfl, bl_alloc (Below.refl _ _) _⟩)
   ·
    have hq := hold_empty hh
    cases hn : c.toList.isEmpty
    ·
     have e0 : formT ⟨6, b, se, ws, h, c, t⟩ = { data := #[] } := by simp [formT, hb, hl, hi, hh, hn]
     have HE0 : Hid (formT ⟨6, b, se, ws, h, c, t⟩ = { data := #[] }) := e0
     clear e0
     go_enter Tryz.func7, Tryz.ntmps7
     go_wp2_with (first | (go_at_call 25; refine (specName_any _ _ (by assumption)).mono ?_; rintro e w' ⟨rfl, rfl⟩; first | rw [hb] | rw [hn] | skip) | (go_at_call 26; refine (specHold_any h _ zh).mono ?_; rintro e w' ⟨rfl, rfl⟩; first | rw [hq] | rw [hh] | skip) | (go_at_call 27; refine (specIn_any _ _ _ _).mono ?_; rintro e w' ⟨rfl, rfl⟩; try rw [ht]; try rw [hi]))
     all_goals (go_ret; exact ⟨by rw [HE0.out]; rfl, bl_alloc (Below.refl _ _) _⟩)
    ·
     by_cases ht : t = 0
     ·
      subst ht
      have e0 : formT ⟨6, b, se, ws, h, c, 0⟩ = catL [{ data := #[104, 101, 114, 101, 32] }, b, { data := #[32] }, (decT se), { data := #[10] }] := by simp [formT, hb, hl, hi, hh, hn]
      have HE0 : Hid (formT ⟨6, b, se, ws, h, c, 0⟩ = catL [{ data := #[104, 101, 114, 101, 32] }, b, { data := #[32] }, (decT se), { data := #[10] }]) := e0
      clear e0
      have yb : b.size ≤ 1000000000 := by have := HP0.out.b; exact Nat.le_trans this (by decide)
      have yh : h.size ≤ 1000000000 := by have := HP0.out.h; exact Nat.le_trans this (by decide)
      have yc : c.size ≤ 1000000000 := by have := HP0.out.c; exact Nat.le_trans this (by decide)
      obtain ⟨s0, s1⟩ : 0 ≤ se ∧ se ≤ 1000000 := by simp [inB] at hi; exact hi
      have ks := decT_le se s0 (by omega)
      have s2 : se < 1000000000 := by omega
      have HP : Hid (∀ p ∈ [{ data := #[104, 101, 114, 101, 32] }, b, { data := #[32] }, (decT se), { data := #[10] }], p.size ≤ 1000000000) := by
       intro p hp
       simp only [List.mem_cons, List.not_mem_nil, or_false] at hp
       rcases hp with rfl | rfl | rfl | rfl | rfl
       all_goals first | assumption | decide | omega
      obtain ⟨W1, hW1⟩ : ∃ W1, W1 = (w.alloc (.cells #[.int .i64 6, .string b, .int .i64 se, .slice A ws.length cap, .string h, .string c, .int .i64 0] 25)) := ⟨_, rfl⟩
      have HB : Hid (Below w.heap.size w W1) := by rw [hW1]; exact bl_alloc (Below.refl _ _) _
      have KX : Hid (∀ y, Below W1.heap.size W1 y → ∀ k, y.cell? ⟨w.heap.size, k, none⟩ = (#[.int .i64 6, .string b, .int .i64 se, .slice A ws.length cap, .string h, .string c, .int .i64 0] : Array Value)[k]?) := by
       intro y hb k
       rw [hW1] at hb
       rw [box_keep hb k]
       simp [go_sem]
      have HW1 : Hid (W1 = (w.alloc (.cells #[.int .i64 6, .string b, .int .i64 se, .slice A ws.length cap, .string h, .string c, .int .i64 0] 25))) := hW1
      clear hW1
      go_enter Tryz.func7, Tryz.ntmps7
      go_wp2_with (first | (go_at_call 25; refine (specName_any _ _ (by assumption)).mono ?_; rintro e w' ⟨rfl, rfl⟩; first | rw [hb] | rw [hn] | skip) | (go_at_call 26; refine (specHold_any h _ zh).mono ?_; rintro e w' ⟨rfl, rfl⟩; first | rw [hq] | rw [hh] | skip) | (go_at_call 27; refine (specIn_any _ _ _ _).mono ?_; rintro e w' ⟨rfl, rfl⟩; try rw [ht]; try rw [hi]))
      rw [← HW1.out]
      clear hb
      refine wp_region_any (by kernel_rfl) ?_
      refine reg_invP slF26 10 (GF6 w.heap.size b h c 6 se 0) (fun y => Below W1.heap.size W1 y) (by decide) rfl (bl_drew (Below.refl _ _)) ?donef6 ?stepf6
      case donef6 =>
       intro a y hI
       have r2 : a.tmps[2]?.getD undef = .string (catL [{ data := #[104, 101, 114, 101, 32] }, b, { data := #[32] }, (decT se), { data := #[10] }]) := ev_tmp (hI.all 9 (by omega))
       have df := hI.df
       go_wp2
       exact bodyPost_ret (v := .string (catL [{ data := #[104, 101, 114, 101, 32] }, b, { data := #[32] }, (decT se), { data := #[10] }])) (by simp [results, Tryz.results7, go_sem, r2]) df ⟨by rw [HE0.out], bl_trans HB.out hI.d⟩
      case stepf6 =>
       intro listed x y i hI hi hlt
       obtain rfl | rfl | rfl | rfl | rfl | rfl | rfl | rfl | rfl | rfl : i = 0 ∨ i = 1 ∨ i = 2 ∨ i = 3 ∨ i = 4 ∨ i = 5 ∨ i = 6 ∨ i = 7 ∨ i = 8 ∨ i = 9 := by omega
       ·
        clear hi
        refine wpOp_plain rfl rfl (wp_cover fun K hK => ?_)
        have i1 : x.tmps[1]?.getD undef = _ := ev_tmp (hI.out 1 (slF26_out 1 (by decide)))
        have HJ := hidP hI
        clear hI
        go_simp
        exact HJ.out.sm hK (by omega) (lb rfl) (slF26_inj (by omega)) rfl
       ·
        have gd0 := hI.good 0 (by omega) (waits_of hi (j := 0) (by rfl))
        clear hi
        refine wpOp_plain rfl rfl (wp_cover fun K hK => ?_)
        have ed0 : x.tmps[170]?.getD undef = _ := ev_tmp gd0
        have k9 : y.cell? ⟨w.heap.size, 1, none⟩ = some (.string b) := KX.out y hI.d 1
        have HJ := hidP hI
        clear hI gd0
        go_simp
        exact HJ.out.sm hK (by omega) (lb rfl) (slF26_inj (by omega)) rfl
       ·
        have gd1 := hI.good 1 (by omega) (waits_of hi (j := 1) (by rfl))
        clear hi
        refine wpOp_plain rfl rfl (wp_cover fun K hK => ?_)
        have ed1 : x.tmps[171]?.getD undef = _ := ev_tmp gd1
        have hz : ¬ (9223372036854775807 < 5 + (b).size) := by have h := cat_room1 [{ data := #[104, 101, 114, 101, 32] }, b, { data := #[32] }, (decT se), { data := #[10] }] HP.out (lb rfl); exact h
        have HJ := hidP hI
        clear hI gd1
        go_simp
        exact HJ.out.sm hK (by omega) (lb rfl) (slF26_inj (by omega)) rfl
       ·
        have gd2 := hI.good 2 (by omega) (waits_of hi (j := 2) (by rfl))
        clear hi
        refine wpOp_plain rfl rfl (wp_cover fun K hK => ?_)
        have ed2 : x.tmps[172]?.getD undef = _ := ev_tmp gd2
        have hz : ¬ (9223372036854775807 < (catL [{ data := #[104, 101, 114, 101, 32] }, b]).size + 1) := by have h := cat_room [{ data := #[104, 101, 114, 101, 32] }, b, { data := #[32] }, (decT se), { data := #[10] }] 2 HP.out (lb rfl); exact h
        have HJ := hidP hI
        clear hI gd2
        go_simp
        exact HJ.out.sm hK (by omega) (lb rfl) (slF26_inj (by omega)) rfl
       ·
        clear hi
        refine wpOp_plain rfl rfl (wp_cover fun K hK => ?_)
        have i1 : x.tmps[1]?.getD undef = _ := ev_tmp (hI.out 1 (slF26_out 1 (by decide)))
        have HJ := hidP hI
        clear hI
        go_simp
        exact HJ.out.sm hK (by omega) (lb rfl) (slF26_inj (by omega)) rfl
       ·
        have gd4 := hI.good 4 (by omega) (waits_of hi (j := 4) (by rfl))
        clear hi
        refine wpOp_plain rfl rfl (wp_cover fun K hK => ?_)
        have ed4 : x.tmps[174]?.getD undef = _ := ev_tmp gd4
        have k9 : y.cell? ⟨w.heap.size, 2, none⟩ = some (.int .i64 se) := KX.out y hI.d 2
        have HJ := hidP hI
        clear hI gd4
        go_simp
        exact HJ.out.sm hK (by omega) (lb rfl) (slF26_inj (by omega)) rfl
       ·
        have gd5 := hI.good 5 (by omega) (waits_of hi (j := 5) (by rfl))
        clear hi
        refine wpOp_plain rfl rfl (wp_cover fun K hK => ?_)
        have ed5 : x.tmps[175]?.getD undef = _ := ev_tmp gd5
        have HJ := hidP hI
        clear hI gd5
        go_simp
        refine (specDecI se y (by first | assumption | omega) (by first | assumption | omega)).mono ?_
        rintro e y' ⟨rfl, hb⟩
        exact hK.out _ _ (HJ.out.put (by omega) (lb rfl) (slF26_inj (by omega)) (rfl) (fun j u _ h => GF6.keep hb j u h) (bl_trans HJ.out.d hb))
       ·
        have gd3 := hI.good 3 (by omega) (waits_of hi (j := 3) (by rfl))
        have gd6 := hI.good 6 (by omega) (waits_of hi (j := 6) (by rfl))
        clear hi
        refine wpOp_plain rfl rfl (wp_cover fun K hK => ?_)
        have ed3 : x.tmps[173]?.getD undef = _ := ev_tmp gd3
        have ed6 : x.tmps[176]?.getD undef = _ := ev_tmp gd6
        have hz : ¬ (9223372036854775807 < (catL [{ data := #[104, 101, 114, 101, 32] }, b, { data := #[32] }]).size + ((decT se)).size) := by have h := cat_room [{ data := #[104, 101, 114, 101, 32] }, b, { data := #[32] }, (decT se), { data := #[10] }] 3 HP.out (lb rfl); exact h
        have HJ := hidP hI
        clear hI gd3 gd6
        go_simp
        exact HJ.out.sm hK (by omega) (lb rfl) (slF26_inj (by omega)) rfl
       ·
        have gd7 := hI.good 7 (by omega) (waits_of hi (j := 7) (by rfl))
        clear hi
        refine wpOp_plain rfl rfl (wp_cover fun K hK => ?_)
        have ed7 : x.tmps[177]?.getD undef = _ := ev_tmp gd7
        have hz : ¬ (9223372036854775807 < (catL [{ data := #[104, 101, 114, 101, 32] }, b, { data := #[32] }, (decT se)]).size + 1) := by have h := cat_room [{ data := #[104, 101, 114, 101, 32] }, b, { data := #[32] }, (decT se), { data := #[10] }] 4 HP.out (lb rfl); exact h
        have HJ := hidP hI
        clear hI gd7
        go_simp
        exact HJ.out.sm hK (by omega) (lb rfl) (slF26_inj (by omega)) rfl
       ·
        have gd8 := hI.good 8 (by omega) (waits_of hi (j := 8) (by rfl))
        clear hi
        refine wpOp_plain rfl rfl (wp_cover fun K hK => ?_)
        have ed8 : x.tmps[178]?.getD undef = _ := ev_tmp gd8
        have HJ := hidP hI
        clear hI gd8
        go_simp
        exact HJ.out.sm hK (by omega) (lb rfl) (slF26_inj (by omega)) rfl
     ·
      have e0 : formT ⟨6, b, se, ws, h, c, t⟩ = { data := #[] } := by simp [formT, hb, hl, hi, hh, hn, ht]
      have HE0 : Hid (formT ⟨6, b, se, ws, h, c, t⟩ = { data := #[] }) := e0
      clear e0
      go_enter Tryz.func7, Tryz.ntmps7
      go_wp2_with (first | (go_at_call 25; refine (specName_any _ _ (by assumption)).mono ?_; rintro e w' ⟨rfl, rfl⟩; first | rw [hb] | rw [hn] | skip) | (go_at_call 26; refine (specHold_any h _ zh).mono ?_; rintro e w' ⟨rfl, rfl⟩; first | rw [hq] | rw [hh] | skip) | (go_at_call 27; refine (specIn_any _ _ _ _).mono ?_; rintro e w' ⟨rfl, rfl⟩; try rw [ht]; try rw [hi]))
      all_goals (go_ret; exact ⟨by rw [HE0.out]; rfl, bl_alloc (Below.refl _ _) _⟩)
set_option maxRecDepth 4000 in
set_option maxHeartbeats 4000000 in
theorem specK7 (k : Int) (b : ByteArray) (se : Int) (ws : List W.WantD) (h c : ByteArray) (t : Int) (A : Option Addr) (cap : Nat) (w : World) (hP : ParSz ⟨k, b, se, ws, h, c, t⟩) (hb : nameB b = true) (h1 : k ≠ 1) (h2 : k ≠ 2) (h3 : k ≠ 3) (h4 : k ≠ 4) (h5 : k ≠ 5) (h6 : k ≠ 6) :
  Calls Tryz.prog 7 #[.agg #[.int .i64 k, .string b, .int .i64 se, .slice A ws.length cap, .string h, .string c, .int .i64 t]] w fun e w' => e = .returned (.string (formT ⟨k, b, se, ws, h, c, t⟩)) ∧ Below w.heap.size w w' := by
 have HP0 : Hid (ParSz ⟨k, b, se, ws, h, c, t⟩) := hP
 have zb : b.size ≤ maxLen := Nat.le_trans hP.b (by unfold maxLen; decide)
 have zh : h.size ≤ maxLen := Nat.le_trans hP.h (by unfold maxLen; decide)
 have zc : c.size ≤ maxLen := Nat.le_trans hP.c (by unfold maxLen; decide)
 clear hP
 by_cases hl : 0 < ws.length
 ·
  have e0 : formT ⟨k, b, se, ws, h, c, t⟩ = { data := #[] } := by simp [formT, hb, h1, hl]
  have HE0 : Hid (formT ⟨k, b, se, ws, h, c, t⟩ = { data := #[] }) := e0
  clear e0
  go_enter Tryz.func7, Tryz.ntmps7
  go_wp2_with (first | (go_at_call 25; refine (specName_any _ _ (by assumption)).mono ?_; rintro e w' ⟨rfl, rfl⟩; first | rw [hb] | rw [hn] | skip) | (go_at_call 26; refine (specHold_any h _ zh).mono ?_; rintro e w' ⟨rfl, rfl⟩; first | rw [hq] | rw [hh] | skip) | (go_at_call 27; refine (specIn_any _ _ _ _).mono ?_; rintro e w' ⟨rfl, rfl⟩; try rw [ht]; try rw [hi]))
  all_goals (go_ret; exact ⟨by rw [HE0.out]; rfl, bl_alloc (Below.refl _ _) _⟩)
 ·
  by_cases hs : se = 0
  ·
   have e0 : formT ⟨k, b, se, ws, h, c, t⟩ = { data := #[] } := by simp [formT, hb, h1, h2, h3, h4, h5, h6, hl, hs]
   have HE0 : Hid (formT ⟨k, b, se, ws, h, c, t⟩ = { data := #[] }) := e0
   clear e0
   go_enter Tryz.func7, Tryz.ntmps7
   go_wp2_with (first | (go_at_call 25; refine (specName_any _ _ (by assumption)).mono ?_; rintro e w' ⟨rfl, rfl⟩; first | rw [hb] | rw [hn] | skip) | (go_at_call 26; refine (specHold_any h _ zh).mono ?_; rintro e w' ⟨rfl, rfl⟩; first | rw [hq] | rw [hh] | skip) | (go_at_call 27; refine (specIn_any _ _ _ _).mono ?_; rintro e w' ⟨rfl, rfl⟩; try rw [ht]; try rw [hi]))
   all_goals (go_ret; exact ⟨by rw [HE0.out]; rfl, bl_alloc (Below.refl _ _) _⟩)
  ·
   have e0 : formT ⟨k, b, se, ws, h, c, t⟩ = { data := #[] } := by simp [formT, hb, h1, h6, hl, hs]
   have HE0 : Hid (formT ⟨k, b, se, ws, h, c, t⟩ = { data := #[] }) := e0
   clear e0
   go_enter Tryz.func7, Tryz.ntmps7
   go_wp2_with (first | (go_at_call 25; refine (specName_any _ _ (by assumption)).mono ?_; rintro e w' ⟨rfl, rfl⟩; first | rw [hb] | rw [hn] | skip) | (go_at_call 26; refine (specHold_any h _ zh).mono ?_; rintro e w' ⟨rfl, rfl⟩; first | rw [hq] | rw [hh] | skip) | (go_at_call 27; refine (specIn_any _ _ _ _).mono ?_; rintro e w' ⟨rfl, rfl⟩; try rw [ht]; try rw [hi]))
   all_goals (go_ret; exact ⟨by rw [HE0.out]; rfl, bl_alloc (Below.refl _ _) _⟩)
set_option maxRecDepth 4000 in
set_option maxHeartbeats 4000000 in
theorem specForm (k : Int) (b : ByteArray) (se : Int) (ws : List W.WantD) (h c : ByteArray) (t : Int) (g cap : Nat) (w : World) (hP : ParIn w ⟨k, b, se, ws, h, c, t⟩ g) :
  Calls Tryz.prog 7 #[.agg #[.int .i64 k, .string b, .int .i64 se, .slice (some ⟨g, 0, none⟩) ws.length cap, .string h, .string c, .int .i64 t]] w fun e w' => e = .returned (.string (formT ⟨k, b, se, ws, h, c, t⟩)) ∧ Below w.heap.size w w' := by
 cases hb : nameB b
 ·
  have zb : b.size ≤ maxLen := Nat.le_trans hP.b (by unfold maxLen; decide)
  have e0 : formT ⟨k, b, se, ws, h, c, t⟩ = { data := #[] } := if_pos hb
  have HE0 : Hid (formT ⟨k, b, se, ws, h, c, t⟩ = { data := #[] }) := e0
  clear e0 hP
  go_enter Tryz.func7, Tryz.ntmps7
  go_wp2_with (go_at_call 25; refine (specName_any b _ zb).mono ?_; rintro e w' ⟨rfl, rfl⟩; rw [hb])
  go_ret
  exact ⟨by rw [HE0.out]; rfl, bl_alloc (Below.refl _ _) _⟩
 by_cases h1 : k = 1
 ·
  subst h1; exact specK1 b se ws h c t g cap w hP hb
 by_cases h2 : k = 2
 ·
  subst h2; exact specK2 b se ws h c t (some ⟨g, 0, none⟩) cap w hP.sz hb
 by_cases h3 : k = 3
 ·
  subst h3; exact specK3 b se ws h c t (some ⟨g, 0, none⟩) cap w hP.sz hb
 by_cases h4 : k = 4
 ·
  subst h4; exact specK4 b se ws h c t (some ⟨g, 0, none⟩) cap w hP.sz hb
 by_cases h5 : k = 5
 ·
  subst h5; exact specK5 b se ws h c t (some ⟨g, 0, none⟩) cap w hP.sz hb
 by_cases h6 : k = 6
 ·
  subst h6; exact specK6 b se ws h c t (some ⟨g, 0, none⟩) cap w hP.sz hb
 exact specK7 k b se ws h c t (some ⟨g, 0, none⟩) cap w hP.sz hb h1 h2 h3 h4 h5 h6
set_option linter.unusedSimpArgs false
set_option maxRecDepth 4000 in
set_option maxHeartbeats 8000000 in
theorem implN1c (b : ByteArray) (se : Int) (ws : List W.WantD) (h c : ByteArray) (t : Int) (g cp : Nat) (w : World) (hcp : ws.length ≤ cp) (hP : ParIn w ⟨1, b, se, ws, h, c, t⟩ g) (ht : Tab w) (hf : toldB b h c se t ws = false) :
  Calls Tryz.prog 5 #[.agg #[.int .i64 1, .string b, .int .i64 se, .slice (some ⟨g, 0, none⟩) ws.length cp, .string h, .string c, .int .i64 t]] w fun e w' => e = .returned (.string ⟨#[]⟩) ∧ Below w.heap.size w w' := by
 obtain ⟨W1, hW1⟩ : ∃ W1, W1 = (w.alloc (.cells #[.int .i64 1, .string b, .int .i64 se, .slice (some ⟨g, 0, none⟩) ws.length cp, .string h, .string c, .int .i64 t] 25)) := ⟨_, rfl⟩
 have HB : Hid (Below w.heap.size w W1) := by rw [hW1]; exact bl_alloc (Below.refl _ _) _
 have HL : Hid (w.heap.size < W1.heap.size) := by rw [hW1]; show _ < _; simp
 have HTab : Hid (∀ y, Below W1.heap.size W1 y → Tab y) := fun y hb => (ht.keep HB.out).keep hb
 have HP : Hid (∀ y, Below W1.heap.size W1 y → ParIn y ⟨1, b, se, ws, h, c, t⟩ g) := fun y hb => (hP.keep HB.out).keep hb
 have ZB : Hid (b.size ≤ maxLen) := Nat.le_trans hP.b (by unfold maxLen; decide)
 have ZH : Hid (h.size ≤ maxLen) := Nat.le_trans hP.h (by unfold maxLen; decide)
 have ZC : Hid (c.size ≤ maxLen) := Nat.le_trans hP.c (by unfold maxLen; decide)
 have SB : Hid (b.size ≤ 1048576) := hP.b
 have SH : Hid (h.size ≤ 1048576) := hP.h
 have SC : Hid (c.size ≤ 1048576) := hP.c
 have SL : ws.length ≤ 1048576 := hP.l
 have KX : Hid (∀ y, Below W1.heap.size W1 y → ∀ k', y.cell? ⟨w.heap.size, k', none⟩ = (#[.int .i64 1, .string b, .int .i64 se, .slice (some ⟨g, 0, none⟩) ws.length cp, .string h, .string c, .int .i64 t] : Array Value)[k']?) := by
  intro y hb k'
  rw [hW1] at hb
  rw [box_keep hb k']
  simp [go_sem]
 have HW1 : Hid (W1 = (w.alloc (.cells #[.int .i64 1, .string b, .int .i64 se, .slice (some ⟨g, 0, none⟩) ws.length cp, .string h, .string c, .int .i64 t] 25))) := hW1
 clear hW1 ht hP
 go_enter Tryz.func5, Tryz.ntmps5
 go_wp2_with (first | (go_at_call 20; rw [← HW1.out]; refine (find1 w.heap.size W1 (KX.out W1 (Below.refl _ _) 0) HL.out).mono ?_; rintro e w2 ⟨rfl, b2⟩; have Y : Hid (Below W1.heap.size W1 (w2.alloc (.cells #[.int .i64 1, .string ⟨#[116, 111, 108, 100]⟩, .func (.func 73) #[] #[], .func (.func 74) #[] #[], .func (.func 75) #[] #[]] 51))) := bl_alloc b2 _; have Y2 : Hid (Below W1.heap.size W1 w2) := b2; clear b2; have kb0 := KX.out _ Y.out 0; have kb1 := KX.out _ Y.out 1; have kb2 := KX.out _ Y.out 2; have kb3 := KX.out _ Y.out 3; have kb4 := KX.out _ Y.out 4; have kb5 := KX.out _ Y.out 5; have kb6 := KX.out _ Y.out 6) | (go_at_call 73; refine (fitsToldC 1 b se ws h c t g cp _ (HP.out _ Y.out) hcp).mono ?_; rintro e w4 ⟨rfl, b4⟩; rw [hf]; obtain ⟨KF, Y4⟩ := form_keep Y.out b4; clear b4 kb0 kb1 kb2 kb3 kb4 kb5 kb6; have kc0 := KX.out _ Y4.out 0; have kc1 := KX.out _ Y4.out 1; have kc2 := KX.out _ Y4.out 2; have kc3 := KX.out _ Y4.out 3; have kc4 := KX.out _ Y4.out 4; have kc5 := KX.out _ Y4.out 5; have kc6 := KX.out _ Y4.out 6))
 go_ret
 exact ⟨rfl, bl_trans HB.out Y4.out⟩
def GY1c (bf : Nat) (b h c : ByteArray) (se t : Int) (ws : List W.WantD) (g cp : Nat) (w : World) : Nat → Value → Prop
 | 0, v => v = .pointer (some ⟨bf, 1, none⟩)
 | 1, v => v = .string ⟨#[116, 111, 108, 100]⟩
 | 2, v => v = .pointer (some ⟨bf, 3, none⟩)
 | 3, v => v = .func (.func 74) #[] #[]
 | 4, v => v = .agg #[.int .i64 1, .string b, .int .i64 se, .slice (some ⟨g, 0, none⟩) ws.length cp, .string h, .string c, .int .i64 t]
 | 5, v => RowS [b, decT se] w v
 | 6, v => v = .string (lineT { data := #[116, 111, 108, 100] } [b, decT se])
 | 7, v => v = .string (lineT { data := #[116, 111, 108, 100] } [b, decT se])
 | _, _ => True
theorem GY1c.keep {bf : Nat} {b h c : ByteArray} {se t : Int} {ws : List W.WantD} {g cp : Nat} {w w' : World} (hb : Below w.heap.size w w') : ∀ i v, GY1c bf b h c se t ws g cp w i v → GY1c bf b h c se t ws g cp w' i v
 | 0, _, h => h
 | 1, _, h => h
 | 2, _, h => h
 | 3, _, h => h
 | 4, _, h => h
 | 5, _, h => RowS.keep h hb
 | 6, _, h => h
 | 7, _, h => h
 | _ + 8, _, h => h
set_option maxRecDepth 4000 in
set_option maxHeartbeats 8000000 in
theorem implY1c (b : ByteArray) (se : Int) (ws : List W.WantD) (h c : ByteArray) (t : Int) (g cp : Nat) (w : World) (hcp : ws.length ≤ cp) (hP : ParIn w ⟨1, b, se, ws, h, c, t⟩ g) (ht : Tab w) (hf : toldB b h c se t ws = true) :
  Calls Tryz.prog 5 #[.agg #[.int .i64 1, .string b, .int .i64 se, .slice (some ⟨g, 0, none⟩) ws.length cp, .string h, .string c, .int .i64 t]] w fun e w' => e = .returned (.string (tailT ws (lineT { data := #[116, 111, 108, 100] } [b, decT se]))) ∧ Below w.heap.size w w' := by
 have HWr : Hid (∀ r ∈ ws, Writes r) := told_writes hf
 have hlen : ws.length ≤ 10 := told_few hf
 obtain ⟨W1, hW1⟩ : ∃ W1, W1 = (w.alloc (.cells #[.int .i64 1, .string b, .int .i64 se, .slice (some ⟨g, 0, none⟩) ws.length cp, .string h, .string c, .int .i64 t] 25)) := ⟨_, rfl⟩
 have HB : Hid (Below w.heap.size w W1) := by rw [hW1]; exact bl_alloc (Below.refl _ _) _
 have HL : Hid (w.heap.size < W1.heap.size) := by rw [hW1]; show _ < _; simp
 have HTab : Hid (∀ y, Below W1.heap.size W1 y → Tab y) := fun y hb => (ht.keep HB.out).keep hb
 have HP : Hid (∀ y, Below W1.heap.size W1 y → ParIn y ⟨1, b, se, ws, h, c, t⟩ g) := fun y hb => (hP.keep HB.out).keep hb
 have ZB : Hid (b.size ≤ maxLen) := Nat.le_trans hP.b (by unfold maxLen; decide)
 have ZH : Hid (h.size ≤ maxLen) := Nat.le_trans hP.h (by unfold maxLen; decide)
 have ZC : Hid (c.size ≤ maxLen) := Nat.le_trans hP.c (by unfold maxLen; decide)
 have SB : Hid (b.size ≤ 1048576) := hP.b
 have SH : Hid (h.size ≤ 1048576) := hP.h
 have SC : Hid (c.size ≤ 1048576) := hP.c
 have SL : ws.length ≤ 1048576 := hP.l
 have KX : Hid (∀ y, Below W1.heap.size W1 y → ∀ k', y.cell? ⟨w.heap.size, k', none⟩ = (#[.int .i64 1, .string b, .int .i64 se, .slice (some ⟨g, 0, none⟩) ws.length cp, .string h, .string c, .int .i64 t] : Array Value)[k']?) := by
  intro y hb k'
  rw [hW1] at hb
  rw [box_keep hb k']
  simp [go_sem]
 have HW1 : Hid (W1 = (w.alloc (.cells #[.int .i64 1, .string b, .int .i64 se, .slice (some ⟨g, 0, none⟩) ws.length cp, .string h, .string c, .int .i64 t] 25))) := hW1
 clear hW1 ht hP
 have FACT : (0 ≤ se ∧ se ≤ 1000000) ∧ (0 ≤ t ∧ t ≤ 1000000) := by
  have hh := hf
  unfold toldB noHoldB inB at hh
  simp only [Bool.and_eq_true, beq_iff_eq, decide_eq_true_eq] at hh
  omega
 have HS : Hid (0 ≤ se ∧ se ≤ 1000000) := FACT.1
 have HT : Hid (0 ≤ t ∧ t ≤ 1000000) := FACT.2
 clear FACT
 have HZ : Hid (∀ x ∈ [b, decT se], x.size ≤ 1000000000) := by
  have z1 := SB.out
  have z2 := SH.out
  have z3 := SC.out
  have z4 := decT_le se HS.out.1 (by have := HS.out.2; omega)
  have z5 := decT_le t HT.out.1 (by have := HT.out.2; omega)
  intro x hx
  simp only [List.mem_cons, List.not_mem_nil, or_false] at hx
  rcases hx with rfl | rfl
  all_goals omega
 have HT0 : Hid ((lineT { data := #[116, 111, 108, 100] } [b, decT se]).size ≤ 12000000000) := by
  have h1 := joinT_size 1000000000 [b, decT se] HZ.out
  have e1 : [b, decT se].length = 2 := rfl
  rw [e1] at h1
  have h2 := catL_n 3000000000 4 [{ data := #[116, 111, 108, 100] }, { data := #[32] }, joinT [b, decT se], { data := #[10] }] (by
   intro p hp
   simp only [List.mem_cons, List.not_mem_nil, or_false] at hp
   rcases hp with rfl | rfl | rfl | rfl
   all_goals first | omega | decide) rfl
  exact Nat.le_trans h2 (by decide)
 go_enter Tryz.func5, Tryz.ntmps5
 go_wp2_with (first | (go_at_call 20; rw [← HW1.out]; refine (find1 w.heap.size W1 (KX.out W1 (Below.refl _ _) 0) HL.out).mono ?_; rintro e w2 ⟨rfl, b2⟩; have Y : Hid (Below W1.heap.size W1 (w2.alloc (.cells #[.int .i64 1, .string ⟨#[116, 111, 108, 100]⟩, .func (.func 73) #[] #[], .func (.func 74) #[] #[], .func (.func 75) #[] #[]] 51))) := bl_alloc b2 _; have Y2 : Hid (Below W1.heap.size W1 w2) := b2; clear b2; have kb0 := KX.out _ Y.out 0; have kb1 := KX.out _ Y.out 1; have kb2 := KX.out _ Y.out 2; have kb3 := KX.out _ Y.out 3; have kb4 := KX.out _ Y.out 4; have kb5 := KX.out _ Y.out 5; have kb6 := KX.out _ Y.out 6) | (go_at_call 73; refine (fitsToldC 1 b se ws h c t g cp _ (HP.out _ Y.out) hcp).mono ?_; rintro e w4 ⟨rfl, b4⟩; rw [hf]; obtain ⟨KF, Y4⟩ := form_keep Y.out b4; clear b4 kb0 kb1 kb2 kb3 kb4 kb5 kb6; have kc0 := KX.out _ Y4.out 0; have kc1 := KX.out _ Y4.out 1; have kc2 := KX.out _ Y4.out 2; have kc3 := KX.out _ Y4.out 3; have kc4 := KX.out _ Y4.out 4; have kc5 := KX.out _ Y4.out 5; have kc6 := KX.out _ Y4.out 6))
 refine wp_region_any (by kernel_rfl) ?_
 refine reg_invP slY 8 (GY1c w2.heap.size b h c se t ws g cp) (fun y => Below w4.heap.size w4 y) (by decide) rfl (bl_drew (Below.refl _ _)) ?doney1 ?stepy1
 case doney1 =>
  intro a y hI
  have r5 : a.tmps.getD 5 undef = .string (lineT { data := #[116, 111, 108, 100] } [b, decT se]) := hI.all 7 (by omega)
  obtain ⟨l, hl, ha⟩ := frameP_two (lo := 22) (n := 7) (se := 5) hI.df hI.sz (lb rfl) (lb rfl) (fun j hj1 hj2 => hI.out j (fun i hi => slY_far j hj1 hj2 i hi))
  rw [r5] at ha
  have HY : Hid (Below w4.heap.size w4 y) := hI.d
  clear r5 hI
  subst ha
  obtain ⟨q0, l0, rfl, hl0⟩ := lenP_succ hl
  obtain ⟨q1, l1, rfl, hl1⟩ := lenP_succ hl0
  obtain ⟨q2, l2, rfl, hl2⟩ := lenP_succ hl1
  obtain ⟨q3, l3, rfl, hl3⟩ := lenP_succ hl2
  obtain ⟨q4, l4, rfl, hl4⟩ := lenP_succ hl3
  obtain ⟨q5, l5, rfl, hl5⟩ := lenP_succ hl4
  obtain ⟨q6, l6, rfl, hl6⟩ := lenP_succ hl5
  obtain rfl := lenP_zero hl6
  simp only [List.setIfInBounds_toArray, List.set_cons_succ, List.set_cons_zero, List.take_succ_cons, List.take_zero, List.drop_succ_cons, List.drop_zero, List.cons_append, List.nil_append, Nat.reduceAdd]
  have HYY : Hid (Below W1.heap.size W1 y) := bl_trans Y4.out HY.out
  have kd3 := KX.out y HYY.out 3
  clear kc0 kc1 kc2 kc3 kc4 kc5 kc6
  go_wp2_with fail
  clear kd3
  go_loopw [5, 32] (fun x i wx => ∃ (j : Nat), i = .int .i64 (j : Int) ∧ j ≤ ws.length ∧ x = .string (tailT (ws.take j) (lineT { data := #[116, 111, 108, 100] } [b, decT se])) ∧ Hid (Below W1.heap.size W1 wx)) (fun _ i _ => ws.length - (intOf i).toNat)
  case atStart => exact ⟨0, rfl, Nat.zero_le _, rfl, HYY.out⟩
  case round =>
   obtain ⟨j, rfl, hj, rfl, HW⟩ := hrel
   by_cases hlt : j < ws.length
   ·
    obtain ⟨r, hr⟩ : ∃ r, ws[j]? = some r := ⟨ws[j], List.getElem?_eq_getElem hlt⟩
    have Hr : Hid (ws[j]? = some r) := hr
    have Hw : Hid (Writes r) := HWr.out r (List.mem_of_getElem? hr)
    obtain ⟨c0, c1, c2, c3, c4, c5, c6⟩ := W.RowsAt.at (HP.out _ HW.out).r hr
    simp only [Nat.zero_add] at c0 c1 c2 c3 c4 c5 c6
    have j0 : (0 : Int) ≤ (j : Int) := by omega
    have hz : ¬ (9223372036854775807 < (tailT (ws.take j) (lineT { data := #[116, 111, 108, 100] } [b, decT se])).size + (lineT { data := #[119, 97, 110, 116] } [r.c, decT r.v, holdT r.h, decT r.p, decT r.s, decT r.d, decT r.g]).size) := by
     have h1 := tail_le (ws.take j) (lineT { data := #[116, 111, 108, 100] } [b, decT se]) (fun q hq => HWr.out q (List.mem_of_mem_take hq))
     have h2 := HT0.out
     have h3 : (ws.take j).length ≤ 10 := by rw [List.length_take]; omega
     have h4 : (ws.take j).length * 15000000000 ≤ 10 * 15000000000 := Nat.mul_le_mul_right _ h3
     have h5 := wantT_size Hw.out
     rw [wantT_line] at h5
     have h6 : (lineT { data := #[119, 97, 110, 116] } [r.c, decT r.v, holdT r.h, decT r.p, decT r.s, decT r.d, decT r.g]).size ≤ 15000000000 := h5
     omega
    clear hr
    obtain ⟨TT, hTT⟩ : ∃ TT, TT = tailT (ws.take j) (lineT { data := #[116, 111, 108, 100] } [b, decT se]) := ⟨_, rfl⟩
    obtain ⟨LL, hLL⟩ : ∃ LL, LL = lineT { data := #[119, 97, 110, 116] } [r.c, decT r.v, holdT r.h, decT r.p, decT r.s, decT r.d, decT r.g] := ⟨_, rfl⟩
    rw [← hTT, ← hLL] at hz
    rw [← hTT]
    have HTT : Hid (TT = tailT (ws.take j) (lineT { data := #[116, 111, 108, 100] } [b, decT se])) := hTT
    have HLL : Hid (LL = lineT { data := #[119, 97, 110, 116] } [r.c, decT r.v, holdT r.h, decT r.p, decT r.s, decT r.d, decT r.g]) := hLL
    clear hTT hLL
    go_wp2_with (first | (go_at_call 23; refine (writeWant r _ Hw.out (HTab.out _ (bl_alloc HW.out _))).mono ?_; rintro e w5 ⟨⟨g5, cap5, rfl, hc5, hg5, hx5⟩, b5⟩; have X5 : Hid (∀ (j : Nat) x, [r.c, decT r.v, holdT r.h, decT r.p, decT r.s, decT r.d, decT r.g][j]? = some x → w5.cell? ⟨g5, j, none⟩ = some (.string x)) := hx5; have B5 : Hid (Below W1.heap.size W1 w5) := bl_trans (bl_alloc HW.out _) b5; clear hx5 b5) | (go_at_call 22; refine (implLine { data := #[119, 97, 110, 116] } g5 cap5 [r.c, decT r.v, holdT r.h, decT r.p, decT r.s, decT r.d, decT r.g] _ X5.out hg5 (lb rfl) hc5 (want_words Hw.out) (by decide)).mono ?_; rw [← HLL.out]; rintro e w6 ⟨rfl, b6⟩; have B6 : Hid (Below W1.heap.size W1 w6) := bl_trans B5.out b6; clear b6))
    exact ⟨⟨j + 1, by go_num, by omega, by rw [tail_succ Hr.out, ← HTT.out, wantT_line, HLL.out]; rfl, B6.out⟩, by simp [intOf]; omega⟩
   ·
    go_wp2_with fail
    go_ret
    have hj2 : j = ws.length := by omega
    subst hj2
    rw [List.take_of_length_le (Nat.le_refl _)]
    exact ⟨rfl, bl_trans HB.out HW.out⟩
 case stepy1 =>
  intro listed x y i hI hi hlt
  obtain rfl | rfl | rfl | rfl | rfl | rfl | rfl | rfl : i = 0 ∨ i = 1 ∨ i = 2 ∨ i = 3 ∨ i = 4 ∨ i = 5 ∨ i = 6 ∨ i = 7 := by omega
  ·
   clear hi
   refine wpOp_plain rfl rfl (wp_cover fun K hK => ?_)
   have i3 : x.tmps[3]?.getD undef = _ := ev_tmp (hI.out 3 (slY_out 3 (by decide)))
   have HJ := hidP hI
   clear hI
   go_simp
   exact HJ.out.sm hK (by omega) (lb rfl) (slY_inj (by omega)) rfl
  ·
   have gd0 := hI.good 0 (by omega) (waits_of hi (j := 0) (by rfl))
   clear hi
   refine wpOp_plain rfl rfl (wp_cover fun K hK => ?_)
   have ed0 : x.tmps[22]?.getD undef = _ := ev_tmp gd0
   have k9 : y.cell? ⟨w2.heap.size, 1, none⟩ = some (.string ⟨#[116, 111, 108, 100]⟩) := KF.out y hI.d 1
   have HJ := hidP hI
   clear hI gd0
   go_simp
   exact HJ.out.sm hK (by omega) (lb rfl) (slY_inj (by omega)) rfl
  ·
   clear hi
   refine wpOp_plain rfl rfl (wp_cover fun K hK => ?_)
   have i3 : x.tmps[3]?.getD undef = _ := ev_tmp (hI.out 3 (slY_out 3 (by decide)))
   have HJ := hidP hI
   clear hI
   go_simp
   exact HJ.out.sm hK (by omega) (lb rfl) (slY_inj (by omega)) rfl
  ·
   have gd2 := hI.good 2 (by omega) (waits_of hi (j := 2) (by rfl))
   clear hi
   refine wpOp_plain rfl rfl (wp_cover fun K hK => ?_)
   have ed2 : x.tmps[24]?.getD undef = _ := ev_tmp gd2
   have k9 : y.cell? ⟨w2.heap.size, 3, none⟩ = some (.func (.func 74) #[] #[]) := KF.out y hI.d 3
   have HJ := hidP hI
   clear hI gd2
   go_simp
   exact HJ.out.sm hK (by omega) (lb rfl) (slY_inj (by omega)) rfl
  ·
   clear hi
   refine wpOp_plain rfl rfl (wp_cover fun K hK => ?_)
   have i1 : x.tmps[1]?.getD undef = _ := ev_tmp (hI.out 1 (slY_out 1 (by decide)))
   have x0 := KX.out y (bl_trans Y4.out hI.d) 0
   have x1 := KX.out y (bl_trans Y4.out hI.d) 1
   have x2 := KX.out y (bl_trans Y4.out hI.d) 2
   have x3 := KX.out y (bl_trans Y4.out hI.d) 3
   have x4 := KX.out y (bl_trans Y4.out hI.d) 4
   have x5 := KX.out y (bl_trans Y4.out hI.d) 5
   have x6 := KX.out y (bl_trans Y4.out hI.d) 6
   have HJ := hidP hI
   clear hI
   go_simp
   exact HJ.out.sm hK (by omega) (lb rfl) (slY_inj (by omega)) rfl
  ·
   have gd3 := hI.good 3 (by omega) (waits_of hi (j := 3) (by rfl))
   have gd4 := hI.good 4 (by omega) (waits_of hi (j := 4) (by rfl))
   clear hi
   refine wpOp_plain rfl rfl (wp_cover fun K hK => ?_)
   have ed3 : x.tmps[25]?.getD undef = _ := ev_tmp gd3
   have ed4 : x.tmps[26]?.getD undef = _ := ev_tmp gd4
   have HJ := hidP hI
   clear hI gd3 gd4
   go_simp
   refine (writeSeen 1 b se _ h c t y rfl HS.out HT.out (HTab.out y (bl_trans Y4.out HJ.out.d))).mono ?_
   rintro e y' ⟨⟨v7, rfl, hrow⟩, hb⟩
   exact hK.out _ _ (HJ.out.put (by omega) (lb rfl) (slY_inj (by omega)) (hrow) (fun j u _ h => GY1c.keep hb j u h) (bl_trans HJ.out.d hb))
  ·
   have gd1 := hI.good 1 (by omega) (waits_of hi (j := 1) (by rfl))
   have gd5 := hI.good 5 (by omega) (waits_of hi (j := 5) (by rfl))
   clear hi
   refine wpOp_plain rfl rfl (wp_cover fun K hK => ?_)
   have ed1 : x.tmps[23]?.getD undef = _ := ev_tmp gd1
   obtain ⟨g3, g4, g5, g6⟩ := gd5
   have ed5 : x.tmps[27]?.getD undef = _ := ev_tmp g4
   clear g4
   have G6 : Hid (∀ (j : Nat) x, ([b, decT se] : List ByteArray)[j]? = some x → y.cell? ⟨g3, j, none⟩ = some (.string x)) := g6
   clear g6
   have HJ := hidP hI
   clear hI gd1
   go_simp
   refine (implLine { data := #[116, 111, 108, 100] } g3 2 [b, decT se] y G6.out g5 (lb rfl) (lb rfl) HZ.out (by decide)).mono ?_
   rintro e y' ⟨rfl, hb⟩
   exact hK.out _ _ (HJ.out.put (by omega) (lb rfl) (slY_inj (by omega)) (rfl) (fun j u _ h => GY1c.keep hb j u h) (bl_trans HJ.out.d hb))
  ·
   have gd6 := hI.good 6 (by omega) (waits_of hi (j := 6) (by rfl))
   clear hi
   refine wpOp_plain rfl rfl (wp_cover fun K hK => ?_)
   have ed6 : x.tmps[28]?.getD undef = _ := ev_tmp gd6
   have HJ := hidP hI
   clear hI gd6
   go_simp
   exact HJ.out.sm hK (by omega) (lb rfl) (slY_inj (by omega)) rfl
set_option maxRecDepth 4000 in
set_option maxHeartbeats 8000000 in
theorem implF1c (b : ByteArray) (se : Int) (ws : List W.WantD) (h c : ByteArray) (t : Int) (g cp : Nat) (w : World) (hcp : ws.length ≤ cp) (hP : ParIn w ⟨1, b, se, ws, h, c, t⟩ g) (ht : Tab w) :
  Calls Tryz.prog 5 #[.agg #[.int .i64 1, .string b, .int .i64 se, .slice (some ⟨g, 0, none⟩) ws.length cp, .string h, .string c, .int .i64 t]] w fun e w' => e = .returned (.string (formT ⟨1, b, se, ws, h, c, t⟩)) ∧ Below w.heap.size w w' := by
 cases hf : toldB b h c se t ws
 ·
  rw [told_no hf]
  exact implN1c b se ws h c t g cp w hcp hP ht hf
 ·
  rw [told_yes hf]
  exact implY1c b se ws h c t g cp w hcp hP ht hf
end Go.Proofs.YtgakmkhbnjofhaaGreatDoor
