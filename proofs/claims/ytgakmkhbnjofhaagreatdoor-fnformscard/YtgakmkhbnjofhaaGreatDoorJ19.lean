import Derived.Test.YtgakmkhbnjofhaaGreatDoorJ18
import Derived.Laws.Tables
import Derived.Test.YtgakmkhbnjofhaaGreatDoorJ17
namespace Go.Proofs.YtgakmkhbnjofhaaGreatDoor
open Go.RowKit
set_option linter.unusedVariables false
theorem clos_any (j k : Int) (v1 v2 v3 v4 : Value) (o1 : v1.oneCell' = true) (o2 : v2.oneCell' = true) (o3 : v3.oneCell' = true) (o4 : v4.oneCell' = true) (b : Nat) (w : World) (hk : w.cell? ⟨b, 0, none⟩ = some (.int .i64 k)) (hb : b < w.heap.size) :
  Calls Tryz.prog 21 #[.agg #[.int .i64 j, v1, v2, v3, v4], .pointer (some ⟨b, 0, none⟩)] w fun e w' => e = .returned (.bool (j == k)) ∧ Below w.heap.size w w' := by
 have hk2 : (w.alloc (.cells #[.int .i64 j, v1, v2, v3, v4] 51)).cell? ⟨b, 0, none⟩ = some (.int .i64 k) := by rw [(bl_alloc (Below.refl w.heap.size w) _).cell (p := ⟨b, 0, none⟩) hb]; exact hk
 go_enter Tryz.func21, Tryz.ntmps21
 go_wp2_with fail
 all_goals (go_ret; refine ⟨ret_b ?_, ?_⟩)
 all_goals first | exact bl_alloc (Below.refl _ _) _ | simp [*]
def idxK (k : Int) : Int := if 1 ≤ k ∧ k ≤ 6 then k - 1 else -1
set_option maxRecDepth 4000 in
set_option maxHeartbeats 4000000 in
theorem idx_any (k : Int) (b g : Nat) (w : World) (hg : g < w.heap.size) (hF : ∀ j, w.cell? ⟨g, j, none⟩ = formsA[j]?) (hk : w.cell? ⟨b, 0, none⟩ = some (.int .i64 k)) (hb : b < w.heap.size) :
  Calls Tryz.prog 53 #[.slice (some ⟨g, 0, none⟩) 6 6, .func (.func 21) #[] #[.pointer (some ⟨b, 0, none⟩)]] w fun e w' => e = .returned (.int .i64 (idxK k)) ∧ Below w.heap.size w w' := by
 have HF : Hid (∀ y, Below w.heap.size w y → ∀ j, y.cell? ⟨g, j, none⟩ = formsA[j]?) := fun y hy j => (hy.cell (p := ⟨g, j, none⟩) hg).trans (hF j)
 have HK : Hid (∀ y, Below w.heap.size w y → y.cell? ⟨b, 0, none⟩ = some (.int .i64 k)) := fun y hy => (hy.cell (p := ⟨b, 0, none⟩) hb).trans hk
 have HL : Hid (b < w.heap.size) := hb
 clear hF hk hb
 go_enter Tryz.func53, Tryz.ntmps53
 go_wp2
 go_loopw [8] (fun i wx => ∃ (n : Nat), n ≤ 6 ∧ i = .int .i64 n ∧ Hid (∀ j : Nat, j < n → k ≠ j + 1) ∧ Hid (Below w.heap.size w wx)) (fun i _ => 6 - (intOf i).toNat)
 case atStart => exact ⟨0, Nat.zero_le _, rfl, fun j h => by omega, Below.refl _ _⟩
 case round =>
  obtain ⟨n, hn, rfl, Ha, hB⟩ := hrel
  by_cases hlt : n < 6
  ·
   obtain rfl | rfl | rfl | rfl | rfl | rfl : n = 0 ∨ n = 1 ∨ n = 2 ∨ n = 3 ∨ n = 4 ∨ n = 5 := by omega
   ·
    have k0 : wr.cell? ⟨g, 0, none⟩ = some (.int .i64 1) := HF.out wr hB.out 0
    have k1 : wr.cell? ⟨g, 1, none⟩ = some (.string ⟨#[116, 111, 108, 100]⟩) := HF.out wr hB.out 1
    have k2 : wr.cell? ⟨g, 2, none⟩ = some (.func (.func 73) #[] #[]) := HF.out wr hB.out 2
    have k3 : wr.cell? ⟨g, 3, none⟩ = some (.func (.func 74) #[] #[]) := HF.out wr hB.out 3
    have k4 : wr.cell? ⟨g, 4, none⟩ = some (.func (.func 75) #[] #[]) := HF.out wr hB.out 4
    by_cases hh : k = 1
    ·
     have hq : ((1 : Int) == k) = true := by rw [hh]; rfl
     go_wp2_with (go_at_call 21; refine (clos_any 1 k _ _ _ _ rfl rfl rfl rfl b _ (HK.out wr hB.out) (Nat.lt_of_lt_of_le HL.out hB.out.size)).mono ?_; rintro e w1 ⟨rfl, hb⟩; rw [hq]; have B1 : Hid (Below wr.heap.size wr w1) := hb; clear hb)
     go_ret
     exact ⟨by rw [hh]; rfl, bl_trans hB.out B1.out⟩
    ·
     have hq : ((1 : Int) == k) = false := by simpa using fun h => hh h.symm
     go_wp2_with (go_at_call 21; refine (clos_any 1 k _ _ _ _ rfl rfl rfl rfl b _ (HK.out wr hB.out) (Nat.lt_of_lt_of_le HL.out hB.out.size)).mono ?_; rintro e w1 ⟨rfl, hb⟩; rw [hq]; have B1 : Hid (Below wr.heap.size wr w1) := hb; clear hb)
     exact ⟨⟨1, by omega, by go_num, (fun j hj => by
      by_cases e : j = 0
      ·
       subst e; exact hh
      ·
       exact Ha.out j (by omega)), bl_trans hB.out B1.out⟩, by simp [intOf]⟩
   ·
    have k0 : wr.cell? ⟨g, 5, none⟩ = some (.int .i64 2) := HF.out wr hB.out 5
    have k1 : wr.cell? ⟨g, 6, none⟩ = some (.string ⟨#[97, 115, 107, 101, 100]⟩) := HF.out wr hB.out 6
    have k2 : wr.cell? ⟨g, 7, none⟩ = some (.func (.func 76) #[] #[]) := HF.out wr hB.out 7
    have k3 : wr.cell? ⟨g, 8, none⟩ = some (.func (.func 77) #[] #[]) := HF.out wr hB.out 8
    have k4 : wr.cell? ⟨g, 9, none⟩ = some (.func (.func 78) #[] #[]) := HF.out wr hB.out 9
    by_cases hh : k = 2
    ·
     have hq : ((2 : Int) == k) = true := by rw [hh]; rfl
     go_wp2_with (go_at_call 21; refine (clos_any 2 k _ _ _ _ rfl rfl rfl rfl b _ (HK.out wr hB.out) (Nat.lt_of_lt_of_le HL.out hB.out.size)).mono ?_; rintro e w1 ⟨rfl, hb⟩; rw [hq]; have B1 : Hid (Below wr.heap.size wr w1) := hb; clear hb)
     go_ret
     exact ⟨by rw [hh]; rfl, bl_trans hB.out B1.out⟩
    ·
     have hq : ((2 : Int) == k) = false := by simpa using fun h => hh h.symm
     go_wp2_with (go_at_call 21; refine (clos_any 2 k _ _ _ _ rfl rfl rfl rfl b _ (HK.out wr hB.out) (Nat.lt_of_lt_of_le HL.out hB.out.size)).mono ?_; rintro e w1 ⟨rfl, hb⟩; rw [hq]; have B1 : Hid (Below wr.heap.size wr w1) := hb; clear hb)
     exact ⟨⟨2, by omega, by go_num, (fun j hj => by
      by_cases e : j = 1
      ·
       subst e; exact hh
      ·
       exact Ha.out j (by omega)), bl_trans hB.out B1.out⟩, by simp [intOf]⟩
   ·
    have k0 : wr.cell? ⟨g, 10, none⟩ = some (.int .i64 3) := HF.out wr hB.out 10
    have k1 : wr.cell? ⟨g, 11, none⟩ = some (.string ⟨#[103, 105, 118, 101, 110]⟩) := HF.out wr hB.out 11
    have k2 : wr.cell? ⟨g, 12, none⟩ = some (.func (.func 76) #[] #[]) := HF.out wr hB.out 12
    have k3 : wr.cell? ⟨g, 13, none⟩ = some (.func (.func 77) #[] #[]) := HF.out wr hB.out 13
    have k4 : wr.cell? ⟨g, 14, none⟩ = some (.func (.func 78) #[] #[]) := HF.out wr hB.out 14
    by_cases hh : k = 3
    ·
     have hq : ((3 : Int) == k) = true := by rw [hh]; rfl
     go_wp2_with (go_at_call 21; refine (clos_any 3 k _ _ _ _ rfl rfl rfl rfl b _ (HK.out wr hB.out) (Nat.lt_of_lt_of_le HL.out hB.out.size)).mono ?_; rintro e w1 ⟨rfl, hb⟩; rw [hq]; have B1 : Hid (Below wr.heap.size wr w1) := hb; clear hb)
     go_ret
     exact ⟨by rw [hh]; rfl, bl_trans hB.out B1.out⟩
    ·
     have hq : ((3 : Int) == k) = false := by simpa using fun h => hh h.symm
     go_wp2_with (go_at_call 21; refine (clos_any 3 k _ _ _ _ rfl rfl rfl rfl b _ (HK.out wr hB.out) (Nat.lt_of_lt_of_le HL.out hB.out.size)).mono ?_; rintro e w1 ⟨rfl, hb⟩; rw [hq]; have B1 : Hid (Below wr.heap.size wr w1) := hb; clear hb)
     exact ⟨⟨3, by omega, by go_num, (fun j hj => by
      by_cases e : j = 2
      ·
       subst e; exact hh
      ·
       exact Ha.out j (by omega)), bl_trans hB.out B1.out⟩, by simp [intOf]⟩
   ·
    have k0 : wr.cell? ⟨g, 15, none⟩ = some (.int .i64 4) := HF.out wr hB.out 15
    have k1 : wr.cell? ⟨g, 16, none⟩ = some (.string ⟨#[98, 97, 99, 107]⟩) := HF.out wr hB.out 16
    have k2 : wr.cell? ⟨g, 17, none⟩ = some (.func (.func 76) #[] #[]) := HF.out wr hB.out 17
    have k3 : wr.cell? ⟨g, 18, none⟩ = some (.func (.func 77) #[] #[]) := HF.out wr hB.out 18
    have k4 : wr.cell? ⟨g, 19, none⟩ = some (.func (.func 78) #[] #[]) := HF.out wr hB.out 19
    by_cases hh : k = 4
    ·
     have hq : ((4 : Int) == k) = true := by rw [hh]; rfl
     go_wp2_with (go_at_call 21; refine (clos_any 4 k _ _ _ _ rfl rfl rfl rfl b _ (HK.out wr hB.out) (Nat.lt_of_lt_of_le HL.out hB.out.size)).mono ?_; rintro e w1 ⟨rfl, hb⟩; rw [hq]; have B1 : Hid (Below wr.heap.size wr w1) := hb; clear hb)
     go_ret
     exact ⟨by rw [hh]; rfl, bl_trans hB.out B1.out⟩
    ·
     have hq : ((4 : Int) == k) = false := by simpa using fun h => hh h.symm
     go_wp2_with (go_at_call 21; refine (clos_any 4 k _ _ _ _ rfl rfl rfl rfl b _ (HK.out wr hB.out) (Nat.lt_of_lt_of_le HL.out hB.out.size)).mono ?_; rintro e w1 ⟨rfl, hb⟩; rw [hq]; have B1 : Hid (Below wr.heap.size wr w1) := hb; clear hb)
     exact ⟨⟨4, by omega, by go_num, (fun j hj => by
      by_cases e : j = 3
      ·
       subst e; exact hh
      ·
       exact Ha.out j (by omega)), bl_trans hB.out B1.out⟩, by simp [intOf]⟩
   ·
    have k0 : wr.cell? ⟨g, 20, none⟩ = some (.int .i64 5) := HF.out wr hB.out 20
    have k1 : wr.cell? ⟨g, 21, none⟩ = some (.string ⟨#[103, 111, 116, 98, 97, 99, 107]⟩) := HF.out wr hB.out 21
    have k2 : wr.cell? ⟨g, 22, none⟩ = some (.func (.func 79) #[] #[]) := HF.out wr hB.out 22
    have k3 : wr.cell? ⟨g, 23, none⟩ = some (.func (.func 80) #[] #[]) := HF.out wr hB.out 23
    have k4 : wr.cell? ⟨g, 24, none⟩ = some (.func (.func 81) #[] #[]) := HF.out wr hB.out 24
    by_cases hh : k = 5
    ·
     have hq : ((5 : Int) == k) = true := by rw [hh]; rfl
     go_wp2_with (go_at_call 21; refine (clos_any 5 k _ _ _ _ rfl rfl rfl rfl b _ (HK.out wr hB.out) (Nat.lt_of_lt_of_le HL.out hB.out.size)).mono ?_; rintro e w1 ⟨rfl, hb⟩; rw [hq]; have B1 : Hid (Below wr.heap.size wr w1) := hb; clear hb)
     go_ret
     exact ⟨by rw [hh]; rfl, bl_trans hB.out B1.out⟩
    ·
     have hq : ((5 : Int) == k) = false := by simpa using fun h => hh h.symm
     go_wp2_with (go_at_call 21; refine (clos_any 5 k _ _ _ _ rfl rfl rfl rfl b _ (HK.out wr hB.out) (Nat.lt_of_lt_of_le HL.out hB.out.size)).mono ?_; rintro e w1 ⟨rfl, hb⟩; rw [hq]; have B1 : Hid (Below wr.heap.size wr w1) := hb; clear hb)
     exact ⟨⟨5, by omega, by go_num, (fun j hj => by
      by_cases e : j = 4
      ·
       subst e; exact hh
      ·
       exact Ha.out j (by omega)), bl_trans hB.out B1.out⟩, by simp [intOf]⟩
   ·
    have k0 : wr.cell? ⟨g, 25, none⟩ = some (.int .i64 6) := HF.out wr hB.out 25
    have k1 : wr.cell? ⟨g, 26, none⟩ = some (.string ⟨#[104, 101, 114, 101]⟩) := HF.out wr hB.out 26
    have k2 : wr.cell? ⟨g, 27, none⟩ = some (.func (.func 82) #[] #[]) := HF.out wr hB.out 27
    have k3 : wr.cell? ⟨g, 28, none⟩ = some (.func (.func 74) #[] #[]) := HF.out wr hB.out 28
    have k4 : wr.cell? ⟨g, 29, none⟩ = some (.func (.func 75) #[] #[]) := HF.out wr hB.out 29
    by_cases hh : k = 6
    ·
     have hq : ((6 : Int) == k) = true := by rw [hh]; rfl
     go_wp2_with (go_at_call 21; refine (clos_any 6 k _ _ _ _ rfl rfl rfl rfl b _ (HK.out wr hB.out) (Nat.lt_of_lt_of_le HL.out hB.out.size)).mono ?_; rintro e w1 ⟨rfl, hb⟩; rw [hq]; have B1 : Hid (Below wr.heap.size wr w1) := hb; clear hb)
     go_ret
     exact ⟨by rw [hh]; rfl, bl_trans hB.out B1.out⟩
    ·
     have hq : ((6 : Int) == k) = false := by simpa using fun h => hh h.symm
     go_wp2_with (go_at_call 21; refine (clos_any 6 k _ _ _ _ rfl rfl rfl rfl b _ (HK.out wr hB.out) (Nat.lt_of_lt_of_le HL.out hB.out.size)).mono ?_; rintro e w1 ⟨rfl, hb⟩; rw [hq]; have B1 : Hid (Below wr.heap.size wr w1) := hb; clear hb)
     exact ⟨⟨6, by omega, by go_num, (fun j hj => by
      by_cases e : j = 5
      ·
       subst e; exact hh
      ·
       exact Ha.out j (by omega)), bl_trans hB.out B1.out⟩, by simp [intOf]⟩
  ·
   obtain rfl : n = 6 := by omega
   go_wp2_with fail
   go_ret
   refine ⟨?_, hB.out⟩
   have hx : idxK k = -1 := by
    unfold idxK
    rw [if_neg]
    rintro ⟨h1, h2⟩
    have := Ha.out (k - 1).toNat (by omega)
    omega
   rw [hx]
   rfl
theorem fm_world {w w1 : World} (h : w1 = (w.alloc (.cells #[.int .i64 0, .string ⟨#[]⟩, .nilFunc, .nilFunc, .nilFunc] 51)).alloc (.cells formsA 51)) :
  Hid (∀ j, w1.cell? ⟨w.heap.size + 1, j, none⟩ = formsA[j]?) ∧ Hid (w.heap.size + 1 < w1.heap.size) ∧ Hid (Below w.heap.size w w1) ∧ Hid (w1.heap[w.heap.size]? = some (.cells #[.int .i64 0, .string ⟨#[]⟩, .nilFunc, .nilFunc, .nilFunc] 51 (0, 0))) := by
 subst h
 refine ⟨fun j => ?_, ?_, bl_alloc (bl_alloc (Below.refl _ _) _) _, ?_⟩
 ·
  have := World.cell?_alloc_new (w.alloc (.cells #[.int .i64 0, .string ⟨#[]⟩, .nilFunc, .nilFunc, .nilFunc] 51)) formsA 51 j
  simp at this ⊢
 ·
  show _ < _; simp
 ·
  show _ = _
  rw [(bl_alloc (Below.refl (w.alloc (.cells #[.int .i64 0, .string ⟨#[]⟩, .nilFunc, .nilFunc, .nilFunc] 51)).heap.size _) (.cells formsA 51)).block _ (by simp)]
  exact heap_alloc_new w _
theorem fm_set {w y : World} {cs old : Array Value} {t : TypeId} (h : y.heap[w.heap.size]? = some (.cells old t (0, 0))) (hb : Below w.heap.size w y) :
  Hid (∀ j, (y.setRow w.heap.size cs).cell? ⟨w.heap.size, j, none⟩ = cs[j]?) ∧ Hid (Below w.heap.size w (y.setRow w.heap.size cs)) := by
 have h1 := setRow_heap y w.heap.size old cs t _ h
 refine ⟨fun j => ?_, ?_⟩
 ·
  show _ = _
  rw [cell_of_row _ _ j cs t (0, 0) h1]
 ·
  show Below _ _ _
  exact Below.grown (row := some w.heap.size) hb ⟨rfl, rfl, rfl, by simp, fun k _ hk => setRow_other y w.heap.size k _ (fun e => hk (by simp [e]))⟩ hb.size (fun k hk => by cases hk; exact Nat.le_refl _)
set_option maxRecDepth 4000 in
set_option maxHeartbeats 4000000 in
theorem find1  (b : Nat) (w : World) (hk : w.cell? ⟨b, 0, none⟩ = some (.int .i64 1)) (hb : b < w.heap.size) :
  Calls Tryz.prog 20 #[.func (.func 21) #[] #[.pointer (some ⟨b, 0, none⟩)]] w fun e w' => e = .returned (.tuple #[.agg #[.int .i64 1, .string ⟨#[116, 111, 108, 100]⟩, .func (.func 73) #[] #[], .func (.func 74) #[] #[], .func (.func 75) #[] #[]], .bool true]) ∧ Below w.heap.size w w' := by
 have HX : Hid (idxK 1 = 0) := rfl
 have H1 : Hid (∀ y, Below w.heap.size w y → y.cell? ⟨b, 0, none⟩ = some (.int .i64 1)) := fun y hy => (hy.cell (p := ⟨b, 0, none⟩) hb).trans hk
 have HL : Hid (b < w.heap.size) := hb
 clear hk hb
 go_enter Tryz.func20, Tryz.ntmps20
 go_wp2_with (first | (go_at_call 52; refine (mailForms_any _).mono ?_; rintro e w1 ⟨rfl, e1⟩; obtain ⟨C1, L1, B1, R1⟩ := fm_world e1; clear e1) | (go_at_call 53; refine (idx_any 1 b (w.heap.size + 1) w1 L1.out C1.out (H1.out _ B1.out) (Nat.lt_of_lt_of_le HL.out B1.out.size)).mono ?_; rintro e w2 ⟨rfl, b2⟩; rw [HX.out]; have B2 : Hid (Below w1.heap.size w1 w2) := b2; clear b2; have k0 : w2.cell? ⟨w.heap.size + 1, 0, none⟩ = some (.int .i64 1) := (B2.out.cell (p := ⟨w.heap.size + 1, 0, none⟩) L1.out).trans (C1.out 0); have k1 : w2.cell? ⟨w.heap.size + 1, 1, none⟩ = some (.string ⟨#[116, 111, 108, 100]⟩) := (B2.out.cell (p := ⟨w.heap.size + 1, 1, none⟩) L1.out).trans (C1.out 1); have k2 : w2.cell? ⟨w.heap.size + 1, 2, none⟩ = some (.func (.func 73) #[] #[]) := (B2.out.cell (p := ⟨w.heap.size + 1, 2, none⟩) L1.out).trans (C1.out 2); have k3 : w2.cell? ⟨w.heap.size + 1, 3, none⟩ = some (.func (.func 74) #[] #[]) := (B2.out.cell (p := ⟨w.heap.size + 1, 3, none⟩) L1.out).trans (C1.out 3); have k4 : w2.cell? ⟨w.heap.size + 1, 4, none⟩ = some (.func (.func 75) #[] #[]) := (B2.out.cell (p := ⟨w.heap.size + 1, 4, none⟩) L1.out).trans (C1.out 4); have R2 : Hid (w2.heap[w.heap.size]? = some (.cells #[.int .i64 0, .string ⟨#[]⟩, .nilFunc, .nilFunc, .nilFunc] 51 (0, 0))) := (B2.out.block _ (Nat.lt_trans (Nat.lt_succ_self _) L1.out)).trans R1.out; have R3 : w.heap.size < w2.heap.size := Nat.lt_of_lt_of_le (Nat.lt_trans (Nat.lt_succ_self _) L1.out) B2.out.size) | (refine wpList_store_row (by rfl) 51 _ _ (by rfl) w.heap.size #[.int .i64 1, .string ⟨#[116, 111, 108, 100]⟩, .func (.func 73) #[] #[], .func (.func 74) #[] #[], .func (.func 75) #[] #[]] (by rfl) (by rfl) 51 #[.int .i64 0, .string ⟨#[]⟩, .nilFunc, .nilFunc, .nilFunc] R2.out (by kernel_rfl) rfl (by kernel_rfl) ?_; obtain ⟨S1, S2⟩ := fm_set (w := w) (cs := #[.int .i64 1, .string ⟨#[116, 111, 108, 100]⟩, .func (.func 73) #[] #[], .func (.func 74) #[] #[], .func (.func 75) #[] #[]]) R2.out (bl_trans B1.out B2.out); have s0 := S1.out 0; have s1 := S1.out 1; have s2 := S1.out 2; have s3 := S1.out 3; have s4 := S1.out 4; generalize w2.setRow w.heap.size #[.int .i64 1, .string ⟨#[116, 111, 108, 100]⟩, .func (.func 73) #[] #[], .func (.func 74) #[] #[], .func (.func 75) #[] #[]] = w3 at *))
 exact bodyPost_ret (by simp [results, Tryz.results20, go_sem, s0, s1, s2, s3, s4]) rfl ⟨rfl, S2.out⟩
set_option maxRecDepth 4000 in
set_option maxHeartbeats 4000000 in
theorem find2  (b : Nat) (w : World) (hk : w.cell? ⟨b, 0, none⟩ = some (.int .i64 2)) (hb : b < w.heap.size) :
  Calls Tryz.prog 20 #[.func (.func 21) #[] #[.pointer (some ⟨b, 0, none⟩)]] w fun e w' => e = .returned (.tuple #[.agg #[.int .i64 2, .string ⟨#[97, 115, 107, 101, 100]⟩, .func (.func 76) #[] #[], .func (.func 77) #[] #[], .func (.func 78) #[] #[]], .bool true]) ∧ Below w.heap.size w w' := by
 have HX : Hid (idxK 2 = 1) := rfl
 have H1 : Hid (∀ y, Below w.heap.size w y → y.cell? ⟨b, 0, none⟩ = some (.int .i64 2)) := fun y hy => (hy.cell (p := ⟨b, 0, none⟩) hb).trans hk
 have HL : Hid (b < w.heap.size) := hb
 clear hk hb
 go_enter Tryz.func20, Tryz.ntmps20
 go_wp2_with (first | (go_at_call 52; refine (mailForms_any _).mono ?_; rintro e w1 ⟨rfl, e1⟩; obtain ⟨C1, L1, B1, R1⟩ := fm_world e1; clear e1) | (go_at_call 53; refine (idx_any 2 b (w.heap.size + 1) w1 L1.out C1.out (H1.out _ B1.out) (Nat.lt_of_lt_of_le HL.out B1.out.size)).mono ?_; rintro e w2 ⟨rfl, b2⟩; rw [HX.out]; have B2 : Hid (Below w1.heap.size w1 w2) := b2; clear b2; have k0 : w2.cell? ⟨w.heap.size + 1, 5, none⟩ = some (.int .i64 2) := (B2.out.cell (p := ⟨w.heap.size + 1, 5, none⟩) L1.out).trans (C1.out 5); have k1 : w2.cell? ⟨w.heap.size + 1, 6, none⟩ = some (.string ⟨#[97, 115, 107, 101, 100]⟩) := (B2.out.cell (p := ⟨w.heap.size + 1, 6, none⟩) L1.out).trans (C1.out 6); have k2 : w2.cell? ⟨w.heap.size + 1, 7, none⟩ = some (.func (.func 76) #[] #[]) := (B2.out.cell (p := ⟨w.heap.size + 1, 7, none⟩) L1.out).trans (C1.out 7); have k3 : w2.cell? ⟨w.heap.size + 1, 8, none⟩ = some (.func (.func 77) #[] #[]) := (B2.out.cell (p := ⟨w.heap.size + 1, 8, none⟩) L1.out).trans (C1.out 8); have k4 : w2.cell? ⟨w.heap.size + 1, 9, none⟩ = some (.func (.func 78) #[] #[]) := (B2.out.cell (p := ⟨w.heap.size + 1, 9, none⟩) L1.out).trans (C1.out 9); have R2 : Hid (w2.heap[w.heap.size]? = some (.cells #[.int .i64 0, .string ⟨#[]⟩, .nilFunc, .nilFunc, .nilFunc] 51 (0, 0))) := (B2.out.block _ (Nat.lt_trans (Nat.lt_succ_self _) L1.out)).trans R1.out; have R3 : w.heap.size < w2.heap.size := Nat.lt_of_lt_of_le (Nat.lt_trans (Nat.lt_succ_self _) L1.out) B2.out.size) | (refine wpList_store_row (by rfl) 51 _ _ (by rfl) w.heap.size #[.int .i64 2, .string ⟨#[97, 115, 107, 101, 100]⟩, .func (.func 76) #[] #[], .func (.func 77) #[] #[], .func (.func 78) #[] #[]] (by rfl) (by rfl) 51 #[.int .i64 0, .string ⟨#[]⟩, .nilFunc, .nilFunc, .nilFunc] R2.out (by kernel_rfl) rfl (by kernel_rfl) ?_; obtain ⟨S1, S2⟩ := fm_set (w := w) (cs := #[.int .i64 2, .string ⟨#[97, 115, 107, 101, 100]⟩, .func (.func 76) #[] #[], .func (.func 77) #[] #[], .func (.func 78) #[] #[]]) R2.out (bl_trans B1.out B2.out); have s0 := S1.out 0; have s1 := S1.out 1; have s2 := S1.out 2; have s3 := S1.out 3; have s4 := S1.out 4; generalize w2.setRow w.heap.size #[.int .i64 2, .string ⟨#[97, 115, 107, 101, 100]⟩, .func (.func 76) #[] #[], .func (.func 77) #[] #[], .func (.func 78) #[] #[]] = w3 at *))
 exact bodyPost_ret (by simp [results, Tryz.results20, go_sem, s0, s1, s2, s3, s4]) rfl ⟨rfl, S2.out⟩
set_option maxRecDepth 4000 in
set_option maxHeartbeats 4000000 in
theorem find3  (b : Nat) (w : World) (hk : w.cell? ⟨b, 0, none⟩ = some (.int .i64 3)) (hb : b < w.heap.size) :
  Calls Tryz.prog 20 #[.func (.func 21) #[] #[.pointer (some ⟨b, 0, none⟩)]] w fun e w' => e = .returned (.tuple #[.agg #[.int .i64 3, .string ⟨#[103, 105, 118, 101, 110]⟩, .func (.func 76) #[] #[], .func (.func 77) #[] #[], .func (.func 78) #[] #[]], .bool true]) ∧ Below w.heap.size w w' := by
 have HX : Hid (idxK 3 = 2) := rfl
 have H1 : Hid (∀ y, Below w.heap.size w y → y.cell? ⟨b, 0, none⟩ = some (.int .i64 3)) := fun y hy => (hy.cell (p := ⟨b, 0, none⟩) hb).trans hk
 have HL : Hid (b < w.heap.size) := hb
 clear hk hb
 go_enter Tryz.func20, Tryz.ntmps20
 go_wp2_with (first | (go_at_call 52; refine (mailForms_any _).mono ?_; rintro e w1 ⟨rfl, e1⟩; obtain ⟨C1, L1, B1, R1⟩ := fm_world e1; clear e1) | (go_at_call 53; refine (idx_any 3 b (w.heap.size + 1) w1 L1.out C1.out (H1.out _ B1.out) (Nat.lt_of_lt_of_le HL.out B1.out.size)).mono ?_; rintro e w2 ⟨rfl, b2⟩; rw [HX.out]; have B2 : Hid (Below w1.heap.size w1 w2) := b2; clear b2; have k0 : w2.cell? ⟨w.heap.size + 1, 10, none⟩ = some (.int .i64 3) := (B2.out.cell (p := ⟨w.heap.size + 1, 10, none⟩) L1.out).trans (C1.out 10); have k1 : w2.cell? ⟨w.heap.size + 1, 11, none⟩ = some (.string ⟨#[103, 105, 118, 101, 110]⟩) := (B2.out.cell (p := ⟨w.heap.size + 1, 11, none⟩) L1.out).trans (C1.out 11); have k2 : w2.cell? ⟨w.heap.size + 1, 12, none⟩ = some (.func (.func 76) #[] #[]) := (B2.out.cell (p := ⟨w.heap.size + 1, 12, none⟩) L1.out).trans (C1.out 12); have k3 : w2.cell? ⟨w.heap.size + 1, 13, none⟩ = some (.func (.func 77) #[] #[]) := (B2.out.cell (p := ⟨w.heap.size + 1, 13, none⟩) L1.out).trans (C1.out 13); have k4 : w2.cell? ⟨w.heap.size + 1, 14, none⟩ = some (.func (.func 78) #[] #[]) := (B2.out.cell (p := ⟨w.heap.size + 1, 14, none⟩) L1.out).trans (C1.out 14); have R2 : Hid (w2.heap[w.heap.size]? = some (.cells #[.int .i64 0, .string ⟨#[]⟩, .nilFunc, .nilFunc, .nilFunc] 51 (0, 0))) := (B2.out.block _ (Nat.lt_trans (Nat.lt_succ_self _) L1.out)).trans R1.out; have R3 : w.heap.size < w2.heap.size := Nat.lt_of_lt_of_le (Nat.lt_trans (Nat.lt_succ_self _) L1.out) B2.out.size) | (refine wpList_store_row (by rfl) 51 _ _ (by rfl) w.heap.size #[.int .i64 3, .string ⟨#[103, 105, 118, 101, 110]⟩, .func (.func 76) #[] #[], .func (.func 77) #[] #[], .func (.func 78) #[] #[]] (by rfl) (by rfl) 51 #[.int .i64 0, .string ⟨#[]⟩, .nilFunc, .nilFunc, .nilFunc] R2.out (by kernel_rfl) rfl (by kernel_rfl) ?_; obtain ⟨S1, S2⟩ := fm_set (w := w) (cs := #[.int .i64 3, .string ⟨#[103, 105, 118, 101, 110]⟩, .func (.func 76) #[] #[], .func (.func 77) #[] #[], .func (.func 78) #[] #[]]) R2.out (bl_trans B1.out B2.out); have s0 := S1.out 0; have s1 := S1.out 1; have s2 := S1.out 2; have s3 := S1.out 3; have s4 := S1.out 4; generalize w2.setRow w.heap.size #[.int .i64 3, .string ⟨#[103, 105, 118, 101, 110]⟩, .func (.func 76) #[] #[], .func (.func 77) #[] #[], .func (.func 78) #[] #[]] = w3 at *))
 exact bodyPost_ret (by simp [results, Tryz.results20, go_sem, s0, s1, s2, s3, s4]) rfl ⟨rfl, S2.out⟩
set_option maxRecDepth 4000 in
set_option maxHeartbeats 4000000 in
theorem find4  (b : Nat) (w : World) (hk : w.cell? ⟨b, 0, none⟩ = some (.int .i64 4)) (hb : b < w.heap.size) :
  Calls Tryz.prog 20 #[.func (.func 21) #[] #[.pointer (some ⟨b, 0, none⟩)]] w fun e w' => e = .returned (.tuple #[.agg #[.int .i64 4, .string ⟨#[98, 97, 99, 107]⟩, .func (.func 76) #[] #[], .func (.func 77) #[] #[], .func (.func 78) #[] #[]], .bool true]) ∧ Below w.heap.size w w' := by
 have HX : Hid (idxK 4 = 3) := rfl
 have H1 : Hid (∀ y, Below w.heap.size w y → y.cell? ⟨b, 0, none⟩ = some (.int .i64 4)) := fun y hy => (hy.cell (p := ⟨b, 0, none⟩) hb).trans hk
 have HL : Hid (b < w.heap.size) := hb
 clear hk hb
 go_enter Tryz.func20, Tryz.ntmps20
 go_wp2_with (first | (go_at_call 52; refine (mailForms_any _).mono ?_; rintro e w1 ⟨rfl, e1⟩; obtain ⟨C1, L1, B1, R1⟩ := fm_world e1; clear e1) | (go_at_call 53; refine (idx_any 4 b (w.heap.size + 1) w1 L1.out C1.out (H1.out _ B1.out) (Nat.lt_of_lt_of_le HL.out B1.out.size)).mono ?_; rintro e w2 ⟨rfl, b2⟩; rw [HX.out]; have B2 : Hid (Below w1.heap.size w1 w2) := b2; clear b2; have k0 : w2.cell? ⟨w.heap.size + 1, 15, none⟩ = some (.int .i64 4) := (B2.out.cell (p := ⟨w.heap.size + 1, 15, none⟩) L1.out).trans (C1.out 15); have k1 : w2.cell? ⟨w.heap.size + 1, 16, none⟩ = some (.string ⟨#[98, 97, 99, 107]⟩) := (B2.out.cell (p := ⟨w.heap.size + 1, 16, none⟩) L1.out).trans (C1.out 16); have k2 : w2.cell? ⟨w.heap.size + 1, 17, none⟩ = some (.func (.func 76) #[] #[]) := (B2.out.cell (p := ⟨w.heap.size + 1, 17, none⟩) L1.out).trans (C1.out 17); have k3 : w2.cell? ⟨w.heap.size + 1, 18, none⟩ = some (.func (.func 77) #[] #[]) := (B2.out.cell (p := ⟨w.heap.size + 1, 18, none⟩) L1.out).trans (C1.out 18); have k4 : w2.cell? ⟨w.heap.size + 1, 19, none⟩ = some (.func (.func 78) #[] #[]) := (B2.out.cell (p := ⟨w.heap.size + 1, 19, none⟩) L1.out).trans (C1.out 19); have R2 : Hid (w2.heap[w.heap.size]? = some (.cells #[.int .i64 0, .string ⟨#[]⟩, .nilFunc, .nilFunc, .nilFunc] 51 (0, 0))) := (B2.out.block _ (Nat.lt_trans (Nat.lt_succ_self _) L1.out)).trans R1.out; have R3 : w.heap.size < w2.heap.size := Nat.lt_of_lt_of_le (Nat.lt_trans (Nat.lt_succ_self _) L1.out) B2.out.size) | (refine wpList_store_row (by rfl) 51 _ _ (by rfl) w.heap.size #[.int .i64 4, .string ⟨#[98, 97, 99, 107]⟩, .func (.func 76) #[] #[], .func (.func 77) #[] #[], .func (.func 78) #[] #[]] (by rfl) (by rfl) 51 #[.int .i64 0, .string ⟨#[]⟩, .nilFunc, .nilFunc, .nilFunc] R2.out (by kernel_rfl) rfl (by kernel_rfl) ?_; obtain ⟨S1, S2⟩ := fm_set (w := w) (cs := #[.int .i64 4, .string ⟨#[98, 97, 99, 107]⟩, .func (.func 76) #[] #[], .func (.func 77) #[] #[], .func (.func 78) #[] #[]]) R2.out (bl_trans B1.out B2.out); have s0 := S1.out 0; have s1 := S1.out 1; have s2 := S1.out 2; have s3 := S1.out 3; have s4 := S1.out 4; generalize w2.setRow w.heap.size #[.int .i64 4, .string ⟨#[98, 97, 99, 107]⟩, .func (.func 76) #[] #[], .func (.func 77) #[] #[], .func (.func 78) #[] #[]] = w3 at *))
 exact bodyPost_ret (by simp [results, Tryz.results20, go_sem, s0, s1, s2, s3, s4]) rfl ⟨rfl, S2.out⟩
set_option maxRecDepth 4000 in
set_option maxHeartbeats 4000000 in
theorem find5  (b : Nat) (w : World) (hk : w.cell? ⟨b, 0, none⟩ = some (.int .i64 5)) (hb : b < w.heap.size) :
  Calls Tryz.prog 20 #[.func (.func 21) #[] #[.pointer (some ⟨b, 0, none⟩)]] w fun e w' => e = .returned (.tuple #[.agg #[.int .i64 5, .string ⟨#[103, 111, 116, 98, 97, 99, 107]⟩, .func (.func 79) #[] #[], .func (.func 80) #[] #[], .func (.func 81) #[] #[]], .bool true]) ∧ Below w.heap.size w w' := by
 have HX : Hid (idxK 5 = 4) := rfl
 have H1 : Hid (∀ y, Below w.heap.size w y → y.cell? ⟨b, 0, none⟩ = some (.int .i64 5)) := fun y hy => (hy.cell (p := ⟨b, 0, none⟩) hb).trans hk
 have HL : Hid (b < w.heap.size) := hb
 clear hk hb
 go_enter Tryz.func20, Tryz.ntmps20
 go_wp2_with (first | (go_at_call 52; refine (mailForms_any _).mono ?_; rintro e w1 ⟨rfl, e1⟩; obtain ⟨C1, L1, B1, R1⟩ := fm_world e1; clear e1) | (go_at_call 53; refine (idx_any 5 b (w.heap.size + 1) w1 L1.out C1.out (H1.out _ B1.out) (Nat.lt_of_lt_of_le HL.out B1.out.size)).mono ?_; rintro e w2 ⟨rfl, b2⟩; rw [HX.out]; have B2 : Hid (Below w1.heap.size w1 w2) := b2; clear b2; have k0 : w2.cell? ⟨w.heap.size + 1, 20, none⟩ = some (.int .i64 5) := (B2.out.cell (p := ⟨w.heap.size + 1, 20, none⟩) L1.out).trans (C1.out 20); have k1 : w2.cell? ⟨w.heap.size + 1, 21, none⟩ = some (.string ⟨#[103, 111, 116, 98, 97, 99, 107]⟩) := (B2.out.cell (p := ⟨w.heap.size + 1, 21, none⟩) L1.out).trans (C1.out 21); have k2 : w2.cell? ⟨w.heap.size + 1, 22, none⟩ = some (.func (.func 79) #[] #[]) := (B2.out.cell (p := ⟨w.heap.size + 1, 22, none⟩) L1.out).trans (C1.out 22); have k3 : w2.cell? ⟨w.heap.size + 1, 23, none⟩ = some (.func (.func 80) #[] #[]) := (B2.out.cell (p := ⟨w.heap.size + 1, 23, none⟩) L1.out).trans (C1.out 23); have k4 : w2.cell? ⟨w.heap.size + 1, 24, none⟩ = some (.func (.func 81) #[] #[]) := (B2.out.cell (p := ⟨w.heap.size + 1, 24, none⟩) L1.out).trans (C1.out 24); have R2 : Hid (w2.heap[w.heap.size]? = some (.cells #[.int .i64 0, .string ⟨#[]⟩, .nilFunc, .nilFunc, .nilFunc] 51 (0, 0))) := (B2.out.block _ (Nat.lt_trans (Nat.lt_succ_self _) L1.out)).trans R1.out; have R3 : w.heap.size < w2.heap.size := Nat.lt_of_lt_of_le (Nat.lt_trans (Nat.lt_succ_self _) L1.out) B2.out.size) | (refine wpList_store_row (by rfl) 51 _ _ (by rfl) w.heap.size #[.int .i64 5, .string ⟨#[103, 111, 116, 98, 97, 99, 107]⟩, .func (.func 79) #[] #[], .func (.func 80) #[] #[], .func (.func 81) #[] #[]] (by rfl) (by rfl) 51 #[.int .i64 0, .string ⟨#[]⟩, .nilFunc, .nilFunc, .nilFunc] R2.out (by kernel_rfl) rfl (by kernel_rfl) ?_; obtain ⟨S1, S2⟩ := fm_set (w := w) (cs := #[.int .i64 5, .string ⟨#[103, 111, 116, 98, 97, 99, 107]⟩, .func (.func 79) #[] #[], .func (.func 80) #[] #[], .func (.func 81) #[] #[]]) R2.out (bl_trans B1.out B2.out); have s0 := S1.out 0; have s1 := S1.out 1; have s2 := S1.out 2; have s3 := S1.out 3; have s4 := S1.out 4; generalize w2.setRow w.heap.size #[.int .i64 5, .string ⟨#[103, 111, 116, 98, 97, 99, 107]⟩, .func (.func 79) #[] #[], .func (.func 80) #[] #[], .func (.func 81) #[] #[]] = w3 at *))
 exact bodyPost_ret (by simp [results, Tryz.results20, go_sem, s0, s1, s2, s3, s4]) rfl ⟨rfl, S2.out⟩
set_option maxRecDepth 4000 in
set_option maxHeartbeats 4000000 in
theorem find6  (b : Nat) (w : World) (hk : w.cell? ⟨b, 0, none⟩ = some (.int .i64 6)) (hb : b < w.heap.size) :
  Calls Tryz.prog 20 #[.func (.func 21) #[] #[.pointer (some ⟨b, 0, none⟩)]] w fun e w' => e = .returned (.tuple #[.agg #[.int .i64 6, .string ⟨#[104, 101, 114, 101]⟩, .func (.func 82) #[] #[], .func (.func 74) #[] #[], .func (.func 75) #[] #[]], .bool true]) ∧ Below w.heap.size w w' := by
 have HX : Hid (idxK 6 = 5) := rfl
 have H1 : Hid (∀ y, Below w.heap.size w y → y.cell? ⟨b, 0, none⟩ = some (.int .i64 6)) := fun y hy => (hy.cell (p := ⟨b, 0, none⟩) hb).trans hk
 have HL : Hid (b < w.heap.size) := hb
 clear hk hb
 go_enter Tryz.func20, Tryz.ntmps20
 go_wp2_with (first | (go_at_call 52; refine (mailForms_any _).mono ?_; rintro e w1 ⟨rfl, e1⟩; obtain ⟨C1, L1, B1, R1⟩ := fm_world e1; clear e1) | (go_at_call 53; refine (idx_any 6 b (w.heap.size + 1) w1 L1.out C1.out (H1.out _ B1.out) (Nat.lt_of_lt_of_le HL.out B1.out.size)).mono ?_; rintro e w2 ⟨rfl, b2⟩; rw [HX.out]; have B2 : Hid (Below w1.heap.size w1 w2) := b2; clear b2; have k0 : w2.cell? ⟨w.heap.size + 1, 25, none⟩ = some (.int .i64 6) := (B2.out.cell (p := ⟨w.heap.size + 1, 25, none⟩) L1.out).trans (C1.out 25); have k1 : w2.cell? ⟨w.heap.size + 1, 26, none⟩ = some (.string ⟨#[104, 101, 114, 101]⟩) := (B2.out.cell (p := ⟨w.heap.size + 1, 26, none⟩) L1.out).trans (C1.out 26); have k2 : w2.cell? ⟨w.heap.size + 1, 27, none⟩ = some (.func (.func 82) #[] #[]) := (B2.out.cell (p := ⟨w.heap.size + 1, 27, none⟩) L1.out).trans (C1.out 27); have k3 : w2.cell? ⟨w.heap.size + 1, 28, none⟩ = some (.func (.func 74) #[] #[]) := (B2.out.cell (p := ⟨w.heap.size + 1, 28, none⟩) L1.out).trans (C1.out 28); have k4 : w2.cell? ⟨w.heap.size + 1, 29, none⟩ = some (.func (.func 75) #[] #[]) := (B2.out.cell (p := ⟨w.heap.size + 1, 29, none⟩) L1.out).trans (C1.out 29); have R2 : Hid (w2.heap[w.heap.size]? = some (.cells #[.int .i64 0, .string ⟨#[]⟩, .nilFunc, .nilFunc, .nilFunc] 51 (0, 0))) := (B2.out.block _ (Nat.lt_trans (Nat.lt_succ_self _) L1.out)).trans R1.out; have R3 : w.heap.size < w2.heap.size := Nat.lt_of_lt_of_le (Nat.lt_trans (Nat.lt_succ_self _) L1.out) B2.out.size) | (refine wpList_store_row (by rfl) 51 _ _ (by rfl) w.heap.size #[.int .i64 6, .string ⟨#[104, 101, 114, 101]⟩, .func (.func 82) #[] #[], .func (.func 74) #[] #[], .func (.func 75) #[] #[]] (by rfl) (by rfl) 51 #[.int .i64 0, .string ⟨#[]⟩, .nilFunc, .nilFunc, .nilFunc] R2.out (by kernel_rfl) rfl (by kernel_rfl) ?_; obtain ⟨S1, S2⟩ := fm_set (w := w) (cs := #[.int .i64 6, .string ⟨#[104, 101, 114, 101]⟩, .func (.func 82) #[] #[], .func (.func 74) #[] #[], .func (.func 75) #[] #[]]) R2.out (bl_trans B1.out B2.out); have s0 := S1.out 0; have s1 := S1.out 1; have s2 := S1.out 2; have s3 := S1.out 3; have s4 := S1.out 4; generalize w2.setRow w.heap.size #[.int .i64 6, .string ⟨#[104, 101, 114, 101]⟩, .func (.func 82) #[] #[], .func (.func 74) #[] #[], .func (.func 75) #[] #[]] = w3 at *))
 exact bodyPost_ret (by simp [results, Tryz.results20, go_sem, s0, s1, s2, s3, s4]) rfl ⟨rfl, S2.out⟩
set_option maxRecDepth 4000 in
set_option maxHeartbeats 4000000 in
theorem find7 (k : Int) (hn : ¬ (1 ≤ k ∧ k ≤ 6)) (b : Nat) (w : World) (hk : w.cell? ⟨b, 0, none⟩ = some (.int .i64 k)) (hb : b < w.heap.size) :
  Calls Tryz.prog 20 #[.func (.func 21) #[] #[.pointer (some ⟨b, 0, none⟩)]] w fun e w' => e = .returned (.tuple #[.agg #[.int .i64 0, .string ⟨#[]⟩, .nilFunc, .nilFunc, .nilFunc], .bool false]) ∧ Below w.heap.size w w' := by
 have HX : Hid (idxK k = -1) := if_neg hn
 clear hn
 have H1 : Hid (∀ y, Below w.heap.size w y → y.cell? ⟨b, 0, none⟩ = some (.int .i64 k)) := fun y hy => (hy.cell (p := ⟨b, 0, none⟩) hb).trans hk
 have HL : Hid (b < w.heap.size) := hb
 clear hk hb
 go_enter Tryz.func20, Tryz.ntmps20
 go_wp2_with (first | (go_at_call 52; refine (mailForms_any _).mono ?_; rintro e w1 ⟨rfl, e1⟩; obtain ⟨C1, L1, B1, R1⟩ := fm_world e1; clear e1) | (go_at_call 53; refine (idx_any k b (w.heap.size + 1) w1 L1.out C1.out (H1.out _ B1.out) (Nat.lt_of_lt_of_le HL.out B1.out.size)).mono ?_; rintro e w2 ⟨rfl, b2⟩; rw [HX.out]; have B2 : Hid (Below w1.heap.size w1 w2) := b2; clear b2; have R2 : Hid (w2.heap[w.heap.size]? = some (.cells #[.int .i64 0, .string ⟨#[]⟩, .nilFunc, .nilFunc, .nilFunc] 51 (0, 0))) := (B2.out.block _ (Nat.lt_trans (Nat.lt_succ_self _) L1.out)).trans R1.out; have R3 : w.heap.size < w2.heap.size := Nat.lt_of_lt_of_le (Nat.lt_trans (Nat.lt_succ_self _) L1.out) B2.out.size) | (refine wpList_store_row (by rfl) 51 _ _ (by rfl) w.heap.size #[.int .i64 0, .string ⟨#[]⟩, .nilFunc, .nilFunc, .nilFunc] (by rfl) (by rfl) 51 #[.int .i64 0, .string ⟨#[]⟩, .nilFunc, .nilFunc, .nilFunc] R2.out (by kernel_rfl) rfl (by kernel_rfl) ?_; obtain ⟨S1, S2⟩ := fm_set (w := w) (cs := #[.int .i64 0, .string ⟨#[]⟩, .nilFunc, .nilFunc, .nilFunc]) R2.out (bl_trans B1.out B2.out); have s0 := S1.out 0; have s1 := S1.out 1; have s2 := S1.out 2; have s3 := S1.out 3; have s4 := S1.out 4; generalize w2.setRow w.heap.size #[.int .i64 0, .string ⟨#[]⟩, .nilFunc, .nilFunc, .nilFunc] = w3 at *))
 exact bodyPost_ret (by simp [results, Tryz.results20, go_sem, s0, s1, s2, s3, s4]) rfl ⟨rfl, S2.out⟩
theorem form_keep {W1 w2 w4 : World} {fc : Array Value} {t : TypeId} (hY : Below W1.heap.size W1 (w2.alloc (.cells fc t))) (hb : Below (w2.alloc (.cells fc t)).heap.size (w2.alloc (.cells fc t)) w4) :
  Hid (∀ y, Below w4.heap.size w4 y → ∀ j, y.cell? ⟨w2.heap.size, j, none⟩ = fc[j]?) ∧ Hid (Below W1.heap.size W1 w4) := by
 refine ⟨fun y hy j => ?_, bl_trans hY hb⟩
 rw [(bl_trans hb hy).cell (p := ⟨w2.heap.size, j, none⟩) (by simp), World.cell?_alloc_new]
def slY : Nat → Nat
 | 0 => 22
 | 1 => 23
 | 2 => 24
 | 3 => 25
 | 4 => 26
 | 5 => 27
 | 6 => 28
 | 7 => 5
 | _ => 0
theorem slY_inj {i : Nat} (hi : i < 8) : ∀ j, j < 8 → slY j = slY i → j = i := by
 have h : ∀ a : _root_.Fin 8, ∀ b : _root_.Fin 8, slY b.val = slY a.val → b.val = a.val := by decide
 intro j hj e
 exact h ⟨i, hi⟩ ⟨j, hj⟩ e
theorem slY_out (k : Nat) (h : (List.range 8).all (fun i => slY i != k) = true) : ∀ i, i < 8 → slY i ≠ k := fun i hi e => by
 have h1 := List.all_eq_true.1 h i (List.mem_range.2 hi)
 rw [e] at h1
 simp at h1
theorem slY_far (j : Nat) (h1 : j ≠ 5) (h2 : j < 22 ∨ 22 + 7 ≤ j) : ∀ i, i < 8 → slY i ≠ j := by
 have h : ∀ a : _root_.Fin 8, slY a.val = 5 ∨ (22 ≤ slY a.val ∧ slY a.val < 22 + 7) := by decide
 intro i hi e
 have h3 := h ⟨i, hi⟩
 simp only [e] at h3
 omega
theorem told_few {b h c : ByteArray} {se t : Int} {ws : List W.WantD} (hh : toldB b h c se t ws = true) : ws.length ≤ 10 := by
 unfold toldB wantsB at hh
 simp only [Bool.and_eq_true, decide_eq_true_eq] at hh
 exact hh.2.2.1.1
theorem told_writes {b h c : ByteArray} {se t : Int} {ws : List W.WantD} (hh : toldB b h c se t ws = true) : ∀ r ∈ ws, Writes r := by
 unfold toldB wantsB at hh
 simp only [Bool.and_eq_true, decide_eq_true_eq] at hh
 intro r hr
 obtain ⟨j, hj⟩ := List.getElem?_of_mem hr
 exact writes_of (hh.2.2.1.2.1 j r (List.getElem?_eq_some_iff.1 hj).1 hj)
theorem want_words {r : W.WantD} (h : Writes r) : ∀ x ∈ [r.c, decT r.v, holdT r.h, decT r.p, decT r.s, decT r.d, decT r.g], x.size ≤ 1000000000 := by
 have hh : (holdT r.h).size ≤ 1000000000 := by
  unfold holdT
  split
  ·
   exact lb rfl
  ·
   have := h.h; omega
 have h1 := decT_le r.v h.v.1 h.v.2
 have h2 := decT_le r.p h.p.1 h.p.2
 have h3 := decT_le r.s h.s.1 h.s.2
 have h4 := decT_le r.d h.d.1 h.d.2
 have h5 := decT_le r.g h.g.1 h.g.2
 have hc : r.c.size ≤ 1000000000 := by have := h.c; omega
 intro p hp
 simp only [List.mem_cons, List.not_mem_nil, or_false] at hp
 rcases hp with rfl | rfl | rfl | rfl | rfl | rfl | rfl
 all_goals first | assumption | omega
end Go.Proofs.YtgakmkhbnjofhaaGreatDoor
