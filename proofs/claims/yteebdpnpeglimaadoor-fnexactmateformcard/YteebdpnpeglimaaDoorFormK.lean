/- The form of a kind: the program finds it. -/
import Derived.Test.YteebdpnpeglimaaDoorFormG
namespace Go.Proofs.YteebdpnpeglimaaDoor
open Go.RowKit
set_option linter.unusedVariables false

theorem clos_any (j k : Int) (v1 v2 v3 v4 : Value) (o1 : v1.oneCell' = true) (o2 : v2.oneCell' = true) (o3 : v3.oneCell' = true) (o4 : v4.oneCell' = true) (b : Nat) (w : World) (hk : w.cell? ⟨b, 0, none⟩ = some (.int .i64 k)) (hb : b < w.heap.size) :
    Calls Tryd.prog 18 #[.agg #[.int .i64 j, v1, v2, v3, v4], .pointer (some ⟨b, 0, none⟩)] w fun e w' => e = .returned (.bool (j == k)) ∧ Below w.heap.size w w' := by
  have hk2 : (w.alloc (.cells #[.int .i64 j, v1, v2, v3, v4] 47)).cell? ⟨b, 0, none⟩ = some (.int .i64 k) := by rw [(bl_alloc (Below.refl w.heap.size w) _).cell (p := ⟨b, 0, none⟩) hb]; exact hk
  go_enter Tryd.func18, Tryd.ntmps18
  go_wp2_with fail
  all_goals (go_ret; refine ⟨ret_b ?_, ?_⟩)
  all_goals first | exact bl_alloc (Below.refl _ _) _ | simp [*]
def idxK (k : Int) : Int := if 1 ≤ k ∧ k ≤ 6 then k - 1 else -1
set_option maxRecDepth 4000 in
set_option maxHeartbeats 4000000 in
theorem idx_any (k : Int) (b g : Nat) (w : World) (hg : g < w.heap.size) (hF : ∀ j, w.cell? ⟨g, j, none⟩ = formsA[j]?) (hk : w.cell? ⟨b, 0, none⟩ = some (.int .i64 k)) (hb : b < w.heap.size) :
    Calls Tryd.prog 26 #[.slice (some ⟨g, 0, none⟩) 6 6, .func (.func 18) #[] #[.pointer (some ⟨b, 0, none⟩)]] w fun e w' => e = .returned (.int .i64 (idxK k)) ∧ Below w.heap.size w w' := by
  have HF : Hid (∀ y, Below w.heap.size w y → ∀ j, y.cell? ⟨g, j, none⟩ = formsA[j]?) := fun y hy j => (hy.cell (p := ⟨g, j, none⟩) hg).trans (hF j)
  have HK : Hid (∀ y, Below w.heap.size w y → y.cell? ⟨b, 0, none⟩ = some (.int .i64 k)) := fun y hy => (hy.cell (p := ⟨b, 0, none⟩) hb).trans hk
  have HL : Hid (b < w.heap.size) := hb
  clear hF hk hb
  go_enter Tryd.func26, Tryd.ntmps26
  go_wp2
  go_loopw [8] (fun i wx => ∃ (n : Nat), n ≤ 6 ∧ i = .int .i64 n ∧ Hid (∀ j : Nat, j < n → k ≠ j + 1) ∧ Hid (Below w.heap.size w wx)) (fun i _ => 6 - (intOf i).toNat)
  case atStart => exact ⟨0, Nat.zero_le _, rfl, fun j h => by omega, Below.refl _ _⟩
  case round =>
    obtain ⟨n, hn, rfl, Ha, hB⟩ := hrel
    by_cases hlt : n < 6
    · obtain rfl | rfl | rfl | rfl | rfl | rfl : n = 0 ∨ n = 1 ∨ n = 2 ∨ n = 3 ∨ n = 4 ∨ n = 5 := by omega
      · have k0 : wr.cell? ⟨g, 0, none⟩ = some (.int .i64 1) := HF.out wr hB.out 0
        have k1 : wr.cell? ⟨g, 1, none⟩ = some (.string { data := #[116, 111, 108, 100] }) := HF.out wr hB.out 1
        have k2 : wr.cell? ⟨g, 2, none⟩ = some (.func (.func 30) #[] #[]) := HF.out wr hB.out 2
        have k3 : wr.cell? ⟨g, 3, none⟩ = some (.func (.func 31) #[] #[]) := HF.out wr hB.out 3
        have k4 : wr.cell? ⟨g, 4, none⟩ = some (.func (.func 32) #[] #[]) := HF.out wr hB.out 4
        by_cases hh : k = 1
        · have hq : ((1 : Int) == k) = true := by rw [hh]; rfl
          go_wp2_with (go_at_call 18; refine (clos_any 1 k _ _ _ _ rfl rfl rfl rfl b _ (HK.out wr hB.out) (Nat.lt_of_lt_of_le HL.out hB.out.size)).mono ?_; rintro e w1 ⟨rfl, hb⟩; rw [hq]; have B1 : Hid (Below wr.heap.size wr w1) := hb; clear hb)
          go_ret
          exact ⟨by rw [hh]; rfl, bl_trans hB.out B1.out⟩
        · have hq : ((1 : Int) == k) = false := by simpa using fun h => hh h.symm
          go_wp2_with (go_at_call 18; refine (clos_any 1 k _ _ _ _ rfl rfl rfl rfl b _ (HK.out wr hB.out) (Nat.lt_of_lt_of_le HL.out hB.out.size)).mono ?_; rintro e w1 ⟨rfl, hb⟩; rw [hq]; have B1 : Hid (Below wr.heap.size wr w1) := hb; clear hb)
          exact ⟨⟨1, by omega, by go_num, (fun j hj => by
            by_cases e : j = 0
            · subst e; exact hh
            · exact Ha.out j (by omega)), bl_trans hB.out B1.out⟩, by simp [intOf]⟩
      · have k0 : wr.cell? ⟨g, 5, none⟩ = some (.int .i64 2) := HF.out wr hB.out 5
        have k1 : wr.cell? ⟨g, 6, none⟩ = some (.string { data := #[97, 115, 107, 101, 100] }) := HF.out wr hB.out 6
        have k2 : wr.cell? ⟨g, 7, none⟩ = some (.func (.func 33) #[] #[]) := HF.out wr hB.out 7
        have k3 : wr.cell? ⟨g, 8, none⟩ = some (.func (.func 34) #[] #[]) := HF.out wr hB.out 8
        have k4 : wr.cell? ⟨g, 9, none⟩ = some (.func (.func 35) #[] #[]) := HF.out wr hB.out 9
        by_cases hh : k = 2
        · have hq : ((2 : Int) == k) = true := by rw [hh]; rfl
          go_wp2_with (go_at_call 18; refine (clos_any 2 k _ _ _ _ rfl rfl rfl rfl b _ (HK.out wr hB.out) (Nat.lt_of_lt_of_le HL.out hB.out.size)).mono ?_; rintro e w1 ⟨rfl, hb⟩; rw [hq]; have B1 : Hid (Below wr.heap.size wr w1) := hb; clear hb)
          go_ret
          exact ⟨by rw [hh]; rfl, bl_trans hB.out B1.out⟩
        · have hq : ((2 : Int) == k) = false := by simpa using fun h => hh h.symm
          go_wp2_with (go_at_call 18; refine (clos_any 2 k _ _ _ _ rfl rfl rfl rfl b _ (HK.out wr hB.out) (Nat.lt_of_lt_of_le HL.out hB.out.size)).mono ?_; rintro e w1 ⟨rfl, hb⟩; rw [hq]; have B1 : Hid (Below wr.heap.size wr w1) := hb; clear hb)
          exact ⟨⟨2, by omega, by go_num, (fun j hj => by
            by_cases e : j = 1
            · subst e; exact hh
            · exact Ha.out j (by omega)), bl_trans hB.out B1.out⟩, by simp [intOf]⟩
      · have k0 : wr.cell? ⟨g, 10, none⟩ = some (.int .i64 3) := HF.out wr hB.out 10
        have k1 : wr.cell? ⟨g, 11, none⟩ = some (.string { data := #[103, 105, 118, 101, 110] }) := HF.out wr hB.out 11
        have k2 : wr.cell? ⟨g, 12, none⟩ = some (.func (.func 33) #[] #[]) := HF.out wr hB.out 12
        have k3 : wr.cell? ⟨g, 13, none⟩ = some (.func (.func 34) #[] #[]) := HF.out wr hB.out 13
        have k4 : wr.cell? ⟨g, 14, none⟩ = some (.func (.func 35) #[] #[]) := HF.out wr hB.out 14
        by_cases hh : k = 3
        · have hq : ((3 : Int) == k) = true := by rw [hh]; rfl
          go_wp2_with (go_at_call 18; refine (clos_any 3 k _ _ _ _ rfl rfl rfl rfl b _ (HK.out wr hB.out) (Nat.lt_of_lt_of_le HL.out hB.out.size)).mono ?_; rintro e w1 ⟨rfl, hb⟩; rw [hq]; have B1 : Hid (Below wr.heap.size wr w1) := hb; clear hb)
          go_ret
          exact ⟨by rw [hh]; rfl, bl_trans hB.out B1.out⟩
        · have hq : ((3 : Int) == k) = false := by simpa using fun h => hh h.symm
          go_wp2_with (go_at_call 18; refine (clos_any 3 k _ _ _ _ rfl rfl rfl rfl b _ (HK.out wr hB.out) (Nat.lt_of_lt_of_le HL.out hB.out.size)).mono ?_; rintro e w1 ⟨rfl, hb⟩; rw [hq]; have B1 : Hid (Below wr.heap.size wr w1) := hb; clear hb)
          exact ⟨⟨3, by omega, by go_num, (fun j hj => by
            by_cases e : j = 2
            · subst e; exact hh
            · exact Ha.out j (by omega)), bl_trans hB.out B1.out⟩, by simp [intOf]⟩
      · have k0 : wr.cell? ⟨g, 15, none⟩ = some (.int .i64 4) := HF.out wr hB.out 15
        have k1 : wr.cell? ⟨g, 16, none⟩ = some (.string { data := #[98, 97, 99, 107] }) := HF.out wr hB.out 16
        have k2 : wr.cell? ⟨g, 17, none⟩ = some (.func (.func 33) #[] #[]) := HF.out wr hB.out 17
        have k3 : wr.cell? ⟨g, 18, none⟩ = some (.func (.func 34) #[] #[]) := HF.out wr hB.out 18
        have k4 : wr.cell? ⟨g, 19, none⟩ = some (.func (.func 35) #[] #[]) := HF.out wr hB.out 19
        by_cases hh : k = 4
        · have hq : ((4 : Int) == k) = true := by rw [hh]; rfl
          go_wp2_with (go_at_call 18; refine (clos_any 4 k _ _ _ _ rfl rfl rfl rfl b _ (HK.out wr hB.out) (Nat.lt_of_lt_of_le HL.out hB.out.size)).mono ?_; rintro e w1 ⟨rfl, hb⟩; rw [hq]; have B1 : Hid (Below wr.heap.size wr w1) := hb; clear hb)
          go_ret
          exact ⟨by rw [hh]; rfl, bl_trans hB.out B1.out⟩
        · have hq : ((4 : Int) == k) = false := by simpa using fun h => hh h.symm
          go_wp2_with (go_at_call 18; refine (clos_any 4 k _ _ _ _ rfl rfl rfl rfl b _ (HK.out wr hB.out) (Nat.lt_of_lt_of_le HL.out hB.out.size)).mono ?_; rintro e w1 ⟨rfl, hb⟩; rw [hq]; have B1 : Hid (Below wr.heap.size wr w1) := hb; clear hb)
          exact ⟨⟨4, by omega, by go_num, (fun j hj => by
            by_cases e : j = 3
            · subst e; exact hh
            · exact Ha.out j (by omega)), bl_trans hB.out B1.out⟩, by simp [intOf]⟩
      · have k0 : wr.cell? ⟨g, 20, none⟩ = some (.int .i64 5) := HF.out wr hB.out 20
        have k1 : wr.cell? ⟨g, 21, none⟩ = some (.string { data := #[103, 111, 116, 98, 97, 99, 107] }) := HF.out wr hB.out 21
        have k2 : wr.cell? ⟨g, 22, none⟩ = some (.func (.func 36) #[] #[]) := HF.out wr hB.out 22
        have k3 : wr.cell? ⟨g, 23, none⟩ = some (.func (.func 37) #[] #[]) := HF.out wr hB.out 23
        have k4 : wr.cell? ⟨g, 24, none⟩ = some (.func (.func 38) #[] #[]) := HF.out wr hB.out 24
        by_cases hh : k = 5
        · have hq : ((5 : Int) == k) = true := by rw [hh]; rfl
          go_wp2_with (go_at_call 18; refine (clos_any 5 k _ _ _ _ rfl rfl rfl rfl b _ (HK.out wr hB.out) (Nat.lt_of_lt_of_le HL.out hB.out.size)).mono ?_; rintro e w1 ⟨rfl, hb⟩; rw [hq]; have B1 : Hid (Below wr.heap.size wr w1) := hb; clear hb)
          go_ret
          exact ⟨by rw [hh]; rfl, bl_trans hB.out B1.out⟩
        · have hq : ((5 : Int) == k) = false := by simpa using fun h => hh h.symm
          go_wp2_with (go_at_call 18; refine (clos_any 5 k _ _ _ _ rfl rfl rfl rfl b _ (HK.out wr hB.out) (Nat.lt_of_lt_of_le HL.out hB.out.size)).mono ?_; rintro e w1 ⟨rfl, hb⟩; rw [hq]; have B1 : Hid (Below wr.heap.size wr w1) := hb; clear hb)
          exact ⟨⟨5, by omega, by go_num, (fun j hj => by
            by_cases e : j = 4
            · subst e; exact hh
            · exact Ha.out j (by omega)), bl_trans hB.out B1.out⟩, by simp [intOf]⟩
      · have k0 : wr.cell? ⟨g, 25, none⟩ = some (.int .i64 6) := HF.out wr hB.out 25
        have k1 : wr.cell? ⟨g, 26, none⟩ = some (.string { data := #[104, 101, 114, 101] }) := HF.out wr hB.out 26
        have k2 : wr.cell? ⟨g, 27, none⟩ = some (.func (.func 39) #[] #[]) := HF.out wr hB.out 27
        have k3 : wr.cell? ⟨g, 28, none⟩ = some (.func (.func 31) #[] #[]) := HF.out wr hB.out 28
        have k4 : wr.cell? ⟨g, 29, none⟩ = some (.func (.func 32) #[] #[]) := HF.out wr hB.out 29
        by_cases hh : k = 6
        · have hq : ((6 : Int) == k) = true := by rw [hh]; rfl
          go_wp2_with (go_at_call 18; refine (clos_any 6 k _ _ _ _ rfl rfl rfl rfl b _ (HK.out wr hB.out) (Nat.lt_of_lt_of_le HL.out hB.out.size)).mono ?_; rintro e w1 ⟨rfl, hb⟩; rw [hq]; have B1 : Hid (Below wr.heap.size wr w1) := hb; clear hb)
          go_ret
          exact ⟨by rw [hh]; rfl, bl_trans hB.out B1.out⟩
        · have hq : ((6 : Int) == k) = false := by simpa using fun h => hh h.symm
          go_wp2_with (go_at_call 18; refine (clos_any 6 k _ _ _ _ rfl rfl rfl rfl b _ (HK.out wr hB.out) (Nat.lt_of_lt_of_le HL.out hB.out.size)).mono ?_; rintro e w1 ⟨rfl, hb⟩; rw [hq]; have B1 : Hid (Below wr.heap.size wr w1) := hb; clear hb)
          exact ⟨⟨6, by omega, by go_num, (fun j hj => by
            by_cases e : j = 5
            · subst e; exact hh
            · exact Ha.out j (by omega)), bl_trans hB.out B1.out⟩, by simp [intOf]⟩
    · obtain rfl : n = 6 := by omega
      go_wp2_with fail
      go_ret
      refine ⟨?_, hB.out⟩
      have hx : idxK k = -1 := by
        unfold idxK
        rw [if_neg]
        rintro ⟨h1, h2⟩
        have := Ha.out (k - 1).toNat (by omega)
        omega
      rw [hx]
      rfl
end Go.Proofs.YteebdpnpeglimaaDoor
