import Derived.Test.YtgakmkhbnjofhaaGreatDoorJ19
import Derived.Test.YtgakmkhbnjofhaaGreatDoorJ35
namespace Go.Proofs.YtgakmkhbnjofhaaGreatDoor
open Go.RowKit
set_option linter.unusedVariables false
set_option maxRecDepth 4000 in
theorem closW (j : Int) (x u : ByteArray) (v2 v3 v4 : Value) (o2 : v2.oneCell' = true) (o3 : v3.oneCell' = true) (o4 : v4.oneCell' = true) (b : Nat) (w : World) (hk : w.cell? ⟨b, 0, none⟩ = some (.string u)) (hb : b < w.heap.size) (q : Bool) (hq : (x.toList == u.toList) = q) :
  Calls Tryz.prog 87 #[.agg #[.int .i64 j, .string x, v2, v3, v4], .pointer (some ⟨b, 0, none⟩)] w fun e w' => e = .returned (.bool q) ∧ Below w.heap.size w w' := by
 have hk2 : (w.alloc (.cells #[.int .i64 j, .string x, v2, v3, v4] 51)).cell? ⟨b, 0, none⟩ = some (.string u) := by rw [(bl_alloc (Below.refl w.heap.size w) _).cell (p := ⟨b, 0, none⟩) hb]; exact hk
 cases q
 ·
  go_enter Tryz.func87, Tryz.ntmps87
  go_wp2_with fail
  all_goals (go_ret; refine ⟨ret_b ?_, ?_⟩)
  all_goals first | exact bl_alloc (Below.refl _ _) _ | simp [*]
 ·
  go_enter Tryz.func87, Tryz.ntmps87
  go_wp2_with fail
  all_goals (go_ret; refine ⟨ret_b ?_, ?_⟩)
  all_goals first | exact bl_alloc (Below.refl _ _) _ | simp [*]
def idxT (u : ByteArray) : Int := if u = { data := #[116, 111, 108, 100] } then 0 else if u = { data := #[97, 115, 107, 101, 100] } then 1 else if u = { data := #[103, 105, 118, 101, 110] } then 2 else if u = { data := #[98, 97, 99, 107] } then 3 else if u = { data := #[103, 111, 116, 98, 97, 99, 107] } then 4 else if u = { data := #[104, 101, 114, 101] } then 5 else -1
theorem idxT_of {u : ByteArray} (n : Nat) : (∀ k : Nat, k < n → ∀ x, [{ data := #[116, 111, 108, 100] }, { data := #[97, 115, 107, 101, 100] }, { data := #[103, 105, 118, 101, 110] }, { data := #[98, 97, 99, 107] }, { data := #[103, 111, 116, 98, 97, 99, 107] }, { data := #[104, 101, 114, 101] }][k]? = some x → u ≠ x) → (∀ x, ([{ data := #[116, 111, 108, 100] }, { data := #[97, 115, 107, 101, 100] }, { data := #[103, 105, 118, 101, 110] }, { data := #[98, 97, 99, 107] }, { data := #[103, 111, 116, 98, 97, 99, 107] }, { data := #[104, 101, 114, 101] }] : List ByteArray)[n]? = some x → u = x) → n < 6 → idxT u = n := by
 intro h1 h2 h3
 unfold idxT
 obtain rfl | rfl | rfl | rfl | rfl | rfl : n = 0 ∨ n = 1 ∨ n = 2 ∨ n = 3 ∨ n = 4 ∨ n = 5 := by omega
 ·
  rw [if_pos (h2 _ rfl)]; rfl
 ·
  rw [if_neg (h1 0 (by omega) _ rfl), if_pos (h2 _ rfl)]; rfl
 ·
  rw [if_neg (h1 0 (by omega) _ rfl), if_neg (h1 1 (by omega) _ rfl), if_pos (h2 _ rfl)]; rfl
 ·
  rw [if_neg (h1 0 (by omega) _ rfl), if_neg (h1 1 (by omega) _ rfl), if_neg (h1 2 (by omega) _ rfl), if_pos (h2 _ rfl)]; rfl
 ·
  rw [if_neg (h1 0 (by omega) _ rfl), if_neg (h1 1 (by omega) _ rfl), if_neg (h1 2 (by omega) _ rfl), if_neg (h1 3 (by omega) _ rfl), if_pos (h2 _ rfl)]; rfl
 ·
  rw [if_neg (h1 0 (by omega) _ rfl), if_neg (h1 1 (by omega) _ rfl), if_neg (h1 2 (by omega) _ rfl), if_neg (h1 3 (by omega) _ rfl), if_neg (h1 4 (by omega) _ rfl), if_pos (h2 _ rfl)]; rfl
set_option maxRecDepth 4000 in
set_option maxHeartbeats 4000000 in
theorem idxW (u : ByteArray) (b g : Nat) (w : World) (hg : g < w.heap.size) (hF : ∀ j, w.cell? ⟨g, j, none⟩ = formsA[j]?) (hk : w.cell? ⟨b, 0, none⟩ = some (.string u)) (hb : b < w.heap.size) :
  Calls Tryz.prog 53 #[.slice (some ⟨g, 0, none⟩) 6 6, .func (.func 87) #[] #[.pointer (some ⟨b, 0, none⟩)]] w fun e w' => e = .returned (.int .i64 (idxT u)) ∧ Below w.heap.size w w' := by
 have HF : Hid (∀ y, Below w.heap.size w y → ∀ j, y.cell? ⟨g, j, none⟩ = formsA[j]?) := fun y hy j => (hy.cell (p := ⟨g, j, none⟩) hg).trans (hF j)
 have HK : Hid (∀ y, Below w.heap.size w y → y.cell? ⟨b, 0, none⟩ = some (.string u)) := fun y hy => (hy.cell (p := ⟨b, 0, none⟩) hb).trans hk
 have HL : Hid (b < w.heap.size) := hb
 clear hF hk hb
 go_enter Tryz.func53, Tryz.ntmps53
 go_wp2
 go_loopw [8] (fun i wx => ∃ (n : Nat), n ≤ 6 ∧ i = .int .i64 n ∧ Hid (∀ k : Nat, k < n → ∀ x, [{ data := #[116, 111, 108, 100] }, { data := #[97, 115, 107, 101, 100] }, { data := #[103, 105, 118, 101, 110] }, { data := #[98, 97, 99, 107] }, { data := #[103, 111, 116, 98, 97, 99, 107] }, { data := #[104, 101, 114, 101] }][k]? = some x → u ≠ x) ∧ Hid (Below w.heap.size w wx)) (fun i _ => 6 - (intOf i).toNat)
 case atStart => exact ⟨0, Nat.zero_le _, rfl, fun j h => by omega, Below.refl _ _⟩
 case round =>
  obtain ⟨n, hn, rfl, Ha, hB⟩ := hrel
  by_cases hlt : n < 6
  ·
   obtain rfl | rfl | rfl | rfl | rfl | rfl : n = 0 ∨ n = 1 ∨ n = 2 ∨ n = 3 ∨ n = 4 ∨ n = 5 := by omega
   ·
    have k0 : wr.cell? ⟨g, 0, none⟩ = some (.int .i64 1) := HF.out wr hB.out 0
    have k1 : wr.cell? ⟨g, 1, none⟩ = some (.string ⟨#[116, 111, 108, 100]⟩) := HF.out wr hB.out 1
    have k2 : wr.cell? ⟨g, 2, none⟩ = some (.func (.func 73) #[] #[]) := HF.out wr hB.out 2
    have k3 : wr.cell? ⟨g, 3, none⟩ = some (.func (.func 74) #[] #[]) := HF.out wr hB.out 3
    have k4 : wr.cell? ⟨g, 4, none⟩ = some (.func (.func 75) #[] #[]) := HF.out wr hB.out 4
    by_cases hh : u = { data := #[116, 111, 108, 100] }
    ·
     have HQ : Hid ((({ data := #[116, 111, 108, 100] } : ByteArray).toList == u.toList) = true) := by rw [hh]; exact beq_self_eq_true _
     have HI : Hid (idxT u = 0) := idxT_of 0 Ha.out (fun x hx => by cases hx; exact hh) (by omega)
     clear hh
     go_wp2_with (go_at_call 87; refine (closW 1 _ u _ _ _ rfl rfl rfl b _ (HK.out wr hB.out) (Nat.lt_of_lt_of_le HL.out hB.out.size) true HQ.out).mono ?_; rintro e w1 ⟨rfl, hb⟩; have B1 : Hid (Below wr.heap.size wr w1) := hb; clear hb)
     go_ret
     exact ⟨by rw [HI.out]; rfl, bl_trans hB.out B1.out⟩
    ·
     have HQ : Hid ((({ data := #[116, 111, 108, 100] } : ByteArray).toList == u.toList) = false) := ne_list (fun h => hh h.symm)
     have HH : Hid (u ≠ { data := #[116, 111, 108, 100] }) := hh
     clear hh
     go_wp2_with (go_at_call 87; refine (closW 1 _ u _ _ _ rfl rfl rfl b _ (HK.out wr hB.out) (Nat.lt_of_lt_of_le HL.out hB.out.size) false HQ.out).mono ?_; rintro e w1 ⟨rfl, hb⟩; have B1 : Hid (Below wr.heap.size wr w1) := hb; clear hb)
     exact ⟨⟨1, by omega, by go_num, (fun j hj x hx => by
      by_cases e : j = 0
      ·
       subst e; cases hx; exact HH.out
      ·
       exact Ha.out j (by omega) x hx), bl_trans hB.out B1.out⟩, by simp [intOf]⟩
   ·
    have k0 : wr.cell? ⟨g, 5, none⟩ = some (.int .i64 2) := HF.out wr hB.out 5
    have k1 : wr.cell? ⟨g, 6, none⟩ = some (.string ⟨#[97, 115, 107, 101, 100]⟩) := HF.out wr hB.out 6
    have k2 : wr.cell? ⟨g, 7, none⟩ = some (.func (.func 76) #[] #[]) := HF.out wr hB.out 7
    have k3 : wr.cell? ⟨g, 8, none⟩ = some (.func (.func 77) #[] #[]) := HF.out wr hB.out 8
    have k4 : wr.cell? ⟨g, 9, none⟩ = some (.func (.func 78) #[] #[]) := HF.out wr hB.out 9
    by_cases hh : u = { data := #[97, 115, 107, 101, 100] }
    ·
     have HQ : Hid ((({ data := #[97, 115, 107, 101, 100] } : ByteArray).toList == u.toList) = true) := by rw [hh]; exact beq_self_eq_true _
     have HI : Hid (idxT u = 1) := idxT_of 1 Ha.out (fun x hx => by cases hx; exact hh) (by omega)
     clear hh
     go_wp2_with (go_at_call 87; refine (closW 2 _ u _ _ _ rfl rfl rfl b _ (HK.out wr hB.out) (Nat.lt_of_lt_of_le HL.out hB.out.size) true HQ.out).mono ?_; rintro e w1 ⟨rfl, hb⟩; have B1 : Hid (Below wr.heap.size wr w1) := hb; clear hb)
     go_ret
     exact ⟨by rw [HI.out]; rfl, bl_trans hB.out B1.out⟩
    ·
     have HQ : Hid ((({ data := #[97, 115, 107, 101, 100] } : ByteArray).toList == u.toList) = false) := ne_list (fun h => hh h.symm)
     have HH : Hid (u ≠ { data := #[97, 115, 107, 101, 100] }) := hh
     clear hh
     go_wp2_with (go_at_call 87; refine (closW 2 _ u _ _ _ rfl rfl rfl b _ (HK.out wr hB.out) (Nat.lt_of_lt_of_le HL.out hB.out.size) false HQ.out).mono ?_; rintro e w1 ⟨rfl, hb⟩; have B1 : Hid (Below wr.heap.size wr w1) := hb; clear hb)
     exact ⟨⟨2, by omega, by go_num, (fun j hj x hx => by
      by_cases e : j = 1
      ·
       subst e; cases hx; exact HH.out
      ·
       exact Ha.out j (by omega) x hx), bl_trans hB.out B1.out⟩, by simp [intOf]⟩
   ·
    have k0 : wr.cell? ⟨g, 10, none⟩ = some (.int .i64 3) := HF.out wr hB.out 10
    have k1 : wr.cell? ⟨g, 11, none⟩ = some (.string ⟨#[103, 105, 118, 101, 110]⟩) := HF.out wr hB.out 11
    have k2 : wr.cell? ⟨g, 12, none⟩ = some (.func (.func 76) #[] #[]) := HF.out wr hB.out 12
    have k3 : wr.cell? ⟨g, 13, none⟩ = some (.func (.func 77) #[] #[]) := HF.out wr hB.out 13
    have k4 : wr.cell? ⟨g, 14, none⟩ = some (.func (.func 78) #[] #[]) := HF.out wr hB.out 14
    by_cases hh : u = { data := #[103, 105, 118, 101, 110] }
    ·
     have HQ : Hid ((({ data := #[103, 105, 118, 101, 110] } : ByteArray).toList == u.toList) = true) := by rw [hh]; exact beq_self_eq_true _
     have HI : Hid (idxT u = 2) := idxT_of 2 Ha.out (fun x hx => by cases hx; exact hh) (by omega)
     clear hh
     go_wp2_with (go_at_call 87; refine (closW 3 _ u _ _ _ rfl rfl rfl b _ (HK.out wr hB.out) (Nat.lt_of_lt_of_le HL.out hB.out.size) true HQ.out).mono ?_; rintro e w1 ⟨rfl, hb⟩; have B1 : Hid (Below wr.heap.size wr w1) := hb; clear hb)
     go_ret
     exact ⟨by rw [HI.out]; rfl, bl_trans hB.out B1.out⟩
    ·
     have HQ : Hid ((({ data := #[103, 105, 118, 101, 110] } : ByteArray).toList == u.toList) = false) := ne_list (fun h => hh h.symm)
     have HH : Hid (u ≠ { data := #[103, 105, 118, 101, 110] }) := hh
     clear hh
     go_wp2_with (go_at_call 87; refine (closW 3 _ u _ _ _ rfl rfl rfl b _ (HK.out wr hB.out) (Nat.lt_of_lt_of_le HL.out hB.out.size) false HQ.out).mono ?_; rintro e w1 ⟨rfl, hb⟩; have B1 : Hid (Below wr.heap.size wr w1) := hb; clear hb)
     exact ⟨⟨3, by omega, by go_num, (fun j hj x hx => by
      by_cases e : j = 2
      ·
       subst e; cases hx; exact HH.out
      ·
       exact Ha.out j (by omega) x hx), bl_trans hB.out B1.out⟩, by simp [intOf]⟩
   ·
    have k0 : wr.cell? ⟨g, 15, none⟩ = some (.int .i64 4) := HF.out wr hB.out 15
    have k1 : wr.cell? ⟨g, 16, none⟩ = some (.string ⟨#[98, 97, 99, 107]⟩) := HF.out wr hB.out 16
    have k2 : wr.cell? ⟨g, 17, none⟩ = some (.func (.func 76) #[] #[]) := HF.out wr hB.out 17
    have k3 : wr.cell? ⟨g, 18, none⟩ = some (.func (.func 77) #[] #[]) := HF.out wr hB.out 18
    have k4 : wr.cell? ⟨g, 19, none⟩ = some (.func (.func 78) #[] #[]) := HF.out wr hB.out 19
    by_cases hh : u = { data := #[98, 97, 99, 107] }
    ·
     have HQ : Hid ((({ data := #[98, 97, 99, 107] } : ByteArray).toList == u.toList) = true) := by rw [hh]; exact beq_self_eq_true _
     have HI : Hid (idxT u = 3) := idxT_of 3 Ha.out (fun x hx => by cases hx; exact hh) (by omega)
     clear hh
     go_wp2_with (go_at_call 87; refine (closW 4 _ u _ _ _ rfl rfl rfl b _ (HK.out wr hB.out) (Nat.lt_of_lt_of_le HL.out hB.out.size) true HQ.out).mono ?_; rintro e w1 ⟨rfl, hb⟩; have B1 : Hid (Below wr.heap.size wr w1) := hb; clear hb)
     go_ret
     exact ⟨by rw [HI.out]; rfl, bl_trans hB.out B1.out⟩
    ·
     have HQ : Hid ((({ data := #[98, 97, 99, 107] } : ByteArray).toList == u.toList) = false) := ne_list (fun h => hh h.symm)
     have HH : Hid (u ≠ { data := #[98, 97, 99, 107] }) := hh
     clear hh
     go_wp2_with (go_at_call 87; refine (closW 4 _ u _ _ _ rfl rfl rfl b _ (HK.out wr hB.out) (Nat.lt_of_lt_of_le HL.out hB.out.size) false HQ.out).mono ?_; rintro e w1 ⟨rfl, hb⟩; have B1 : Hid (Below wr.heap.size wr w1) := hb; clear hb)
     exact ⟨⟨4, by omega, by go_num, (fun j hj x hx => by
      by_cases e : j = 3
      ·
       subst e; cases hx; exact HH.out
      ·
       exact Ha.out j (by omega) x hx), bl_trans hB.out B1.out⟩, by simp [intOf]⟩
   ·
    have k0 : wr.cell? ⟨g, 20, none⟩ = some (.int .i64 5) := HF.out wr hB.out 20
    have k1 : wr.cell? ⟨g, 21, none⟩ = some (.string ⟨#[103, 111, 116, 98, 97, 99, 107]⟩) := HF.out wr hB.out 21
    have k2 : wr.cell? ⟨g, 22, none⟩ = some (.func (.func 79) #[] #[]) := HF.out wr hB.out 22
    have k3 : wr.cell? ⟨g, 23, none⟩ = some (.func (.func 80) #[] #[]) := HF.out wr hB.out 23
    have k4 : wr.cell? ⟨g, 24, none⟩ = some (.func (.func 81) #[] #[]) := HF.out wr hB.out 24
    by_cases hh : u = { data := #[103, 111, 116, 98, 97, 99, 107] }
    ·
     have HQ : Hid ((({ data := #[103, 111, 116, 98, 97, 99, 107] } : ByteArray).toList == u.toList) = true) := by rw [hh]; exact beq_self_eq_true _
     have HI : Hid (idxT u = 4) := idxT_of 4 Ha.out (fun x hx => by cases hx; exact hh) (by omega)
     clear hh
     go_wp2_with (go_at_call 87; refine (closW 5 _ u _ _ _ rfl rfl rfl b _ (HK.out wr hB.out) (Nat.lt_of_lt_of_le HL.out hB.out.size) true HQ.out).mono ?_; rintro e w1 ⟨rfl, hb⟩; have B1 : Hid (Below wr.heap.size wr w1) := hb; clear hb)
     go_ret
     exact ⟨by rw [HI.out]; rfl, bl_trans hB.out B1.out⟩
    ·
     have HQ : Hid ((({ data := #[103, 111, 116, 98, 97, 99, 107] } : ByteArray).toList == u.toList) = false) := ne_list (fun h => hh h.symm)
     have HH : Hid (u ≠ { data := #[103, 111, 116, 98, 97, 99, 107] }) := hh
     clear hh
     go_wp2_with (go_at_call 87; refine (closW 5 _ u _ _ _ rfl rfl rfl b _ (HK.out wr hB.out) (Nat.lt_of_lt_of_le HL.out hB.out.size) false HQ.out).mono ?_; rintro e w1 ⟨rfl, hb⟩; have B1 : Hid (Below wr.heap.size wr w1) := hb; clear hb)
     exact ⟨⟨5, by omega, by go_num, (fun j hj x hx => by
      by_cases e : j = 4
      ·
       subst e; cases hx; exact HH.out
      ·
       exact Ha.out j (by omega) x hx), bl_trans hB.out B1.out⟩, by simp [intOf]⟩
   ·
    have k0 : wr.cell? ⟨g, 25, none⟩ = some (.int .i64 6) := HF.out wr hB.out 25
    have k1 : wr.cell? ⟨g, 26, none⟩ = some (.string ⟨#[104, 101, 114, 101]⟩) := HF.out wr hB.out 26
    have k2 : wr.cell? ⟨g, 27, none⟩ = some (.func (.func 82) #[] #[]) := HF.out wr hB.out 27
    have k3 : wr.cell? ⟨g, 28, none⟩ = some (.func (.func 74) #[] #[]) := HF.out wr hB.out 28
    have k4 : wr.cell? ⟨g, 29, none⟩ = some (.func (.func 75) #[] #[]) := HF.out wr hB.out 29
    by_cases hh : u = { data := #[104, 101, 114, 101] }
    ·
     have HQ : Hid ((({ data := #[104, 101, 114, 101] } : ByteArray).toList == u.toList) = true) := by rw [hh]; exact beq_self_eq_true _
     have HI : Hid (idxT u = 5) := idxT_of 5 Ha.out (fun x hx => by cases hx; exact hh) (by omega)
     clear hh
     go_wp2_with (go_at_call 87; refine (closW 6 _ u _ _ _ rfl rfl rfl b _ (HK.out wr hB.out) (Nat.lt_of_lt_of_le HL.out hB.out.size) true HQ.out).mono ?_; rintro e w1 ⟨rfl, hb⟩; have B1 : Hid (Below wr.heap.size wr w1) := hb; clear hb)
     go_ret
     exact ⟨by rw [HI.out]; rfl, bl_trans hB.out B1.out⟩
    ·
     have HQ : Hid ((({ data := #[104, 101, 114, 101] } : ByteArray).toList == u.toList) = false) := ne_list (fun h => hh h.symm)
     have HH : Hid (u ≠ { data := #[104, 101, 114, 101] }) := hh
     clear hh
     go_wp2_with (go_at_call 87; refine (closW 6 _ u _ _ _ rfl rfl rfl b _ (HK.out wr hB.out) (Nat.lt_of_lt_of_le HL.out hB.out.size) false HQ.out).mono ?_; rintro e w1 ⟨rfl, hb⟩; have B1 : Hid (Below wr.heap.size wr w1) := hb; clear hb)
     exact ⟨⟨6, by omega, by go_num, (fun j hj x hx => by
      by_cases e : j = 5
      ·
       subst e; cases hx; exact HH.out
      ·
       exact Ha.out j (by omega) x hx), bl_trans hB.out B1.out⟩, by simp [intOf]⟩
  ·
   obtain rfl : n = 6 := by omega
   go_wp2_with fail
   go_ret
   refine ⟨?_, hB.out⟩
   have hx : idxT u = -1 := by
    unfold idxT
    rw [if_neg (Ha.out 0 (by omega) _ rfl), if_neg (Ha.out 1 (by omega) _ rfl), if_neg (Ha.out 2 (by omega) _ rfl), if_neg (Ha.out 3 (by omega) _ rfl), if_neg (Ha.out 4 (by omega) _ rfl), if_neg (Ha.out 5 (by omega) _ rfl)]
   rw [hx]
   rfl
set_option maxRecDepth 4000 in
set_option maxHeartbeats 4000000 in
theorem findW1 (u : ByteArray) (hu : idxT u = 0) (b : Nat) (w : World) (hk : w.cell? ⟨b, 0, none⟩ = some (.string u)) (hb : b < w.heap.size) :
  Calls Tryz.prog 20 #[.func (.func 87) #[] #[.pointer (some ⟨b, 0, none⟩)]] w fun e w' => e = .returned (.tuple #[.agg #[.int .i64 1, .string ⟨#[116, 111, 108, 100]⟩, .func (.func 73) #[] #[], .func (.func 74) #[] #[], .func (.func 75) #[] #[]], .bool true]) ∧ Below w.heap.size w w' := by
 have HX : Hid (idxT u = 0) := hu
 have H1 : Hid (∀ y, Below w.heap.size w y → y.cell? ⟨b, 0, none⟩ = some (.string u)) := fun y hy => (hy.cell (p := ⟨b, 0, none⟩) hb).trans hk
 have HL : Hid (b < w.heap.size) := hb
 clear hk hb hu
 go_enter Tryz.func20, Tryz.ntmps20
 go_wp2_with (first | (go_at_call 52; refine (mailForms_any _).mono ?_; rintro e w1 ⟨rfl, e1⟩; obtain ⟨C1, L1, B1, R1⟩ := fm_world e1; clear e1) | (go_at_call 53; refine (idxW u b (w.heap.size + 1) w1 L1.out C1.out (H1.out _ B1.out) (Nat.lt_of_lt_of_le HL.out B1.out.size)).mono ?_; rintro e w2 ⟨rfl, b2⟩; rw [HX.out]; have B2 : Hid (Below w1.heap.size w1 w2) := b2; clear b2; have k0 : w2.cell? ⟨w.heap.size + 1, 0, none⟩ = some (.int .i64 1) := (B2.out.cell (p := ⟨w.heap.size + 1, 0, none⟩) L1.out).trans (C1.out 0); have k1 : w2.cell? ⟨w.heap.size + 1, 1, none⟩ = some (.string ⟨#[116, 111, 108, 100]⟩) := (B2.out.cell (p := ⟨w.heap.size + 1, 1, none⟩) L1.out).trans (C1.out 1); have k2 : w2.cell? ⟨w.heap.size + 1, 2, none⟩ = some (.func (.func 73) #[] #[]) := (B2.out.cell (p := ⟨w.heap.size + 1, 2, none⟩) L1.out).trans (C1.out 2); have k3 : w2.cell? ⟨w.heap.size + 1, 3, none⟩ = some (.func (.func 74) #[] #[]) := (B2.out.cell (p := ⟨w.heap.size + 1, 3, none⟩) L1.out).trans (C1.out 3); have k4 : w2.cell? ⟨w.heap.size + 1, 4, none⟩ = some (.func (.func 75) #[] #[]) := (B2.out.cell (p := ⟨w.heap.size + 1, 4, none⟩) L1.out).trans (C1.out 4); have R2 : Hid (w2.heap[w.heap.size]? = some (.cells #[.int .i64 0, .string ⟨#[]⟩, .nilFunc, .nilFunc, .nilFunc] 51 (0, 0))) := (B2.out.block _ (Nat.lt_trans (Nat.lt_succ_self _) L1.out)).trans R1.out; have R3 : w.heap.size < w2.heap.size := Nat.lt_of_lt_of_le (Nat.lt_trans (Nat.lt_succ_self _) L1.out) B2.out.size) | (refine wpList_store_row (by rfl) 51 _ _ (by rfl) w.heap.size #[.int .i64 1, .string ⟨#[116, 111, 108, 100]⟩, .func (.func 73) #[] #[], .func (.func 74) #[] #[], .func (.func 75) #[] #[]] (by rfl) (by rfl) 51 #[.int .i64 0, .string ⟨#[]⟩, .nilFunc, .nilFunc, .nilFunc] R2.out (by kernel_rfl) rfl (by kernel_rfl) ?_; obtain ⟨S1, S2⟩ := fm_set (w := w) (cs := #[.int .i64 1, .string ⟨#[116, 111, 108, 100]⟩, .func (.func 73) #[] #[], .func (.func 74) #[] #[], .func (.func 75) #[] #[]]) R2.out (bl_trans B1.out B2.out); have s0 := S1.out 0; have s1 := S1.out 1; have s2 := S1.out 2; have s3 := S1.out 3; have s4 := S1.out 4; generalize w2.setRow w.heap.size #[.int .i64 1, .string ⟨#[116, 111, 108, 100]⟩, .func (.func 73) #[] #[], .func (.func 74) #[] #[], .func (.func 75) #[] #[]] = w3 at *))
 exact bodyPost_ret (by simp [results, Tryz.results20, go_sem, s0, s1, s2, s3, s4]) rfl ⟨rfl, S2.out⟩
set_option maxRecDepth 4000 in
set_option maxHeartbeats 4000000 in
theorem findW2 (u : ByteArray) (hu : idxT u = 1) (b : Nat) (w : World) (hk : w.cell? ⟨b, 0, none⟩ = some (.string u)) (hb : b < w.heap.size) :
  Calls Tryz.prog 20 #[.func (.func 87) #[] #[.pointer (some ⟨b, 0, none⟩)]] w fun e w' => e = .returned (.tuple #[.agg #[.int .i64 2, .string ⟨#[97, 115, 107, 101, 100]⟩, .func (.func 76) #[] #[], .func (.func 77) #[] #[], .func (.func 78) #[] #[]], .bool true]) ∧ Below w.heap.size w w' := by
 have HX : Hid (idxT u = 1) := hu
 have H1 : Hid (∀ y, Below w.heap.size w y → y.cell? ⟨b, 0, none⟩ = some (.string u)) := fun y hy => (hy.cell (p := ⟨b, 0, none⟩) hb).trans hk
 have HL : Hid (b < w.heap.size) := hb
 clear hk hb hu
 go_enter Tryz.func20, Tryz.ntmps20
 go_wp2_with (first | (go_at_call 52; refine (mailForms_any _).mono ?_; rintro e w1 ⟨rfl, e1⟩; obtain ⟨C1, L1, B1, R1⟩ := fm_world e1; clear e1) | (go_at_call 53; refine (idxW u b (w.heap.size + 1) w1 L1.out C1.out (H1.out _ B1.out) (Nat.lt_of_lt_of_le HL.out B1.out.size)).mono ?_; rintro e w2 ⟨rfl, b2⟩; rw [HX.out]; have B2 : Hid (Below w1.heap.size w1 w2) := b2; clear b2; have k0 : w2.cell? ⟨w.heap.size + 1, 5, none⟩ = some (.int .i64 2) := (B2.out.cell (p := ⟨w.heap.size + 1, 5, none⟩) L1.out).trans (C1.out 5); have k1 : w2.cell? ⟨w.heap.size + 1, 6, none⟩ = some (.string ⟨#[97, 115, 107, 101, 100]⟩) := (B2.out.cell (p := ⟨w.heap.size + 1, 6, none⟩) L1.out).trans (C1.out 6); have k2 : w2.cell? ⟨w.heap.size + 1, 7, none⟩ = some (.func (.func 76) #[] #[]) := (B2.out.cell (p := ⟨w.heap.size + 1, 7, none⟩) L1.out).trans (C1.out 7); have k3 : w2.cell? ⟨w.heap.size + 1, 8, none⟩ = some (.func (.func 77) #[] #[]) := (B2.out.cell (p := ⟨w.heap.size + 1, 8, none⟩) L1.out).trans (C1.out 8); have k4 : w2.cell? ⟨w.heap.size + 1, 9, none⟩ = some (.func (.func 78) #[] #[]) := (B2.out.cell (p := ⟨w.heap.size + 1, 9, none⟩) L1.out).trans (C1.out 9); have R2 : Hid (w2.heap[w.heap.size]? = some (.cells #[.int .i64 0, .string ⟨#[]⟩, .nilFunc, .nilFunc, .nilFunc] 51 (0, 0))) := (B2.out.block _ (Nat.lt_trans (Nat.lt_succ_self _) L1.out)).trans R1.out; have R3 : w.heap.size < w2.heap.size := Nat.lt_of_lt_of_le (Nat.lt_trans (Nat.lt_succ_self _) L1.out) B2.out.size) | (refine wpList_store_row (by rfl) 51 _ _ (by rfl) w.heap.size #[.int .i64 2, .string ⟨#[97, 115, 107, 101, 100]⟩, .func (.func 76) #[] #[], .func (.func 77) #[] #[], .func (.func 78) #[] #[]] (by rfl) (by rfl) 51 #[.int .i64 0, .string ⟨#[]⟩, .nilFunc, .nilFunc, .nilFunc] R2.out (by kernel_rfl) rfl (by kernel_rfl) ?_; obtain ⟨S1, S2⟩ := fm_set (w := w) (cs := #[.int .i64 2, .string ⟨#[97, 115, 107, 101, 100]⟩, .func (.func 76) #[] #[], .func (.func 77) #[] #[], .func (.func 78) #[] #[]]) R2.out (bl_trans B1.out B2.out); have s0 := S1.out 0; have s1 := S1.out 1; have s2 := S1.out 2; have s3 := S1.out 3; have s4 := S1.out 4; generalize w2.setRow w.heap.size #[.int .i64 2, .string ⟨#[97, 115, 107, 101, 100]⟩, .func (.func 76) #[] #[], .func (.func 77) #[] #[], .func (.func 78) #[] #[]] = w3 at *))
 exact bodyPost_ret (by simp [results, Tryz.results20, go_sem, s0, s1, s2, s3, s4]) rfl ⟨rfl, S2.out⟩
set_option maxRecDepth 4000 in
set_option maxHeartbeats 4000000 in
theorem findW3 (u : ByteArray) (hu : idxT u = 2) (b : Nat) (w : World) (hk : w.cell? ⟨b, 0, none⟩ = some (.string u)) (hb : b < w.heap.size) :
  Calls Tryz.prog 20 #[.func (.func 87) #[] #[.pointer (some ⟨b, 0, none⟩)]] w fun e w' => e = .returned (.tuple #[.agg #[.int .i64 3, .string ⟨#[103, 105, 118, 101, 110]⟩, .func (.func 76) #[] #[], .func (.func 77) #[] #[], .func (.func 78) #[] #[]], .bool true]) ∧ Below w.heap.size w w' := by
 have HX : Hid (idxT u = 2) := hu
 have H1 : Hid (∀ y, Below w.heap.size w y → y.cell? ⟨b, 0, none⟩ = some (.string u)) := fun y hy => (hy.cell (p := ⟨b, 0, none⟩) hb).trans hk
 have HL : Hid (b < w.heap.size) := hb
 clear hk hb hu
 go_enter Tryz.func20, Tryz.ntmps20
 go_wp2_with (first | (go_at_call 52; refine (mailForms_any _).mono ?_; rintro e w1 ⟨rfl, e1⟩; obtain ⟨C1, L1, B1, R1⟩ := fm_world e1; clear e1) | (go_at_call 53; refine (idxW u b (w.heap.size + 1) w1 L1.out C1.out (H1.out _ B1.out) (Nat.lt_of_lt_of_le HL.out B1.out.size)).mono ?_; rintro e w2 ⟨rfl, b2⟩; rw [HX.out]; have B2 : Hid (Below w1.heap.size w1 w2) := b2; clear b2; have k0 : w2.cell? ⟨w.heap.size + 1, 10, none⟩ = some (.int .i64 3) := (B2.out.cell (p := ⟨w.heap.size + 1, 10, none⟩) L1.out).trans (C1.out 10); have k1 : w2.cell? ⟨w.heap.size + 1, 11, none⟩ = some (.string ⟨#[103, 105, 118, 101, 110]⟩) := (B2.out.cell (p := ⟨w.heap.size + 1, 11, none⟩) L1.out).trans (C1.out 11); have k2 : w2.cell? ⟨w.heap.size + 1, 12, none⟩ = some (.func (.func 76) #[] #[]) := (B2.out.cell (p := ⟨w.heap.size + 1, 12, none⟩) L1.out).trans (C1.out 12); have k3 : w2.cell? ⟨w.heap.size + 1, 13, none⟩ = some (.func (.func 77) #[] #[]) := (B2.out.cell (p := ⟨w.heap.size + 1, 13, none⟩) L1.out).trans (C1.out 13); have k4 : w2.cell? ⟨w.heap.size + 1, 14, none⟩ = some (.func (.func 78) #[] #[]) := (B2.out.cell (p := ⟨w.heap.size + 1, 14, none⟩) L1.out).trans (C1.out 14); have R2 : Hid (w2.heap[w.heap.size]? = some (.cells #[.int .i64 0, .string ⟨#[]⟩, .nilFunc, .nilFunc, .nilFunc] 51 (0, 0))) := (B2.out.block _ (Nat.lt_trans (Nat.lt_succ_self _) L1.out)).trans R1.out; have R3 : w.heap.size < w2.heap.size := Nat.lt_of_lt_of_le (Nat.lt_trans (Nat.lt_succ_self _) L1.out) B2.out.size) | (refine wpList_store_row (by rfl) 51 _ _ (by rfl) w.heap.size #[.int .i64 3, .string ⟨#[103, 105, 118, 101, 110]⟩, .func (.func 76) #[] #[], .func (.func 77) #[] #[], .func (.func 78) #[] #[]] (by rfl) (by rfl) 51 #[.int .i64 0, .string ⟨#[]⟩, .nilFunc, .nilFunc, .nilFunc] R2.out (by kernel_rfl) rfl (by kernel_rfl) ?_; obtain ⟨S1, S2⟩ := fm_set (w := w) (cs := #[.int .i64 3, .string ⟨#[103, 105, 118, 101, 110]⟩, .func (.func 76) #[] #[], .func (.func 77) #[] #[], .func (.func 78) #[] #[]]) R2.out (bl_trans B1.out B2.out); have s0 := S1.out 0; have s1 := S1.out 1; have s2 := S1.out 2; have s3 := S1.out 3; have s4 := S1.out 4; generalize w2.setRow w.heap.size #[.int .i64 3, .string ⟨#[103, 105, 118, 101, 110]⟩, .func (.func 76) #[] #[], .func (.func 77) #[] #[], .func (.func 78) #[] #[]] = w3 at *))
 exact bodyPost_ret (by simp [results, Tryz.results20, go_sem, s0, s1, s2, s3, s4]) rfl ⟨rfl, S2.out⟩
set_option maxRecDepth 4000 in
set_option maxHeartbeats 4000000 in
theorem findW4 (u : ByteArray) (hu : idxT u = 3) (b : Nat) (w : World) (hk : w.cell? ⟨b, 0, none⟩ = some (.string u)) (hb : b < w.heap.size) :
  Calls Tryz.prog 20 #[.func (.func 87) #[] #[.pointer (some ⟨b, 0, none⟩)]] w fun e w' => e = .returned (.tuple #[.agg #[.int .i64 4, .string ⟨#[98, 97, 99, 107]⟩, .func (.func 76) #[] #[], .func (.func 77) #[] #[], .func (.func 78) #[] #[]], .bool true]) ∧ Below w.heap.size w w' := by
 have HX : Hid (idxT u = 3) := hu
 have H1 : Hid (∀ y, Below w.heap.size w y → y.cell? ⟨b, 0, none⟩ = some (.string u)) := fun y hy => (hy.cell (p := ⟨b, 0, none⟩) hb).trans hk
 have HL : Hid (b < w.heap.size) := hb
 clear hk hb hu
 go_enter Tryz.func20, Tryz.ntmps20
 go_wp2_with (first | (go_at_call 52; refine (mailForms_any _).mono ?_; rintro e w1 ⟨rfl, e1⟩; obtain ⟨C1, L1, B1, R1⟩ := fm_world e1; clear e1) | (go_at_call 53; refine (idxW u b (w.heap.size + 1) w1 L1.out C1.out (H1.out _ B1.out) (Nat.lt_of_lt_of_le HL.out B1.out.size)).mono ?_; rintro e w2 ⟨rfl, b2⟩; rw [HX.out]; have B2 : Hid (Below w1.heap.size w1 w2) := b2; clear b2; have k0 : w2.cell? ⟨w.heap.size + 1, 15, none⟩ = some (.int .i64 4) := (B2.out.cell (p := ⟨w.heap.size + 1, 15, none⟩) L1.out).trans (C1.out 15); have k1 : w2.cell? ⟨w.heap.size + 1, 16, none⟩ = some (.string ⟨#[98, 97, 99, 107]⟩) := (B2.out.cell (p := ⟨w.heap.size + 1, 16, none⟩) L1.out).trans (C1.out 16); have k2 : w2.cell? ⟨w.heap.size + 1, 17, none⟩ = some (.func (.func 76) #[] #[]) := (B2.out.cell (p := ⟨w.heap.size + 1, 17, none⟩) L1.out).trans (C1.out 17); have k3 : w2.cell? ⟨w.heap.size + 1, 18, none⟩ = some (.func (.func 77) #[] #[]) := (B2.out.cell (p := ⟨w.heap.size + 1, 18, none⟩) L1.out).trans (C1.out 18); have k4 : w2.cell? ⟨w.heap.size + 1, 19, none⟩ = some (.func (.func 78) #[] #[]) := (B2.out.cell (p := ⟨w.heap.size + 1, 19, none⟩) L1.out).trans (C1.out 19); have R2 : Hid (w2.heap[w.heap.size]? = some (.cells #[.int .i64 0, .string ⟨#[]⟩, .nilFunc, .nilFunc, .nilFunc] 51 (0, 0))) := (B2.out.block _ (Nat.lt_trans (Nat.lt_succ_self _) L1.out)).trans R1.out; have R3 : w.heap.size < w2.heap.size := Nat.lt_of_lt_of_le (Nat.lt_trans (Nat.lt_succ_self _) L1.out) B2.out.size) | (refine wpList_store_row (by rfl) 51 _ _ (by rfl) w.heap.size #[.int .i64 4, .string ⟨#[98, 97, 99, 107]⟩, .func (.func 76) #[] #[], .func (.func 77) #[] #[], .func (.func 78) #[] #[]] (by rfl) (by rfl) 51 #[.int .i64 0, .string ⟨#[]⟩, .nilFunc, .nilFunc, .nilFunc] R2.out (by kernel_rfl) rfl (by kernel_rfl) ?_; obtain ⟨S1, S2⟩ := fm_set (w := w) (cs := #[.int .i64 4, .string ⟨#[98, 97, 99, 107]⟩, .func (.func 76) #[] #[], .func (.func 77) #[] #[], .func (.func 78) #[] #[]]) R2.out (bl_trans B1.out B2.out); have s0 := S1.out 0; have s1 := S1.out 1; have s2 := S1.out 2; have s3 := S1.out 3; have s4 := S1.out 4; generalize w2.setRow w.heap.size #[.int .i64 4, .string ⟨#[98, 97, 99, 107]⟩, .func (.func 76) #[] #[], .func (.func 77) #[] #[], .func (.func 78) #[] #[]] = w3 at *))
 exact bodyPost_ret (by simp [results, Tryz.results20, go_sem, s0, s1, s2, s3, s4]) rfl ⟨rfl, S2.out⟩
set_option maxRecDepth 4000 in
set_option maxHeartbeats 4000000 in
theorem findW5 (u : ByteArray) (hu : idxT u = 4) (b : Nat) (w : World) (hk : w.cell? ⟨b, 0, none⟩ = some (.string u)) (hb : b < w.heap.size) :
  Calls Tryz.prog 20 #[.func (.func 87) #[] #[.pointer (some ⟨b, 0, none⟩)]] w fun e w' => e = .returned (.tuple #[.agg #[.int .i64 5, .string ⟨#[103, 111, 116, 98, 97, 99, 107]⟩, .func (.func 79) #[] #[], .func (.func 80) #[] #[], .func (.func 81) #[] #[]], .bool true]) ∧ Below w.heap.size w w' := by
 have HX : Hid (idxT u = 4) := hu
 have H1 : Hid (∀ y, Below w.heap.size w y → y.cell? ⟨b, 0, none⟩ = some (.string u)) := fun y hy => (hy.cell (p := ⟨b, 0, none⟩) hb).trans hk
 have HL : Hid (b < w.heap.size) := hb
 clear hk hb hu
 go_enter Tryz.func20, Tryz.ntmps20
 go_wp2_with (first | (go_at_call 52; refine (mailForms_any _).mono ?_; rintro e w1 ⟨rfl, e1⟩; obtain ⟨C1, L1, B1, R1⟩ := fm_world e1; clear e1) | (go_at_call 53; refine (idxW u b (w.heap.size + 1) w1 L1.out C1.out (H1.out _ B1.out) (Nat.lt_of_lt_of_le HL.out B1.out.size)).mono ?_; rintro e w2 ⟨rfl, b2⟩; rw [HX.out]; have B2 : Hid (Below w1.heap.size w1 w2) := b2; clear b2; have k0 : w2.cell? ⟨w.heap.size + 1, 20, none⟩ = some (.int .i64 5) := (B2.out.cell (p := ⟨w.heap.size + 1, 20, none⟩) L1.out).trans (C1.out 20); have k1 : w2.cell? ⟨w.heap.size + 1, 21, none⟩ = some (.string ⟨#[103, 111, 116, 98, 97, 99, 107]⟩) := (B2.out.cell (p := ⟨w.heap.size + 1, 21, none⟩) L1.out).trans (C1.out 21); have k2 : w2.cell? ⟨w.heap.size + 1, 22, none⟩ = some (.func (.func 79) #[] #[]) := (B2.out.cell (p := ⟨w.heap.size + 1, 22, none⟩) L1.out).trans (C1.out 22); have k3 : w2.cell? ⟨w.heap.size + 1, 23, none⟩ = some (.func (.func 80) #[] #[]) := (B2.out.cell (p := ⟨w.heap.size + 1, 23, none⟩) L1.out).trans (C1.out 23); have k4 : w2.cell? ⟨w.heap.size + 1, 24, none⟩ = some (.func (.func 81) #[] #[]) := (B2.out.cell (p := ⟨w.heap.size + 1, 24, none⟩) L1.out).trans (C1.out 24); have R2 : Hid (w2.heap[w.heap.size]? = some (.cells #[.int .i64 0, .string ⟨#[]⟩, .nilFunc, .nilFunc, .nilFunc] 51 (0, 0))) := (B2.out.block _ (Nat.lt_trans (Nat.lt_succ_self _) L1.out)).trans R1.out; have R3 : w.heap.size < w2.heap.size := Nat.lt_of_lt_of_le (Nat.lt_trans (Nat.lt_succ_self _) L1.out) B2.out.size) | (refine wpList_store_row (by rfl) 51 _ _ (by rfl) w.heap.size #[.int .i64 5, .string ⟨#[103, 111, 116, 98, 97, 99, 107]⟩, .func (.func 79) #[] #[], .func (.func 80) #[] #[], .func (.func 81) #[] #[]] (by rfl) (by rfl) 51 #[.int .i64 0, .string ⟨#[]⟩, .nilFunc, .nilFunc, .nilFunc] R2.out (by kernel_rfl) rfl (by kernel_rfl) ?_; obtain ⟨S1, S2⟩ := fm_set (w := w) (cs := #[.int .i64 5, .string ⟨#[103, 111, 116, 98, 97, 99, 107]⟩, .func (.func 79) #[] #[], .func (.func 80) #[] #[], .func (.func 81) #[] #[]]) R2.out (bl_trans B1.out B2.out); have s0 := S1.out 0; have s1 := S1.out 1; have s2 := S1.out 2; have s3 := S1.out 3; have s4 := S1.out 4; generalize w2.setRow w.heap.size #[.int .i64 5, .string ⟨#[103, 111, 116, 98, 97, 99, 107]⟩, .func (.func 79) #[] #[], .func (.func 80) #[] #[], .func (.func 81) #[] #[]] = w3 at *))
 exact bodyPost_ret (by simp [results, Tryz.results20, go_sem, s0, s1, s2, s3, s4]) rfl ⟨rfl, S2.out⟩
set_option maxRecDepth 4000 in
set_option maxHeartbeats 4000000 in
theorem findW6 (u : ByteArray) (hu : idxT u = 5) (b : Nat) (w : World) (hk : w.cell? ⟨b, 0, none⟩ = some (.string u)) (hb : b < w.heap.size) :
  Calls Tryz.prog 20 #[.func (.func 87) #[] #[.pointer (some ⟨b, 0, none⟩)]] w fun e w' => e = .returned (.tuple #[.agg #[.int .i64 6, .string ⟨#[104, 101, 114, 101]⟩, .func (.func 82) #[] #[], .func (.func 74) #[] #[], .func (.func 75) #[] #[]], .bool true]) ∧ Below w.heap.size w w' := by
 have HX : Hid (idxT u = 5) := hu
 have H1 : Hid (∀ y, Below w.heap.size w y → y.cell? ⟨b, 0, none⟩ = some (.string u)) := fun y hy => (hy.cell (p := ⟨b, 0, none⟩) hb).trans hk
 have HL : Hid (b < w.heap.size) := hb
 clear hk hb hu
 go_enter Tryz.func20, Tryz.ntmps20
 go_wp2_with (first | (go_at_call 52; refine (mailForms_any _).mono ?_; rintro e w1 ⟨rfl, e1⟩; obtain ⟨C1, L1, B1, R1⟩ := fm_world e1; clear e1) | (go_at_call 53; refine (idxW u b (w.heap.size + 1) w1 L1.out C1.out (H1.out _ B1.out) (Nat.lt_of_lt_of_le HL.out B1.out.size)).mono ?_; rintro e w2 ⟨rfl, b2⟩; rw [HX.out]; have B2 : Hid (Below w1.heap.size w1 w2) := b2; clear b2; have k0 : w2.cell? ⟨w.heap.size + 1, 25, none⟩ = some (.int .i64 6) := (B2.out.cell (p := ⟨w.heap.size + 1, 25, none⟩) L1.out).trans (C1.out 25); have k1 : w2.cell? ⟨w.heap.size + 1, 26, none⟩ = some (.string ⟨#[104, 101, 114, 101]⟩) := (B2.out.cell (p := ⟨w.heap.size + 1, 26, none⟩) L1.out).trans (C1.out 26); have k2 : w2.cell? ⟨w.heap.size + 1, 27, none⟩ = some (.func (.func 82) #[] #[]) := (B2.out.cell (p := ⟨w.heap.size + 1, 27, none⟩) L1.out).trans (C1.out 27); have k3 : w2.cell? ⟨w.heap.size + 1, 28, none⟩ = some (.func (.func 74) #[] #[]) := (B2.out.cell (p := ⟨w.heap.size + 1, 28, none⟩) L1.out).trans (C1.out 28); have k4 : w2.cell? ⟨w.heap.size + 1, 29, none⟩ = some (.func (.func 75) #[] #[]) := (B2.out.cell (p := ⟨w.heap.size + 1, 29, none⟩) L1.out).trans (C1.out 29); have R2 : Hid (w2.heap[w.heap.size]? = some (.cells #[.int .i64 0, .string ⟨#[]⟩, .nilFunc, .nilFunc, .nilFunc] 51 (0, 0))) := (B2.out.block _ (Nat.lt_trans (Nat.lt_succ_self _) L1.out)).trans R1.out; have R3 : w.heap.size < w2.heap.size := Nat.lt_of_lt_of_le (Nat.lt_trans (Nat.lt_succ_self _) L1.out) B2.out.size) | (refine wpList_store_row (by rfl) 51 _ _ (by rfl) w.heap.size #[.int .i64 6, .string ⟨#[104, 101, 114, 101]⟩, .func (.func 82) #[] #[], .func (.func 74) #[] #[], .func (.func 75) #[] #[]] (by rfl) (by rfl) 51 #[.int .i64 0, .string ⟨#[]⟩, .nilFunc, .nilFunc, .nilFunc] R2.out (by kernel_rfl) rfl (by kernel_rfl) ?_; obtain ⟨S1, S2⟩ := fm_set (w := w) (cs := #[.int .i64 6, .string ⟨#[104, 101, 114, 101]⟩, .func (.func 82) #[] #[], .func (.func 74) #[] #[], .func (.func 75) #[] #[]]) R2.out (bl_trans B1.out B2.out); have s0 := S1.out 0; have s1 := S1.out 1; have s2 := S1.out 2; have s3 := S1.out 3; have s4 := S1.out 4; generalize w2.setRow w.heap.size #[.int .i64 6, .string ⟨#[104, 101, 114, 101]⟩, .func (.func 82) #[] #[], .func (.func 74) #[] #[], .func (.func 75) #[] #[]] = w3 at *))
 exact bodyPost_ret (by simp [results, Tryz.results20, go_sem, s0, s1, s2, s3, s4]) rfl ⟨rfl, S2.out⟩
set_option maxRecDepth 4000 in
set_option maxHeartbeats 4000000 in
theorem findW7 (u : ByteArray) (hu : idxT u = -1) (b : Nat) (w : World) (hk : w.cell? ⟨b, 0, none⟩ = some (.string u)) (hb : b < w.heap.size) :
  Calls Tryz.prog 20 #[.func (.func 87) #[] #[.pointer (some ⟨b, 0, none⟩)]] w fun e w' => e = .returned (.tuple #[.agg #[.int .i64 0, .string ⟨#[]⟩, .nilFunc, .nilFunc, .nilFunc], .bool false]) ∧ Below w.heap.size w w' := by
 have HX : Hid (idxT u = -1) := hu
 have H1 : Hid (∀ y, Below w.heap.size w y → y.cell? ⟨b, 0, none⟩ = some (.string u)) := fun y hy => (hy.cell (p := ⟨b, 0, none⟩) hb).trans hk
 have HL : Hid (b < w.heap.size) := hb
 clear hk hb hu
 go_enter Tryz.func20, Tryz.ntmps20
 go_wp2_with (first | (go_at_call 52; refine (mailForms_any _).mono ?_; rintro e w1 ⟨rfl, e1⟩; obtain ⟨C1, L1, B1, R1⟩ := fm_world e1; clear e1) | (go_at_call 53; refine (idxW u b (w.heap.size + 1) w1 L1.out C1.out (H1.out _ B1.out) (Nat.lt_of_lt_of_le HL.out B1.out.size)).mono ?_; rintro e w2 ⟨rfl, b2⟩; rw [HX.out]; have B2 : Hid (Below w1.heap.size w1 w2) := b2; clear b2; have R2 : Hid (w2.heap[w.heap.size]? = some (.cells #[.int .i64 0, .string ⟨#[]⟩, .nilFunc, .nilFunc, .nilFunc] 51 (0, 0))) := (B2.out.block _ (Nat.lt_trans (Nat.lt_succ_self _) L1.out)).trans R1.out; have R3 : w.heap.size < w2.heap.size := Nat.lt_of_lt_of_le (Nat.lt_trans (Nat.lt_succ_self _) L1.out) B2.out.size) | (refine wpList_store_row (by rfl) 51 _ _ (by rfl) w.heap.size #[.int .i64 0, .string ⟨#[]⟩, .nilFunc, .nilFunc, .nilFunc] (by rfl) (by rfl) 51 #[.int .i64 0, .string ⟨#[]⟩, .nilFunc, .nilFunc, .nilFunc] R2.out (by kernel_rfl) rfl (by kernel_rfl) ?_; obtain ⟨S1, S2⟩ := fm_set (w := w) (cs := #[.int .i64 0, .string ⟨#[]⟩, .nilFunc, .nilFunc, .nilFunc]) R2.out (bl_trans B1.out B2.out); have s0 := S1.out 0; have s1 := S1.out 1; have s2 := S1.out 2; have s3 := S1.out 3; have s4 := S1.out 4; generalize w2.setRow w.heap.size #[.int .i64 0, .string ⟨#[]⟩, .nilFunc, .nilFunc, .nilFunc] = w3 at *))
 exact bodyPost_ret (by simp [results, Tryz.results20, go_sem, s0, s1, s2, s3, s4]) rfl ⟨rfl, S2.out⟩
end Go.Proofs.YtgakmkhbnjofhaaGreatDoor
