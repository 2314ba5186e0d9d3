import Derived.Test.YtgakmkhbnjofhaaGreatDoorJ42
import Derived.Test.YtgakmkhbnjofhaaGreatDoorJ39
import Derived.Test.YtgakmkhbnjofhaaGreatDoorJ40
import Derived.Test.YtgakmkhbnjofhaaGreatDoorJ41
import Derived.Test.YtgakmkhbnjofhaaGreatDoorJ07
import Derived.Deep.RegionHeld3
import Derived.Laws.Pointers
import Derived.StillTactics
namespace Go.Proofs.YtgakmkhbnjofhaaGreatDoor
open Go.RowKit
set_option linter.unusedVariables false
theorem wantsI_len : ∀ (n : Nat) (r : List UInt8), (wantsI n r).length ≤ n
 | 0, _ => by simp [wantsI]
 | n + 1, r => by
  rw [wantsI]
  split
  ·
   simp
  ·
   have := wantsI_len n (nxE r).2
   simp only [List.length_cons]
   omega
theorem wantsI_fits : ∀ (n : Nat) (r : List UInt8), r.length ≤ 1048576 → ∀ q ∈ wantsI n r, q.fits
 | 0, _, _, q, h => by simp [wantsI] at h
 | n + 1, r, hr, q, h => by
  rw [wantsI] at h
  split at h
  ·
   simp at h
  ·
   have hl := nxE_len r
   rcases List.mem_cons.1 h with rfl | h
   ·
    have h1 := wdI_size (nxE r).1 1
    have h2 := Nat.le_trans (holdR_size (wdI (nxE r).1 3)) (wdI_size (nxE r).1 3)
    refine ⟨?_, ?_⟩
    ·
     show (wdI (nxE r).1 1).size ≤ maxLen
     unfold maxLen; omega
    ·
     show (holdR (wdI (nxE r).1 3)).size ≤ maxLen
     unfold maxLen; omega
   ·
    exact wantsI_fits n (nxE r).2 (by omega) q h
theorem headI_sz (k : Int) (l : List UInt8) (ws : List W.WantD) (hl : l.length ≤ 1048576) (hw : ws.length ≤ 1048576) : ParSz (headI k l ws) := by
 have h1 := Nat.le_trans (wdI_size l 1) hl
 have h2 := Nat.le_trans (wdI_size l 2) hl
 have h3 := Nat.le_trans (wdI_size l 3) hl
 have h0 : eT.size ≤ 1048576 := Nat.zero_le _
 unfold headI
 split
 ·
  exact ⟨h1, h0, h0, hw⟩
 ·
  split
  ·
   exact ⟨h1, h2, h3, hw⟩
  ·
   split
   ·
    exact ⟨h1, h2, h0, hw⟩
   ·
    exact ⟨h0, h0, h0, hw⟩
theorem headI_ws (k : Int) (l : List UInt8) (ws : List W.WantD) : (headI k l ws).ws = ws := by
 unfold headI
 split
 ·
  rfl
 ·
  split
  ·
   rfl
  ·
   split
   ·
    rfl
   ·
    rfl
theorem implP_ws (s : ByteArray) : (implP s).ws = wantsI 10 (nxE s.data.toList).2 := headI_ws _ _ _
theorem implP_sz (s : ByteArray) (hs : s.size ≤ 1048576) : ParSz (implP s) := by
 have h1 := nxE_len s.data.toList
 have h2 := wantsI_len 10 (nxE s.data.toList).2
 rw [← size_data] at h1
 exact headI_sz _ _ _ (by omega) (by omega)
theorem implP_fits (s : ByteArray) (hs : s.size ≤ 1048576) : ∀ q ∈ (implP s).ws, q.fits := by
 have h1 := nxE_len s.data.toList
 rw [← size_data] at h1
 rw [implP_ws]
 exact wantsI_fits 10 _ (by omega)
theorem WsIn.keep {w w' : World} {v : Value} {ws : List W.WantD} (h : WsIn w v ws) (hb : Below w.heap.size w w') : WsIn w' v ws := by
 rcases h with h | ⟨g, cp, h1, h2, h3, h4⟩
 ·
  exact Or.inl h
 ·
  exact Or.inr ⟨g, cp, h1, h2, h3.keep h4 hb, Nat.lt_of_lt_of_le h4 hb.size⟩
def RdPostC (s : ByteArray) (P : ParD) (w : World) (e : Ending) (w' : World) : Prop := ∃ v, e = .returned (.tuple #[.agg (pcells (ansP s P) v), .bool (okP s P)]) ∧ W.Sl w' v (ansP s P).ws w.heap.size ∧ (∀ g n c, v = .slice (some ⟨g, 0, none⟩) n c → n ≤ c) ∧ Below w.heap.size w w'
theorem post_noC {s : ByteArray} {P : ParD} {w w' : World} {e : Ending} (h : okP s P = false) (he : e = .returned (.tuple #[.agg #[.int .i64 0, .string ⟨#[]⟩, .int .i64 0, .slice none 0 0, .string ⟨#[]⟩, .string ⟨#[]⟩, .int .i64 0], .bool false])) (hb : Below w.heap.size w w') : RdPostC s P w e w' := by
 have hz : ansP s P = zP := if_neg (by rw [h]; simp)
 exact ⟨.slice none 0 0, by rw [hz, h, he]; rfl, by rw [hz]; exact Or.inl ⟨rfl, rfl⟩, (fun g n c e => by cases e), hb⟩
theorem post_yesC {s : ByteArray} {P : ParD} {w w' : World} {e : Ending} {v : Value} (h : okP s P = true) (he : e = .returned (.tuple #[.agg (pcells P v), .bool true])) (hv : W.Sl w' v P.ws w.heap.size) (hc : ∀ g n c, v = .slice (some ⟨g, 0, none⟩) n c → n ≤ c) (hb : Below w.heap.size w w') : RdPostC s P w e w' := by
 have hz : ansP s P = P := if_pos h
 exact ⟨v, by rw [hz, h, he], by rw [hz]; exact hv, hc, hb⟩
set_option maxRecDepth 4000 in
set_option maxHeartbeats 8000000 in
theorem implReadC (s : ByteArray) (w : World) (hs : s.size ≤ 1048576) (hE : Env w) :
  Calls Tryz.prog 6 #[.string s] w fun e w' => RdPostC s (implP s) w e w' := by
 obtain ⟨w0, hw0⟩ : ∃ w0, w0 = w.alloc (.cells #[.int .i64 0, .string ⟨#[]⟩, .int .i64 0, .slice none 0 0, .string ⟨#[]⟩, .string ⟨#[]⟩, .int .i64 0] 25) := ⟨_, rfl⟩
 obtain ⟨w1, hw1⟩ : ∃ w1, w1 = w0.alloc (.cells #[.string s] 59) := ⟨_, rfl⟩
 have B0 : Hid (Below w.heap.size w w0) := by rw [hw0]; exact bl_alloc (Below.refl _ _) _
 have B1 : Hid (Below w0.heap.size w0 w1) := by rw [hw1]; exact bl_alloc (Below.refl _ _) _
 have R0 : Hid (w0.heap[w.heap.size]? = some (.cells #[.int .i64 0, .string ⟨#[]⟩, .int .i64 0, .slice none 0 0, .string ⟨#[]⟩, .string ⟨#[]⟩, .int .i64 0] 25 (0, 0))) := by rw [hw0]; exact heap_alloc_new w _
 have L0 : Hid (w.heap.size < w0.heap.size) := by rw [hw0]; show _ < _; simp
 have S1 : Hid (Sp w0.heap.size s.data.toList w1) := by
  rw [hw1]
  exact ⟨by rw [World.cell?_alloc_new, wd_data]; rfl, by simp [go_sem], by simp, by rw [← size_data]; exact hs⟩
 have HW : Hid (w1 = (w.alloc (.cells #[.int .i64 0, .string ⟨#[]⟩, .int .i64 0, .slice none 0 0, .string ⟨#[]⟩, .string ⟨#[]⟩, .int .i64 0] 25)).alloc (.cells #[.string s] 59)) := by rw [hw1, hw0]; exact rfl
 have HB : Hid (w0.heap.size = w.heap.size + 1) := by rw [hw0]; show _ = _; simp
 have HE : Hid (Env w) := hE
 have HZ : Hid (ParSz (implP s)) := implP_sz s hs
 have HF : Hid (∀ q ∈ (implP s).ws, q.fits) := implP_fits s hs
 have HP : Hid (implP s = headI (kindL (nxS (nxE s.data.toList).1).1) (nxE s.data.toList).1 (wantsI 10 (nxE s.data.toList).2)) := rfl
 have HPw : Hid ((implP s).ws = wantsI 10 (nxE s.data.toList).2) := implP_ws s
 clear hw0 hw1 hE hs
 generalize implP s = P at *
 go_enter Tryz.func6, Tryz.ntmps6
 go_wp2_with fail
 rw [← HW.out, ← HB.out]
 refine (readParcel_at (Wb := w) (Y := w1) (be := w0.heap.size) HE.out (bl_trans B0.out B1.out) B0.out.size S1.out).mono ?_
 rw [← HP.out, ← HPw.out]
 rintro e w2 ⟨⟨v, rfl, hsl, hcap⟩, x2⟩
 have BW2 : Hid (Below w.heap.size w w2) := (bl_trans B0.out B1.out).trans (x2.below B0.out.size (bl_trans B0.out B1.out).size)
 have R2 : Hid (w2.heap[w.heap.size]? = some (.cells #[.int .i64 0, .string ⟨#[]⟩, .int .i64 0, .slice none 0 0, .string ⟨#[]⟩, .string ⟨#[]⟩, .int .i64 0] 25 (0, 0))) := by
  have z := L0.out
  rw [x2.block _ (Nat.lt_of_lt_of_le z B1.out.size) (by omega), B1.out.block _ z]
  exact R0.out
 have ZW2 : Hid (w1.heap.size ≤ w2.heap.size) := x2.size
 have ZW1 : Hid (w.heap.size ≤ w1.heap.size + 1) := by show _ ≤ _; have := B0.out.size; have := B1.out.size; omega
 obtain ⟨k, b, se, ws, h, c, t⟩ := P
 simp only [pcells] at hsl ⊢
 obtain ⟨a, n, c', rfl⟩ : ∃ a n c', v = .slice a n c' := by
  rcases hsl with ⟨rfl, -⟩ | ⟨g, cap, rfl, -⟩
  ·
   exact ⟨_, _, _, rfl⟩
  ·
   exact ⟨_, _, _, rfl⟩
 have HSl : Hid (W.Sl w2 (.slice a n c') ws (w1.heap.size + 1)) := hsl
 have HWs : Hid (WsIn w2 (.slice a n c') ws) := sl_ws hsl hcap
 have HCp : Hid (∀ g n' c_, (Value.slice a n c') = .slice (some ⟨g, 0, none⟩) n' c_ → n' ≤ c_) := hcap
 clear hsl hcap x2 HP HPw
 obtain ⟨w3, hw3⟩ : ∃ w3, w3 = w2.alloc (.cells #[.int .i64 k, .string b, .int .i64 se, .slice a n c', .string h, .string c, .int .i64 t] 25) := ⟨_, rfl⟩
 have HW3 : Hid (w3 = w2.alloc (.cells #[.int .i64 k, .string b, .int .i64 se, .slice a n c', .string h, .string c, .int .i64 t] 25)) := hw3
 have B3 : Hid (Below w2.heap.size w2 w3) := by rw [hw3]; exact bl_alloc (Below.refl _ _) _
 have K3 : Hid (∀ y, Below w3.heap.size w3 y → ∀ j, y.cell? ⟨w2.heap.size, j, none⟩ = (#[.int .i64 k, .string b, .int .i64 se, .slice a n c', .string h, .string c, .int .i64 t] : Array Value)[j]?) := by
  intro y hb j
  rw [hw3] at hb
  rw [box_keep hb j]
  simp [go_sem]
 have BW3 : Hid (Below w.heap.size w w3) := bl_trans BW2.out B3.out
 have R3 : Hid (w3.heap[w.heap.size]? = some (.cells #[.int .i64 0, .string ⟨#[]⟩, .int .i64 0, .slice none 0 0, .string ⟨#[]⟩, .string ⟨#[]⟩, .int .i64 0] 25 (0, 0))) := by
  rw [B3.out.block _ (Nat.lt_of_lt_of_le L0.out (Nat.le_trans B1.out.size ZW2.out))]
  exact R2.out
 have kzz : w.heap.size < w2.heap.size := Nat.lt_of_lt_of_le L0.out (Nat.le_trans B1.out.size ZW2.out)
 clear hw3
 cases hse : s.toList.isEmpty
 ·
  have WI : Hid (WsIn w3 (.slice a n c') ws) := HWs.out.keep B3.out
  obtain ⟨TX, hTX⟩ : ∃ TX, formT ⟨k, b, se, ws, h, c, t⟩ = TX := ⟨_, rfl⟩
  have HTX : Hid (formT ⟨k, b, se, ws, h, c, t⟩ = TX) := hTX
  have kc0 := K3.out w3 (Below.refl _ _) 0; have kc1 := K3.out w3 (Below.refl _ _) 1; have kc2 := K3.out w3 (Below.refl _ _) 2; have kc3 := K3.out w3 (Below.refl _ _) 3; have kc4 := K3.out w3 (Below.refl _ _) 4; have kc5 := K3.out w3 (Below.refl _ _) 5; have kc6 := K3.out w3 (Below.refl _ _) 6
  cases hq : (TX.toList == s.toList)
  ·
   have HOK : Hid (okP s ⟨k, b, se, ws, h, c, t⟩ = false) := okP_ne (by rw [hTX]; exact hq)
   clear hTX
   go_wp2_with fail
   rw [← HW3.out]
   refine (implFormG k b se ws h c t _ w3 HZ.out HF.out WI.out (HE.out.keep BW3.out).tab).mono ?_
   rw [HTX.out]
   rintro e w4 ⟨rfl, b4⟩
   have BW4 : Hid (Below w.heap.size w w4) := bl_trans BW3.out b4
   have R4 : Hid (w4.heap[w.heap.size]? = some (.cells #[.int .i64 0, .string ⟨#[]⟩, .int .i64 0, .slice none 0 0, .string ⟨#[]⟩, .string ⟨#[]⟩, .int .i64 0] 25 (0, 0))) := (b4.block _ (Nat.lt_of_lt_of_le kzz B3.out.size)).trans R3.out
   have kz4 : w.heap.size < w4.heap.size := Nat.lt_of_lt_of_le (Nat.lt_of_lt_of_le kzz B3.out.size) b4.size
   clear b4 kc0 kc1 kc2 kc3 kc4 kc5 kc6
   obtain ⟨F1, F2, F3⟩ := ans_set (w := w) (y := w4) (cs := #[.int .i64 0, .string ⟨#[]⟩, .int .i64 0, .slice none 0 0, .string ⟨#[]⟩, .string ⟨#[]⟩, .int .i64 0]) R4.out BW4.out
   go_wp2_with (refine wpList_store_row (by rfl) 25 _ _ (by rfl) w.heap.size #[.int .i64 0, .string ⟨#[]⟩, .int .i64 0, .slice none 0 0, .string ⟨#[]⟩, .string ⟨#[]⟩, .int .i64 0] (by rfl) (by rfl) 25 #[.int .i64 0, .string ⟨#[]⟩, .int .i64 0, .slice none 0 0, .string ⟨#[]⟩, .string ⟨#[]⟩, .int .i64 0] R4.out (by kernel_rfl) rfl (by simp [Value.oneCell']) ?_)
   have s0 := F1.out 0; have s1 := F1.out 1; have s2 := F1.out 2; have s3 := F1.out 3; have s4 := F1.out 4; have s5 := F1.out 5; have s6 := F1.out 6
   exact bodyPost_ret (v := .tuple #[.agg #[.int .i64 0, .string ⟨#[]⟩, .int .i64 0, .slice none 0 0, .string ⟨#[]⟩, .string ⟨#[]⟩, .int .i64 0], .bool false]) (by simp [results, Tryz.results6, go_sem, s0, s1, s2, s3, s4, s5, s6]) rfl (post_noC HOK.out rfl F2.out)
  ·
   have HOK : Hid (okP s ⟨k, b, se, ws, h, c, t⟩ = true) := okP_yes hse (by rw [hTX]; exact hq)
   clear hTX
   go_wp2_with fail
   rw [← HW3.out]
   refine (implFormG k b se ws h c t _ w3 HZ.out HF.out WI.out (HE.out.keep BW3.out).tab).mono ?_
   rw [HTX.out]
   rintro e w4 ⟨rfl, b4⟩
   have BW4 : Hid (Below w.heap.size w w4) := bl_trans BW3.out b4
   have R4 : Hid (w4.heap[w.heap.size]? = some (.cells #[.int .i64 0, .string ⟨#[]⟩, .int .i64 0, .slice none 0 0, .string ⟨#[]⟩, .string ⟨#[]⟩, .int .i64 0] 25 (0, 0))) := (b4.block _ (Nat.lt_of_lt_of_le kzz B3.out.size)).trans R3.out
   have kz4 : w.heap.size < w4.heap.size := Nat.lt_of_lt_of_le (Nat.lt_of_lt_of_le kzz B3.out.size) b4.size
   have kd0 := K3.out w4 b4 0; have kd1 := K3.out w4 b4 1; have kd2 := K3.out w4 b4 2; have kd3 := K3.out w4 b4 3; have kd4 := K3.out w4 b4 4; have kd5 := K3.out w4 b4 5; have kd6 := K3.out w4 b4 6
   have HS4 : Hid (W.Sl w4 (.slice a n c') ws (w1.heap.size + 1)) := (HSl.out.keep B3.out).keep b4
   clear b4 kc0 kc1 kc2 kc3 kc4 kc5 kc6
   obtain ⟨F1, F2, F3⟩ := ans_set (w := w) (y := w4) (cs := #[.int .i64 k, .string b, .int .i64 se, .slice a n c', .string h, .string c, .int .i64 t]) R4.out BW4.out
   have HS5 : Hid (W.Sl (w4.setRow w.heap.size #[.int .i64 k, .string b, .int .i64 se, .slice a n c', .string h, .string c, .int .i64 t]) (.slice a n c') ws w.heap.size) := by
    refine Sl_low (HS4.out.grown F3.out ?_) ZW1.out
    cases hv : (Value.slice a n c').ownBlock with
    | none => exact Or.inl rfl
    | some g =>
     right
     intro e
     have h2 := (HS4.out.lt g hv).1
     have h3 := B0.out.size
     have h4 := B1.out.size
     have h5 := L0.out
     have e2 := Option.some.inj e
     omega
   go_wp2_with (refine wpList_store_row (by rfl) 25 _ _ (by rfl) w.heap.size #[.int .i64 k, .string b, .int .i64 se, .slice a n c', .string h, .string c, .int .i64 t] (by rfl) (by rfl) 25 #[.int .i64 0, .string ⟨#[]⟩, .int .i64 0, .slice none 0 0, .string ⟨#[]⟩, .string ⟨#[]⟩, .int .i64 0] R4.out (by kernel_rfl) rfl (by simp [Value.oneCell']) ?_)
   have s0 := F1.out 0; have s1 := F1.out 1; have s2 := F1.out 2; have s3 := F1.out 3; have s4 := F1.out 4; have s5 := F1.out 5; have s6 := F1.out 6
   exact bodyPost_ret (v := .tuple #[.agg #[.int .i64 k, .string b, .int .i64 se, .slice a n c', .string h, .string c, .int .i64 t], .bool true]) (by simp [results, Tryz.results6, go_sem, s0, s1, s2, s3, s4, s5, s6]) rfl (post_yesC (P := ⟨k, b, se, ws, h, c, t⟩) HOK.out rfl HS5.out HCp.out F2.out)
 ·
  have HOK : Hid (okP s ⟨k, b, se, ws, h, c, t⟩ = false) := okP_no hse
  obtain ⟨F1, F2, F3⟩ := ans_set (w := w) (y := w3) (cs := #[.int .i64 0, .string ⟨#[]⟩, .int .i64 0, .slice none 0 0, .string ⟨#[]⟩, .string ⟨#[]⟩, .int .i64 0]) R3.out BW3.out
  have kz3 : w.heap.size < w3.heap.size := Nat.lt_of_lt_of_le kzz B3.out.size
  go_wp2_with (rw [← HW3.out]; refine wpList_store_row (by rfl) 25 _ _ (by rfl) w.heap.size #[.int .i64 0, .string ⟨#[]⟩, .int .i64 0, .slice none 0 0, .string ⟨#[]⟩, .string ⟨#[]⟩, .int .i64 0] (by rfl) (by rfl) 25 #[.int .i64 0, .string ⟨#[]⟩, .int .i64 0, .slice none 0 0, .string ⟨#[]⟩, .string ⟨#[]⟩, .int .i64 0] R3.out (by kernel_rfl) rfl (by simp [Value.oneCell']) ?_)
  have s0 := F1.out 0; have s1 := F1.out 1; have s2 := F1.out 2; have s3 := F1.out 3; have s4 := F1.out 4; have s5 := F1.out 5; have s6 := F1.out 6
  exact bodyPost_ret (v := .tuple #[.agg #[.int .i64 0, .string ⟨#[]⟩, .int .i64 0, .slice none 0 0, .string ⟨#[]⟩, .string ⟨#[]⟩, .int .i64 0], .bool false]) (by simp [results, Tryz.results6, go_sem, s0, s1, s2, s3, s4, s5, s6]) rfl (post_noC HOK.out rfl F2.out)
theorem specRead (s : ByteArray) (w : World) (hs : s.size ≤ 1048576) :
  Calls Tryz.prog 10 #[.string s] w fun e w' => RdPost s (specP s) w e w' := by
 by_cases h1 : atL (cutL 32 (atL (cutL 10 s.data.toList) 0)) 0 = wTold
 ·
  exact specR1 s w hs h1
 by_cases h2 : atL (cutL 32 (atL (cutL 10 s.data.toList) 0)) 0 = wAsked
 ·
  exact specR2 s w hs h2
 by_cases h3 : atL (cutL 32 (atL (cutL 10 s.data.toList) 0)) 0 = wGiven
 ·
  exact specR3 s w hs h3
 by_cases h4 : atL (cutL 32 (atL (cutL 10 s.data.toList) 0)) 0 = wBack
 ·
  exact specR4 s w hs h4
 by_cases h5 : atL (cutL 32 (atL (cutL 10 s.data.toList) 0)) 0 = wGot
 ·
  exact specR5 s w hs h5
 by_cases h6 : atL (cutL 32 (atL (cutL 10 s.data.toList) 0)) 0 = wHere
 ·
  exact specR6 s w hs h6
 refine specR7 s w hs _ rfl ?_
 unfold kindL
 rw [if_neg h1, if_neg h2, if_neg h3, if_neg h4, if_neg h5, if_neg h6]
theorem ok_back {s : ByteArray} {P : ParD} (h : okP s P = true) : specP s = P ∧ implP s = P := by
 unfold okP at h
 simp only [Bool.and_eq_true] at h
 refine read_back (eq_list h.2) ?_
 intro e
 have h1 := h.1
 rw [e] at h1
 have h2 : (eT : ByteArray).toList.isEmpty = true := by rw [ByteArray.toList_eq]; rfl
 rw [h2] at h1
 cases h1
theorem agree (s : ByteArray) : okP s (specP s) = okP s (implP s) ∧ ansP s (specP s) = ansP s (implP s) := by
 cases h1 : okP s (specP s) with
 | true =>
  have h2 := ok_back h1
  rw [h2.2]
  exact ⟨h1.symm, rfl⟩
 | false =>
  cases h2 : okP s (implP s) with
  | true =>
   have h3 := ok_back h2
   rw [h3.1, h2] at h1
   cases h1
  | false =>
   refine ⟨rfl, ?_⟩
   unfold ansP
   rw [if_neg (by rw [h1]; simp), if_neg (by rw [h2]; simp)]
set_option maxRecDepth 4000 in
set_option maxHeartbeats 1000000 in
theorem allOk (bk : Nat) (P : RunD → Bool) (b off cap : Nat) (rs : List RunD) (w : World) (hR : RowsAt w b off rs) (l1 : b < w.heap.size) (hl : rs.length ≤ 1048576)
  (hF : ∀ r ∈ rs, ∀ x, Below w.heap.size w x → Calls Tryz.prog 48 #[.agg #[.string r.c, .int .i64 r.v, .string r.h, .int .i64 r.p, .int .i64 r.s, .int .i64 r.d, .int .i64 r.g, .int .i64 r.a, .int .i64 r.b, .int .i64 r.i, .int .i64 r.u], .pointer (some ⟨bk, 0, none⟩)] x fun e x' => e = .returned (.bool (P r)) ∧ Below x.heap.size x x') :
  Calls Tryz.prog 47 #[.slice (some ⟨b, off, none⟩) rs.length cap, .func (.func 48) #[] #[.pointer (some ⟨bk, 0, none⟩)]] w fun e w' => (∃ q : Bool, e = .returned (.bool q) ∧ (q = true ↔ ∀ r ∈ rs, P r = true)) ∧ Below w.heap.size w w' := by
 have HF : Hid _ := hF
 clear hF
 go_enter Tryz.func47, Tryz.ntmps47
 go_wp2
 go_loopw [9] (fun i wx => ∃ (k : Nat), k ≤ rs.length ∧ i = .int .i64 k ∧ Hid (∀ j r, j < k → rs[j]? = some r → P r = true) ∧ Below w.heap.size w wx) (fun i _ => rs.length - (intOf i).toNat)
 case atStart => exact ⟨0, Nat.zero_le _, rfl, fun j r h => by omega, Below.refl _ _⟩
 case round =>
  obtain ⟨k, hk, rfl, Ha, hB⟩ := hrel
  by_cases hlt : k < rs.length
  ·
   obtain ⟨r, hr⟩ : ∃ r, rs[k]? = some r := ⟨rs[k], List.getElem?_eq_getElem hlt⟩
   have Hr : Hid _ := hr
   clear hr
   obtain ⟨c0, c1, c2, c3, c4, c5, c6, c7, c8, c9, c10⟩ := (hR.keep l1 hB).at Hr.out
   go_wp2_with fail
   refine (HF.out r (List.mem_of_getElem? Hr.out) _ (bl_alloc hB _)).mono ?_
   rintro e w1 ⟨rfl, hb⟩
   have hB1 := bl_trans (bl_alloc hB _) hb
   have Hb1 : Hid _ := hB1
   clear hB hb hB1
   cases hP : P r
   ·
    go_wp2
    go_ret
    exact ⟨⟨false, rfl, ⟨fun h => (by cases h), fun h => by have := h r (List.mem_of_getElem? Hr.out); rw [hP] at this; cases this⟩⟩, Hb1.out⟩
   ·
    go_wp2
    exact ⟨⟨k + 1, by omega, by go_num, (fun j q hj hq => by
     by_cases e : j = k
     ·
      subst e; have hh := Hr.out; rw [hh] at hq; cases hq; exact hP
     ·
      exact Ha.out j q (by omega) hq), Hb1.out⟩, by simp [intOf]; omega⟩
  ·
   go_wp2
   go_ret
   exact ⟨⟨true, rfl, ⟨fun _ r hr => by
    obtain ⟨j, hj⟩ := List.getElem?_of_mem hr
    have hjl : j < rs.length := (List.getElem?_eq_some_iff.1 hj).1
    exact Ha.out j r (by omega) hj, fun _ => rfl⟩⟩, hB⟩
theorem name_any (r : RunD) (w : World) :
  Calls Tryz.prog 46 #[.agg #[.string r.c, .int .i64 r.v, .string r.h, .int .i64 r.p, .int .i64 r.s, .int .i64 r.d, .int .i64 r.g, .int .i64 r.a, .int .i64 r.b, .int .i64 r.i, .int .i64 r.u]] w fun e w' => e = .returned (.string r.c) ∧ Below w.heap.size w w' := by
 go_enter Tryz.func46, Tryz.ntmps46
 go_wp2
 go_ret
 exact ⟨rfl, by repeat (first | exact Below.refl _ _ | refine bl_alloc ?_ _)⟩
def AscN (rs : List RunD) (n : Nat) : Prop := ∀ j q r, j + 1 < n → rs[j]? = some q → rs[j + 1]? = some r → Op.bytesLess q.c.toList r.c.toList = true
theorem AscN.step {rs : List RunD} {k : Nat} {q r : RunD} (h : AscN rs (k + 1)) (hq : rs[k]? = some q) (hr : rs[k + 1]? = some r) (hs : Op.bytesLess q.c.toList r.c.toList = true) : AscN rs (k + 1 + 1) := by
 intro j q' r' hj hq' hr'
 by_cases e : j = k
 ·
  subst e; rw [hq] at hq'; rw [hr] at hr'; cases hq'; cases hr'; exact hs
 ·
  exact h j q' r' (by omega) hq' hr'
theorem keepAsc {x w' : World} {b off m : Nat} {rs : List RunD} {r q : RunD} (hk : rs[m + 1]? = some r) (hq : rs[m]? = some q) (h1 : RowsAt x b off rs) (l1 : b < x.heap.size) (hb : Below x.heap.size x w') :
  Below x.heap.size x w' ∧ (w'.cell? ⟨b, off + (m + 1) * 11, none⟩ = some (.string r.c) ∧ w'.cell? ⟨b, off + (m + 1) * 11 + 1, none⟩ = some (.int .i64 r.v) ∧ w'.cell? ⟨b, off + (m + 1) * 11 + 2, none⟩ = some (.string r.h) ∧ w'.cell? ⟨b, off + (m + 1) * 11 + 3, none⟩ = some (.int .i64 r.p) ∧ w'.cell? ⟨b, off + (m + 1) * 11 + 4, none⟩ = some (.int .i64 r.s) ∧ w'.cell? ⟨b, off + (m + 1) * 11 + 5, none⟩ = some (.int .i64 r.d) ∧ w'.cell? ⟨b, off + (m + 1) * 11 + 6, none⟩ = some (.int .i64 r.g) ∧ w'.cell? ⟨b, off + (m + 1) * 11 + 7, none⟩ = some (.int .i64 r.a) ∧ w'.cell? ⟨b, off + (m + 1) * 11 + 8, none⟩ = some (.int .i64 r.b) ∧ w'.cell? ⟨b, off + (m + 1) * 11 + 9, none⟩ = some (.int .i64 r.i) ∧ w'.cell? ⟨b, off + (m + 1) * 11 + 10, none⟩ = some (.int .i64 r.u)) ∧ (w'.cell? ⟨b, off + m * 11, none⟩ = some (.string q.c) ∧ w'.cell? ⟨b, off + m * 11 + 1, none⟩ = some (.int .i64 q.v) ∧ w'.cell? ⟨b, off + m * 11 + 2, none⟩ = some (.string q.h) ∧ w'.cell? ⟨b, off + m * 11 + 3, none⟩ = some (.int .i64 q.p) ∧ w'.cell? ⟨b, off + m * 11 + 4, none⟩ = some (.int .i64 q.s) ∧ w'.cell? ⟨b, off + m * 11 + 5, none⟩ = some (.int .i64 q.d) ∧ w'.cell? ⟨b, off + m * 11 + 6, none⟩ = some (.int .i64 q.g) ∧ w'.cell? ⟨b, off + m * 11 + 7, none⟩ = some (.int .i64 q.a) ∧ w'.cell? ⟨b, off + m * 11 + 8, none⟩ = some (.int .i64 q.b) ∧ w'.cell? ⟨b, off + m * 11 + 9, none⟩ = some (.int .i64 q.i) ∧ w'.cell? ⟨b, off + m * 11 + 10, none⟩ = some (.int .i64 q.u)) := ⟨hb, (h1.keep l1 hb).at hk, (h1.keep l1 hb).at hq⟩
set_option maxRecDepth 4000 in
set_option maxHeartbeats 2000000 in
theorem ascends (b off cap : Nat) (rs : List RunD) (w : World) (hR : RowsAt w b off rs) (l1 : b < w.heap.size) (hl : rs.length ≤ 1048576) :
  Calls Tryz.prog 45 #[.slice (some ⟨b, off, none⟩) rs.length cap, .func (.func 46) #[] #[]] w fun e w' => (∃ q : Bool, e = .returned (.bool q) ∧ (q = true ↔ AscN rs rs.length)) ∧ Below w.heap.size w w' := by
 go_enter Tryz.func45, Tryz.ntmps45
 go_wp2
 go_loopw [5] (fun i wx => ∃ (m : Nat), m ≤ rs.length ∧ i = .int .i64 ((m : Int) + 1) ∧ Hid (AscN rs (m + 1)) ∧ Below w.heap.size w wx) (fun i _ => rs.length + 1 - (intOf i).toNat)
 case atStart => exact ⟨0, Nat.zero_le _, rfl, (fun j q r hj _ _ => by omega), Below.refl _ _⟩
 case round =>
  obtain ⟨m, hk, rfl, Ha, hB⟩ := hrel
  by_cases hlt : m + 1 < rs.length
  ·
   obtain ⟨r, hr⟩ : ∃ r, rs[m + 1]? = some r := ⟨rs[m + 1], List.getElem?_eq_getElem hlt⟩
   obtain ⟨q, hq⟩ : ∃ q, rs[m]? = some q := ⟨rs[m], List.getElem?_eq_getElem (by omega)⟩
   have Hr : Hid _ := hr
   have Hq : Hid _ := hq
   clear hr hq
   have g1 := hR.keep l1 hB
   have z1 : b < wr.heap.size := Nat.lt_of_lt_of_le l1 hB.size
   have i0 : (0 : Int) ≤ (m : Int) := by omega
   have i1 : (m : Int) + 1 < (rs.length : Int) := by omega
   have i2 : (m : Int) < (rs.length : Int) := by omega
   have i3 : (0 : Int) ≤ (m : Int) + 1 := by omega
   have iw : IntKind.i64.wrap (m : Int) = (m : Int) := by rw [IntKind.wrap_i64]; omega
   cases hasc : Op.bytesLess q.c.toList r.c.toList
   ·
    go_wp2_with fail
    go_region_held3 (fun w' => Below wr.heap.size wr w' ∧ (w'.cell? ⟨b, off + (m + 1) * 11, none⟩ = some (.string r.c) ∧ w'.cell? ⟨b, off + (m + 1) * 11 + 1, none⟩ = some (.int .i64 r.v) ∧ w'.cell? ⟨b, off + (m + 1) * 11 + 2, none⟩ = some (.string r.h) ∧ w'.cell? ⟨b, off + (m + 1) * 11 + 3, none⟩ = some (.int .i64 r.p) ∧ w'.cell? ⟨b, off + (m + 1) * 11 + 4, none⟩ = some (.int .i64 r.s) ∧ w'.cell? ⟨b, off + (m + 1) * 11 + 5, none⟩ = some (.int .i64 r.d) ∧ w'.cell? ⟨b, off + (m + 1) * 11 + 6, none⟩ = some (.int .i64 r.g) ∧ w'.cell? ⟨b, off + (m + 1) * 11 + 7, none⟩ = some (.int .i64 r.a) ∧ w'.cell? ⟨b, off + (m + 1) * 11 + 8, none⟩ = some (.int .i64 r.b) ∧ w'.cell? ⟨b, off + (m + 1) * 11 + 9, none⟩ = some (.int .i64 r.i) ∧ w'.cell? ⟨b, off + (m + 1) * 11 + 10, none⟩ = some (.int .i64 r.u)) ∧ (w'.cell? ⟨b, off + m * 11, none⟩ = some (.string q.c) ∧ w'.cell? ⟨b, off + m * 11 + 1, none⟩ = some (.int .i64 q.v) ∧ w'.cell? ⟨b, off + m * 11 + 2, none⟩ = some (.string q.h) ∧ w'.cell? ⟨b, off + m * 11 + 3, none⟩ = some (.int .i64 q.p) ∧ w'.cell? ⟨b, off + m * 11 + 4, none⟩ = some (.int .i64 q.s) ∧ w'.cell? ⟨b, off + m * 11 + 5, none⟩ = some (.int .i64 q.d) ∧ w'.cell? ⟨b, off + m * 11 + 6, none⟩ = some (.int .i64 q.g) ∧ w'.cell? ⟨b, off + m * 11 + 7, none⟩ = some (.int .i64 q.a) ∧ w'.cell? ⟨b, off + m * 11 + 8, none⟩ = some (.int .i64 q.b) ∧ w'.cell? ⟨b, off + m * 11 + 9, none⟩ = some (.int .i64 q.i) ∧ w'.cell? ⟨b, off + m * 11 + 10, none⟩ = some (.int .i64 q.u)))
     (first | exact keepAsc Hr.out Hq.out g1 z1 (bl_drew (Below.refl _ _)) | exact keepAsc Hr.out Hq.out g1 z1 (bl_trans (bl_drew (Below.refl _ _)) hx) | exact keepAsc Hr.out Hq.out g1 z1 (bl_trans (bl_trans (bl_drew (Below.refl _ _)) hx) hy))
     (first | (go_at_call 46; refine (name_any q _).mono ?_; rintro e w' ⟨rfl, hx⟩) | (go_at_call 46; refine (name_any r _).mono ?_; rintro e w'' ⟨rfl, hy⟩))
    have y1 := bl_trans (bl_trans (bl_drew (Below.refl _ wr)) hx) hy
    have Hb1 : Hid _ := bl_trans hB y1
    clear hx hy y1 hB g1
    go_wp2
    go_ret
    exact ⟨⟨false, rfl, ⟨fun h => (by cases h), fun h => by have := h m q r (by omega) Hq.out Hr.out; rw [hasc] at this; cases this⟩⟩, Hb1.out⟩
   ·
    go_wp2_with fail
    go_region_held3 (fun w' => Below wr.heap.size wr w' ∧ (w'.cell? ⟨b, off + (m + 1) * 11, none⟩ = some (.string r.c) ∧ w'.cell? ⟨b, off + (m + 1) * 11 + 1, none⟩ = some (.int .i64 r.v) ∧ w'.cell? ⟨b, off + (m + 1) * 11 + 2, none⟩ = some (.string r.h) ∧ w'.cell? ⟨b, off + (m + 1) * 11 + 3, none⟩ = some (.int .i64 r.p) ∧ w'.cell? ⟨b, off + (m + 1) * 11 + 4, none⟩ = some (.int .i64 r.s) ∧ w'.cell? ⟨b, off + (m + 1) * 11 + 5, none⟩ = some (.int .i64 r.d) ∧ w'.cell? ⟨b, off + (m + 1) * 11 + 6, none⟩ = some (.int .i64 r.g) ∧ w'.cell? ⟨b, off + (m + 1) * 11 + 7, none⟩ = some (.int .i64 r.a) ∧ w'.cell? ⟨b, off + (m + 1) * 11 + 8, none⟩ = some (.int .i64 r.b) ∧ w'.cell? ⟨b, off + (m + 1) * 11 + 9, none⟩ = some (.int .i64 r.i) ∧ w'.cell? ⟨b, off + (m + 1) * 11 + 10, none⟩ = some (.int .i64 r.u)) ∧ (w'.cell? ⟨b, off + m * 11, none⟩ = some (.string q.c) ∧ w'.cell? ⟨b, off + m * 11 + 1, none⟩ = some (.int .i64 q.v) ∧ w'.cell? ⟨b, off + m * 11 + 2, none⟩ = some (.string q.h) ∧ w'.cell? ⟨b, off + m * 11 + 3, none⟩ = some (.int .i64 q.p) ∧ w'.cell? ⟨b, off + m * 11 + 4, none⟩ = some (.int .i64 q.s) ∧ w'.cell? ⟨b, off + m * 11 + 5, none⟩ = some (.int .i64 q.d) ∧ w'.cell? ⟨b, off + m * 11 + 6, none⟩ = some (.int .i64 q.g) ∧ w'.cell? ⟨b, off + m * 11 + 7, none⟩ = some (.int .i64 q.a) ∧ w'.cell? ⟨b, off + m * 11 + 8, none⟩ = some (.int .i64 q.b) ∧ w'.cell? ⟨b, off + m * 11 + 9, none⟩ = some (.int .i64 q.i) ∧ w'.cell? ⟨b, off + m * 11 + 10, none⟩ = some (.int .i64 q.u)))
     (first | exact keepAsc Hr.out Hq.out g1 z1 (bl_drew (Below.refl _ _)) | exact keepAsc Hr.out Hq.out g1 z1 (bl_trans (bl_drew (Below.refl _ _)) hx) | exact keepAsc Hr.out Hq.out g1 z1 (bl_trans (bl_trans (bl_drew (Below.refl _ _)) hx) hy))
     (first | (go_at_call 46; refine (name_any q _).mono ?_; rintro e w' ⟨rfl, hx⟩) | (go_at_call 46; refine (name_any r _).mono ?_; rintro e w'' ⟨rfl, hy⟩))
    have y1 := bl_trans (bl_trans (bl_drew (Below.refl _ wr)) hx) hy
    have Hb1 : Hid _ := bl_trans hB y1
    clear hx hy y1 hB g1
    go_wp2
    exact ⟨⟨m + 1, by omega, by go_num, Ha.out.step Hq.out Hr.out hasc, Hb1.out⟩, by simp [intOf]; omega⟩
  ·
   go_wp2
   go_ret
   exact ⟨⟨true, rfl, ⟨fun _ j q r hj hq hr => Ha.out j q r (by omega) hq hr, fun _ => rfl⟩⟩, hB⟩
theorem implRunOk_q (c h : ByteArray) (v p s d g a b i u clock : Int) (w : World) (hc : c.size ≤ maxLen) (hh : h.size ≤ maxLen) (q : Bool) (hq : runB c h v p s d g a b i u clock = q) :
  Calls Tryz.prog 50 #[.agg #[.string c, .int .i64 v, .string h, .int .i64 p, .int .i64 s, .int .i64 d, .int .i64 g, .int .i64 a, .int .i64 b, .int .i64 i, .int .i64 u], .int .i64 clock] w fun e w' => e = .returned (.bool q) ∧ Below w.heap.size w w' := by
 rw [← hq]; exact implRunOk_any c h v p s d g a b i u clock w hc hh
theorem runOf_b (c h : ByteArray) (v p s d g a b i u : Int) (w : World) :
  Calls Tryz.prog 49 #[.agg #[.string c, .int .i64 v, .string h, .int .i64 p, .int .i64 s, .int .i64 d, .int .i64 g, .int .i64 a, .int .i64 b, .int .i64 i, .int .i64 u]] w fun e w' => e = .returned (.agg #[.string c, .int .i64 v, .string h, .int .i64 p, .int .i64 s, .int .i64 d, .int .i64 g, .int .i64 a, .int .i64 b, .int .i64 i, .int .i64 u]) ∧ Below w.heap.size w w' := by
 refine (runOf_any c h v p s d g a b i u w).mono ?_
 rintro e w' ⟨rfl, rfl⟩
 exact ⟨rfl, by repeat (first | exact Below.refl _ _ | refine bl_alloc ?_ _)⟩
theorem closK {w w' : World} {bk : Nat} {clock : Int} {r : RunD} (hc : w.cell? ⟨bk, 0, none⟩ = some (.int .i64 clock)) (lk : bk < w.heap.size) (hb : Below (w.alloc (.cells #[.string r.c, .int .i64 r.v, .string r.h, .int .i64 r.p, .int .i64 r.s, .int .i64 r.d, .int .i64 r.g, .int .i64 r.a, .int .i64 r.b, .int .i64 r.i, .int .i64 r.u] 73)).heap.size (w.alloc (.cells #[.string r.c, .int .i64 r.v, .string r.h, .int .i64 r.p, .int .i64 r.s, .int .i64 r.d, .int .i64 r.g, .int .i64 r.a, .int .i64 r.b, .int .i64 r.i, .int .i64 r.u] 73)) w') :
  Below (w.alloc (.cells #[.string r.c, .int .i64 r.v, .string r.h, .int .i64 r.p, .int .i64 r.s, .int .i64 r.d, .int .i64 r.g, .int .i64 r.a, .int .i64 r.b, .int .i64 r.i, .int .i64 r.u] 73)).heap.size (w.alloc (.cells #[.string r.c, .int .i64 r.v, .string r.h, .int .i64 r.p, .int .i64 r.s, .int .i64 r.d, .int .i64 r.g, .int .i64 r.a, .int .i64 r.b, .int .i64 r.i, .int .i64 r.u] 73)) w' ∧ (w'.cell? ⟨w.heap.size, 0, none⟩ = some (.string r.c) ∧ w'.cell? ⟨w.heap.size, 1, none⟩ = some (.int .i64 r.v) ∧ w'.cell? ⟨w.heap.size, 2, none⟩ = some (.string r.h) ∧ w'.cell? ⟨w.heap.size, 3, none⟩ = some (.int .i64 r.p) ∧ w'.cell? ⟨w.heap.size, 4, none⟩ = some (.int .i64 r.s) ∧ w'.cell? ⟨w.heap.size, 5, none⟩ = some (.int .i64 r.d) ∧ w'.cell? ⟨w.heap.size, 6, none⟩ = some (.int .i64 r.g) ∧ w'.cell? ⟨w.heap.size, 7, none⟩ = some (.int .i64 r.a) ∧ w'.cell? ⟨w.heap.size, 8, none⟩ = some (.int .i64 r.b) ∧ w'.cell? ⟨w.heap.size, 9, none⟩ = some (.int .i64 r.i) ∧ w'.cell? ⟨w.heap.size, 10, none⟩ = some (.int .i64 r.u)) ∧ w'.cell? ⟨bk, 0, none⟩ = some (.int .i64 clock) := by
 have hk := box_keep hb
 refine ⟨hb, ⟨by rw [hk 0]; simp [go_sem], by rw [hk 1]; simp [go_sem], by rw [hk 2]; simp [go_sem], by rw [hk 3]; simp [go_sem], by rw [hk 4]; simp [go_sem], by rw [hk 5]; simp [go_sem], by rw [hk 6]; simp [go_sem], by rw [hk 7]; simp [go_sem], by rw [hk 8]; simp [go_sem], by rw [hk 9]; simp [go_sem], by rw [hk 10]; simp [go_sem]⟩, ?_⟩
 rw [hb.cell (p := ⟨bk, 0, none⟩) (by simp; omega), World.cell?_alloc_past _ _ _ lk]; exact hc
set_option maxRecDepth 4000 in
set_option maxHeartbeats 1000000 in
theorem closOk (r : RunD) (clock : Int) (bk : Nat) (w : World) (hc : w.cell? ⟨bk, 0, none⟩ = some (.int .i64 clock)) (lk : bk < w.heap.size) (hf : r.fits) :
  Calls Tryz.prog 48 #[.agg #[.string r.c, .int .i64 r.v, .string r.h, .int .i64 r.p, .int .i64 r.s, .int .i64 r.d, .int .i64 r.g, .int .i64 r.a, .int .i64 r.b, .int .i64 r.i, .int .i64 r.u], .pointer (some ⟨bk, 0, none⟩)] w fun e w' => e = .returned (.bool (r.ok clock)) ∧ Below w.heap.size w w' := by
 obtain ⟨q, hq⟩ : ∃ q, r.ok clock = q := ⟨_, rfl⟩
 rw [hq]
 have Hq : Hid (runB r.c r.h r.v r.p r.s r.d r.g r.a r.b r.i r.u clock = q) := hq
 have Hc : Hid _ := hc
 clear hq hc
 go_enter Tryz.func48, Tryz.ntmps48
 go_wp2_with fail
 go_region_held3 (fun w' => Below (w.alloc (.cells #[.string r.c, .int .i64 r.v, .string r.h, .int .i64 r.p, .int .i64 r.s, .int .i64 r.d, .int .i64 r.g, .int .i64 r.a, .int .i64 r.b, .int .i64 r.i, .int .i64 r.u] 73)).heap.size (w.alloc (.cells #[.string r.c, .int .i64 r.v, .string r.h, .int .i64 r.p, .int .i64 r.s, .int .i64 r.d, .int .i64 r.g, .int .i64 r.a, .int .i64 r.b, .int .i64 r.i, .int .i64 r.u] 73)) w' ∧ (w'.cell? ⟨w.heap.size, 0, none⟩ = some (.string r.c) ∧ w'.cell? ⟨w.heap.size, 1, none⟩ = some (.int .i64 r.v) ∧ w'.cell? ⟨w.heap.size, 2, none⟩ = some (.string r.h) ∧ w'.cell? ⟨w.heap.size, 3, none⟩ = some (.int .i64 r.p) ∧ w'.cell? ⟨w.heap.size, 4, none⟩ = some (.int .i64 r.s) ∧ w'.cell? ⟨w.heap.size, 5, none⟩ = some (.int .i64 r.d) ∧ w'.cell? ⟨w.heap.size, 6, none⟩ = some (.int .i64 r.g) ∧ w'.cell? ⟨w.heap.size, 7, none⟩ = some (.int .i64 r.a) ∧ w'.cell? ⟨w.heap.size, 8, none⟩ = some (.int .i64 r.b) ∧ w'.cell? ⟨w.heap.size, 9, none⟩ = some (.int .i64 r.i) ∧ w'.cell? ⟨w.heap.size, 10, none⟩ = some (.int .i64 r.u)) ∧ w'.cell? ⟨bk, 0, none⟩ = some (.int .i64 clock))
  (first | exact closK Hc.out lk (bl_drew (Below.refl _ _)) | exact closK Hc.out lk (bl_trans (bl_drew (Below.refl _ _)) hx) | exact closK Hc.out lk (bl_trans (bl_trans (bl_drew (Below.refl _ _)) hx) hy))
  (first | (go_at_call 49; refine (runOf_b r.c r.h r.v r.p r.s r.d r.g r.a r.b r.i r.u _).mono ?_; rintro e w' ⟨rfl, hx⟩) | (go_at_call 50; refine (implRunOk_q r.c r.h r.v r.p r.s r.d r.g r.a r.b r.i r.u clock _ hf.1 hf.2.1 q Hq.out).mono ?_; rintro e w'' ⟨rfl, hy⟩))
 have y1 := bl_trans (bl_trans (bl_drew (Below.refl _ (w.alloc (.cells #[.string r.c, .int .i64 r.v, .string r.h, .int .i64 r.p, .int .i64 r.s, .int .i64 r.d, .int .i64 r.g, .int .i64 r.a, .int .i64 r.b, .int .i64 r.i, .int .i64 r.u] 73)))) hx) hy
 have Hb1 : Hid _ := bl_trans (bl_alloc (Below.refl _ w) _) y1
 clear hx hy y1
 go_wp2
 go_ret
 exact ⟨rfl, Hb1.out⟩
theorem allOk_iff (clock : Int) (rs : List RunD) : AllOk clock rs rs.length ↔ (AscN rs rs.length ∧ ∀ r ∈ rs, r.ok clock = true) := by
 constructor
 ·
  intro h
  refine ⟨fun j q r hj hq hr => ?_, fun r hr => ?_⟩
  ·
   have := h (j + 1) r hj hr
   simp only [stepOk, hq, Bool.and_eq_true] at this
   exact this.2
  ·
   obtain ⟨j, hj⟩ := List.getElem?_of_mem hr
   have := h j r (List.getElem?_eq_some_iff.1 hj).1 hj
   simp only [stepOk, Bool.and_eq_true] at this
   exact this.1
 ·
  rintro ⟨h1, h2⟩ j r hj hr
  simp only [stepOk, Bool.and_eq_true]
  refine ⟨h2 r (List.mem_of_getElem? hr), ?_⟩
  cases j with
  | zero => rfl
  | succ i =>
   obtain ⟨q, hq⟩ : ∃ q, rs[i]? = some q := ⟨rs[i], List.getElem?_eq_getElem (by omega)⟩
   simp only [hq]
   exact h1 i q r hj hq hr
def SaysR (q : Bool) (clock : Int) (rs : List RunD) : Prop := q = true ↔ rs.length ≤ 20 ∧ (AscN rs rs.length ∧ ∀ r ∈ rs, r.ok clock = true)
set_option maxRecDepth 4000 in
set_option maxHeartbeats 1000000 in
theorem implRunsOk_s (b off cap : Nat) (rs : List RunD) (clock : Int) (w : World) (hR : RowsAt w b off rs) (l1 : b < w.heap.size) (hfit : ∀ r ∈ rs, r.fits) (hl : rs.length ≤ 1048576) :
  Calls Tryz.prog 15 #[.slice (some ⟨b, off, none⟩) rs.length cap, .int .i64 clock] w fun e w' => (∃ q : Bool, e = .returned (.bool q) ∧ SaysR q clock rs) ∧ Below w.heap.size w w' := by
 by_cases h20 : rs.length ≤ 20
 ·
  have hi20 : (rs.length : Int) ≤ 20 := by omega
  go_enter Tryz.func15, Tryz.ntmps15
  go_wp2_with fail
  have hb0 : Below w.heap.size w (w.alloc (.cells #[.int .i64 clock] 3)) := bl_alloc (Below.refl _ _) _
  refine (ascends b off cap rs _ (hR.keep l1 hb0) (by simp; omega) hl).mono ?_
  rintro e w1 ⟨⟨q1, rfl, h1⟩, b1⟩
  have B1 := bl_trans hb0 b1
  have H0 : Hid _ := h1
  clear h1
  cases q1
  ·
   clear hb0 b1
   go_wp2
   go_ret
   exact ⟨⟨false, rfl, ⟨fun h => (by cases h), fun h => by have := H0.out.2 h.2.1; cases this⟩⟩, B1⟩
  ·
   have H1 : Hid _ := H0.out.1 rfl
   have hck : w1.cell? ⟨w.heap.size, 0, none⟩ = some (.int .i64 clock) := by rw [box_keep b1 0]; simp [go_sem]
   have lck : w.heap.size < w1.heap.size := boxlt b1
   have Hck : Hid _ := hck
   clear hck hb0 b1
   go_wp2_with fail
   refine (allOk w.heap.size (fun r => r.ok clock) b off cap rs w1 (hR.keep l1 B1) (Nat.lt_of_lt_of_le l1 B1.size) hl (fun r hr x hx => closOk r clock w.heap.size x ((hx.cell (p := ⟨w.heap.size, 0, none⟩) lck).trans Hck.out) (Nat.lt_of_lt_of_le lck hx.size) (hfit r hr))).mono ?_
   rintro e w2 ⟨⟨q2, rfl, h2⟩, b2⟩
   have B2 := bl_trans B1 b2
   clear b2
   go_wp2
   go_ret
   exact ⟨⟨q2, rfl, ⟨fun h => ⟨h20, H1.out, h2.1 h⟩, fun h => h2.2 h.2.2⟩⟩, B2⟩
 ·
  have hi20 : (20 : Int) < (rs.length : Int) := by omega
  have H20 : Hid _ := h20
  clear h20
  go_enter Tryz.func15, Tryz.ntmps15
  go_wp2
  go_ret
  exact ⟨Or.inl ⟨rfl, ⟨fun h => (by cases h), fun h => absurd h.1 H20.out⟩⟩, bl_alloc (Below.refl _ _) _⟩
theorem implRunsOk (b off cap : Nat) (rs : List RunD) (clock : Int) (w : World) (hR : RowsAt w b off rs) (l1 : b < w.heap.size) (hfit : ∀ r ∈ rs, r.fits) (hl : rs.length ≤ 1048576) :
  Calls Tryz.prog 15 #[.slice (some ⟨b, off, none⟩) rs.length cap, .int .i64 clock] w fun e w' => (∃ q : Bool, e = .returned (.bool q) ∧ (q = true ↔ rs.length ≤ 20 ∧ AllOk clock rs rs.length)) ∧ Below w.heap.size w w' := by
 refine (implRunsOk_s b off cap rs clock w hR l1 hfit hl).mono ?_
 rintro e w' ⟨⟨q, rfl, h⟩, hb⟩
 exact ⟨⟨q, rfl, by rw [allOk_iff]; exact h⟩, hb⟩
end Go.Proofs.YtgakmkhbnjofhaaGreatDoor
