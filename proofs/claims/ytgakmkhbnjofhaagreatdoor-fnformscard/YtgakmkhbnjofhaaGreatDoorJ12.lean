import Derived.Test.YtgakmkhbnjofhaaGreatDoorJ05
import Derived.Test.YtgakmkhbnjofhaaGreatDoorJ11
namespace Go.Proofs.YtgakmkhbnjofhaaGreatDoor
open Go.RowKit
set_option linter.unusedVariables false
def decT (n : Int) : ByteArray := ⟨(Lib.itoa n).toArray⟩
theorem decT_one {n : Nat} (h : n < 10) : decT n = ⟨#[UInt8.ofNat (48 + n)]⟩ := by
 have h0 : ¬ ((n : Int) < 0) := by omega
 unfold decT Lib.itoa
 rw [if_neg h0, Int.toNat_natCast, Lib.decDigits_one h]
theorem decT_more {n : Nat} (h : ¬ n < 10) : decT n = decT (n / 10 : Nat) ++ ⟨#[UInt8.ofNat (48 + n % 10)]⟩ := by
 have h0 : ¬ ((n : Int) < 0) := by omega
 have h1 : ¬ (((n / 10 : Nat) : Int) < 0) := by omega
 unfold decT Lib.itoa
 rw [if_neg h0, if_neg h1, Int.toNat_natCast, Int.toNat_natCast, Lib.decDigits, dif_neg h]
 apply ByteArray.ext
 simp
theorem decT_size (n : Nat) : (decT n).size ≤ n + 1 := by
 induction n using Nat.strongRecOn with
 | ind n ih =>
  by_cases h : n < 10
  ·
   rw [decT_one h]; show 1 ≤ n + 1; omega
  ·
   rw [decT_more h, ByteArray.size_append]
   have := ih (n / 10) (by omega)
   have h2 : (⟨#[UInt8.ofNat (48 + n % 10)]⟩ : ByteArray).size = 1 := rfl
   omega
theorem decT_div (n : Nat) (hn : n < 1000000000) : ¬ (9223372036854775807 < (decT ((n : Int) / 10)).size + 1) := by
 have h1 := decT_size (n / 10)
 have e : ((n / 10 : Nat) : Int) = (n : Int) / 10 := by omega
 rw [e] at h1
 omega
theorem eqi {a b : Int} (h : a = b) : Value.int .i64 a = Value.int .i64 b := by rw [h]
theorem equ {a b : Int} (h : a = b) (h1 : 0 ≤ b ∧ b < 256) : Value.int .u8 (IntKind.u8.wrap a) = Value.int .u8 b := by
 subst h
 have h2 : IntKind.u8.wrap a = a := by simp [IntKind.wrap, IntKind.signed, IntKind.bits]; omega
 rw [h2]
def Byte1 (b : Int) (w : World) (v : Value) : Prop := ∃ g, v = .slice (some ⟨g, 0, none⟩) 1 1 ∧ g < w.heap.size ∧ w.cell? ⟨g, 0, none⟩ = some (.int .u8 b)
theorem Byte1.keep {b : Int} {w w' : World} {v : Value} (h : Byte1 b w v) (hb : Below w.heap.size w w') : Byte1 b w' v := by
 obtain ⟨g, h1, h2, h3⟩ := h
 exact ⟨g, h1, Nat.lt_of_lt_of_le h2 hb.size, (hb.cell (p := ⟨g, 0, none⟩) h2).trans h3⟩
theorem conv_byte_at (g : Nat) (n : Int) (w : World) (h : w.cell? ⟨g, 0, none⟩ = some (.int .u8 n)) : Sem.run Tryz.prog (convert 22 9 (.slice (some ⟨g, 0, none⟩) 1 1)) w = .ok (.string ⟨#[UInt8.ofNat n.toNat]⟩) w := by
 rw [run_convert_bytes_string _ _ _ 5 _ _ _ Tryz.underlying22 Tryz.underlying5 Tryz.underlying9]
 rw [run_bytesToString _ _ _ _ [n] (by simp [loadCells, go_sem, h])]
 rfl
def slDec : Nat → Nat
 | 0 => 10
 | 1 => 11
 | 2 => 12
 | 3 => 13
 | 4 => 14
 | 5 => 15
 | 6 => 16
 | 7 => 17
 | 8 => 18
 | 9 => 19
 | 10 => 2
 | _ => 0
theorem slDec_inj {i : Nat} (hi : i < 11) : ∀ j, j < 11 → slDec j = slDec i → j = i := by
 have h : ∀ a : _root_.Fin 11, ∀ b : _root_.Fin 11, slDec b.val = slDec a.val → b.val = a.val := by decide
 intro j hj e
 exact h ⟨i, hi⟩ ⟨j, hj⟩ e
theorem slDec_out (k : Nat) (h : (List.range 11).all (fun i => slDec i != k) = true) : ∀ i, i < 11 → slDec i ≠ k := fun i hi e => by
 have h1 := List.all_eq_true.1 h i (List.mem_range.2 hi)
 rw [e] at h1
 simp at h1
def GDec (n : Nat) (w : World) : Nat → Value → Prop
 | 0, v => v = .int .i64 (n : Int)
 | 1, v => v = .int .i64 ((n / 10 : Nat) : Int)
 | 2, v => v = .string (decT ((n / 10 : Nat) : Int))
 | 3, v => v = .int .i64 (n : Int)
 | 4, v => v = .int .i64 ((n % 10 : Nat) : Int)
 | 5, v => v = .int .i64 (48 + ((n % 10 : Nat) : Int))
 | 6, v => v = .int .u8 (48 + ((n % 10 : Nat) : Int))
 | 7, v => Byte1 (48 + ((n % 10 : Nat) : Int)) w v
 | 8, v => v = .string ⟨#[UInt8.ofNat (48 + n % 10)]⟩
 | 9, v => v = .string (decT (n : Int))
 | 10, v => v = .string (decT (n : Int))
 | _, _ => True
theorem GDec.keep {n : Nat} {w w' : World} (hb : Below w.heap.size w w') : ∀ i v, GDec n w i v → GDec n w' i v
 | 0, _, h => h
 | 1, _, h => h
 | 2, _, h => h
 | 3, _, h => h
 | 4, _, h => h
 | 5, _, h => h
 | 6, _, h => h
 | 7, _, h => Byte1.keep h hb
 | 8, _, h => h
 | 9, _, h => h
 | 10, _, h => h
 | _ + 11, _, h => h
set_option maxRecDepth 4000 in
set_option maxHeartbeats 2000000 in
theorem specDec : ∀ (n : Nat) (w : World), n < 1000000000 →
  Calls Tryz.prog 28 #[.int .i64 (n : Int)] w fun e w' => e = .returned (.string (decT n)) ∧ Below w.heap.size w w' := by
 intro n
 induction n using Nat.strongRecOn with
 | ind n ih =>
  intro w hn
  by_cases h : n < 10
  ·
   have hd := decT_one h
   have hb := build_byte
   have hc := conv_byte
   clear ih
   have h1 : (n : Int) < 10 := by omega
   go_enter Tryz.func28, Tryz.ntmps28
   go_wp2
   go_ret
   exact ⟨by rw [hd]; rfl, bl_alloc (Below.refl _ _) _⟩
  ·
   have ih1 := ih (n / 10) (by omega)
   clear ih
   have h1 : ¬ ((n : Int) < 10) := by omega
   go_enter Tryz.func28, Tryz.ntmps28
   go_wp2_with fail
   refine wp_region_any (by kernel_rfl) ?_
   refine reg_invP slDec 11 (GDec n) (fun y => Below w.heap.size w y) (by decide) rfl (bl_drew (Below.refl _ _)) ?doned ?stepd
   case doned =>
    intro a y hI
    have r2 : a.tmps[2]?.getD undef = .string (decT (n : Int)) := ev_tmp (hI.all 10 (by omega))
    have df := hI.df
    go_wp2
    exact bodyPost_ret (v := .string (decT (n : Int))) (by simp [results, Tryz.results28, go_sem, r2]) df ⟨rfl, hI.d⟩
   case stepd =>
    intro listed x y i hI hi hlt
    obtain rfl | rfl | rfl | rfl | rfl | rfl | rfl | rfl | rfl | rfl | rfl : i = 0 ∨ i = 1 ∨ i = 2 ∨ i = 3 ∨ i = 4 ∨ i = 5 ∨ i = 6 ∨ i = 7 ∨ i = 8 ∨ i = 9 ∨ i = 10 := by omega
    ·
     clear hi
     refine wpOp_plain rfl rfl (wp_cover fun K hK => ?_)
     have i0 : x.tmps[0]?.getD undef = _ := ev_tmp (hI.out 0 (slDec_out 0 (by decide)))
     have HJ := hidP hI
     clear hI
     go_simp
     exact HJ.out.sm hK (by omega) (lb rfl) (slDec_inj (by omega)) rfl
    ·
     have gd0 := hI.good 0 (by omega) (waits_of hi (j := 0) (by rfl))
     clear hi
     refine wpOp_plain rfl rfl (wp_cover fun K hK => ?_)
     have ed0 : x.tmps[10]?.getD undef = _ := ev_tmp gd0
     have HJ := hidP hI
     clear hI gd0
     go_simp
     exact hK.out _ _ (HJ.out.put (by omega) (lb rfl) (slDec_inj (by omega)) (eqi (by rw [IntKind.wrap_i64]; omega)) (fun j u _ h => h) HJ.out.d)
    ·
     have gd1 := hI.good 1 (by omega) (waits_of hi (j := 1) (by rfl))
     clear hi
     refine wpOp_plain rfl rfl (wp_cover fun K hK => ?_)
     have ed1 : x.tmps[11]?.getD undef = _ := ev_tmp gd1
     have HJ := hidP hI
     clear hI gd1
     go_simp
     refine (ih1 _ (by omega)).mono ?_
     rintro e y' ⟨rfl, hb⟩
     exact hK.out _ _ (HJ.out.put (by omega) (lb rfl) (slDec_inj (by omega)) (rfl) (fun j u _ h => GDec.keep hb j u h) (bl_trans HJ.out.d hb))
    ·
     clear hi
     refine wpOp_plain rfl rfl (wp_cover fun K hK => ?_)
     have i0 : x.tmps[0]?.getD undef = _ := ev_tmp (hI.out 0 (slDec_out 0 (by decide)))
     have HJ := hidP hI
     clear hI
     go_simp
     exact HJ.out.sm hK (by omega) (lb rfl) (slDec_inj (by omega)) rfl
    ·
     have gd3 := hI.good 3 (by omega) (waits_of hi (j := 3) (by rfl))
     clear hi
     refine wpOp_plain rfl rfl (wp_cover fun K hK => ?_)
     have ed3 : x.tmps[13]?.getD undef = _ := ev_tmp gd3
     have HJ := hidP hI
     clear hI gd3
     go_simp
     exact hK.out _ _ (HJ.out.put (by omega) (lb rfl) (slDec_inj (by omega)) (eqi (by rw [Int.tmod_eq_emod_of_nonneg (by omega)]; omega)) (fun j u _ h => h) HJ.out.d)
    ·
     have gd4 := hI.good 4 (by omega) (waits_of hi (j := 4) (by rfl))
     clear hi
     refine wpOp_plain rfl rfl (wp_cover fun K hK => ?_)
     have ed4 : x.tmps[14]?.getD undef = _ := ev_tmp gd4
     have HJ := hidP hI
     clear hI gd4
     go_simp
     exact hK.out _ _ (HJ.out.put (by omega) (lb rfl) (slDec_inj (by omega)) (eqi (by rw [IntKind.wrap_i64]; omega)) (fun j u _ h => h) HJ.out.d)
    ·
     have gd5 := hI.good 5 (by omega) (waits_of hi (j := 5) (by rfl))
     clear hi
     refine wpOp_plain rfl rfl (wp_cover fun K hK => ?_)
     have ed5 : x.tmps[15]?.getD undef = _ := ev_tmp gd5
     have HJ := hidP hI
     clear hI gd5
     go_simp
     exact hK.out _ _ (HJ.out.put (by omega) (lb rfl) (slDec_inj (by omega)) (equ (by omega) (by omega)) (fun j u _ h => h) HJ.out.d)
    ·
     have gd6 := hI.good 6 (by omega) (waits_of hi (j := 6) (by rfl))
     clear hi
     refine wpOp_plain rfl rfl (wp_cover fun K hK => ?_)
     have ed6 : x.tmps[16]?.getD undef = _ := ev_tmp gd6
     have hbb := build_byte
     have HJ := hidP hI
     clear hI gd6
     go_simp
     have hb : Below y.heap.size y (y.alloc (.cells #[.int .u8 (48 + ((n % 10 : Nat) : Int))] 5)) := bl_alloc (Below.refl _ _) _
     exact hK.out _ _ (HJ.out.put (by omega) (lb rfl) (slDec_inj (by omega)) (⟨y.heap.size, rfl, by simp, by simp [go_sem]⟩) (fun j u _ h => GDec.keep hb j u h) (bl_trans HJ.out.d hb))
    ·
     have gd7 := hI.good 7 (by omega) (waits_of hi (j := 7) (by rfl))
     clear hi
     refine wpOp_plain rfl rfl (wp_cover fun K hK => ?_)
     obtain ⟨g, g1, g2, g3⟩ := gd7
     have ed7 : x.tmps[17]?.getD undef = _ := ev_tmp g1
     have hc := conv_byte_at g (48 + ((n % 10 : Nat) : Int)) y g3
     clear g1
     have HJ := hidP hI
     clear hI
     go_simp
     exact hK.out _ _ (HJ.out.put (by omega) (lb rfl) (slDec_inj (by omega)) (by rfl) (fun j u _ h => h) HJ.out.d)
    ·
     have gd2 := hI.good 2 (by omega) (waits_of hi (j := 2) (by rfl))
     have gd8 := hI.good 8 (by omega) (waits_of hi (j := 8) (by rfl))
     clear hi
     refine wpOp_plain rfl rfl (wp_cover fun K hK => ?_)
     have ed2 : x.tmps[12]?.getD undef = _ := ev_tmp gd2
     have ed8 : x.tmps[18]?.getD undef = _ := ev_tmp gd8
     have hs9 := decT_div n hn
     have HJ := hidP hI
     clear hI gd2 gd8
     go_simp
     exact hK.out _ _ (HJ.out.put (by omega) (lb rfl) (slDec_inj (by omega)) (by show Value.string _ = Value.string _; rw [decT_more h]; simp) (fun j u _ h => h) HJ.out.d)
    ·
     have gd9 := hI.good 9 (by omega) (waits_of hi (j := 9) (by rfl))
     clear hi
     refine wpOp_plain rfl rfl (wp_cover fun K hK => ?_)
     have ed9 : x.tmps[19]?.getD undef = _ := ev_tmp gd9
     have HJ := hidP hI
     clear hI gd9
     go_simp
     exact HJ.out.sm hK (by omega) (lb rfl) (slDec_inj (by omega)) rfl
end Go.Proofs.YtgakmkhbnjofhaaGreatDoor
