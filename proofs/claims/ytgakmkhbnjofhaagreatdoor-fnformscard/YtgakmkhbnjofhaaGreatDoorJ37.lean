import Derived.Test.YtgakmkhbnjofhaaGreatDoorJ36
import Derived.Test.YtgakmkhbnjofhaaGreatDoorJ35
namespace Go.Proofs.YtgakmkhbnjofhaaGreatDoor
open Go.RowKit
set_option linter.unusedVariables false
set_option maxRecDepth 4000 in
set_option maxHeartbeats 8000000 in
theorem readHead1 {W : World} {b : Nat} {l : List UInt8} {y : World} (h : At W b l 0 y) (hE : Env W) (hl : l.length ≤ 1048576) (hk : idxT (wdI l 0) = 0) :
  Calls Tryz.prog 56 #[.iface 97 (.pointer (some ⟨b, 0, none⟩))] y fun e y' => e = .returned (.agg #[.int .i64 1, .string (wdI l 1), .int .i64 (numI (wdI l 2)), .slice none 0 0, .string ⟨#[]⟩, .string ⟨#[]⟩, .int .i64 0]) ∧ Ex b y y' := by
 obtain ⟨x0, g0⟩ : ∃ x, wdI l 0 = x := ⟨_, rfl⟩
 rw [g0] at hk
 have G0 : Hid (wdI l 0 = x0) := g0
 have HK : Hid (idxT x0 = 0) := hk
 obtain ⟨z0, e0⟩ : ∃ z, wdI l 1 = z := ⟨_, rfl⟩
 obtain ⟨z1, e1⟩ : ∃ z, numI (wdI l 2) = z := ⟨_, rfl⟩
 have HV : Hid ((.agg #[.int .i64 0, .string (wdI l 1), .int .i64 (numI (wdI l 2)), .slice none 0 0, .string ⟨#[]⟩, .string ⟨#[]⟩, .int .i64 0] : Value) = .agg #[.int .i64 0, .string z0, .int .i64 z1, .slice none 0 0, .string ⟨#[]⟩, .string ⟨#[]⟩, .int .i64 0]) := by show _ = _; rw [e0, e1]
 have HV2 : Hid ((.agg #[.int .i64 1, .string (wdI l 1), .int .i64 (numI (wdI l 2)), .slice none 0 0, .string ⟨#[]⟩, .string ⟨#[]⟩, .int .i64 0] : Value) = .agg #[.int .i64 1, .string z0, .int .i64 z1, .slice none 0 0, .string ⟨#[]⟩, .string ⟨#[]⟩, .int .i64 0]) := by show _ = _; rw [e0, e1]
 clear e0 e1
 obtain ⟨y0, hy0⟩ : ∃ y0, y0 = y.alloc (.cells #[.int .i64 0, .string ⟨#[]⟩, .int .i64 0, .slice none 0 0, .string ⟨#[]⟩, .string ⟨#[]⟩, .int .i64 0] 25) := ⟨_, rfl⟩
 have HY0 : Hid (y0 = y.alloc (.cells #[.int .i64 0, .string ⟨#[]⟩, .int .i64 0, .slice none 0 0, .string ⟨#[]⟩, .string ⟨#[]⟩, .int .i64 0] 25)) := hy0
 have H0 : Hid (At W b l 0 y0) := by rw [hy0]; exact h.keep (bl_alloc (Below.refl _ _) _)
 have HE : Hid (Env W) := hE
 have HLn : Hid (l.length ≤ 1048576) := hl
 have HZ : Hid (b < y.heap.size) := h.s.z
 have hm := meth_spaced
 clear h hE hl hy0 hk g0
 go_enter Tryz.func56, Tryz.ntmps56
 go_wp2_with fail
 rw [← HY0.out]
 refine (nextAtE (n := 0) x0 G0.out H0.out HE.out).mono ?_
 rintro e y1 ⟨rfl, h1, h2⟩
 obtain ⟨y2, hy2⟩ : ∃ y2, y2 = y1.alloc (.cells #[.string x0] 9) := ⟨_, rfl⟩
 have HY2 : Hid (y2 = y1.alloc (.cells #[.string x0] 9)) := hy2
 have C2 : Hid (y2.cell? ⟨y1.heap.size, 0, none⟩ = some (.string x0)) := by rw [hy2]; show _ = _; rw [World.cell?_alloc_new]; rfl
 have L2 : Hid (y1.heap.size < y2.heap.size) := by rw [hy2]; show _ < _; simp
 have B2 : Hid (Below y1.heap.size y1 y2) := by rw [hy2]; exact bl_alloc (Below.refl _ _) _
 have H2 : Hid (At W b l 1 y2) := h1.keep B2.out
 have X2 : Hid (Ex b y0 y2) := h2.trans (Ex.of_below B2.out)
 clear h1 h2 hy2
 go_wp2_with fail
 rw [← HY2.out]
 refine (findW1 x0 HK.out y1.heap.size y2 C2.out L2.out).mono ?_
 rintro e y3 ⟨rfl, b3⟩
 obtain ⟨y4, hy4⟩ : ∃ y4, y4 = y3.alloc (.cells #[.int .i64 1, .string ⟨#[116, 111, 108, 100]⟩, .func (.func 73) #[] #[], .func (.func 74) #[] #[], .func (.func 75) #[] #[]] 51) := ⟨_, rfl⟩
 have HY4 : Hid (y4 = y3.alloc (.cells #[.int .i64 1, .string ⟨#[116, 111, 108, 100]⟩, .func (.func 73) #[] #[], .func (.func 74) #[] #[], .func (.func 75) #[] #[]] 51)) := hy4
 have B4 : Hid (Below y2.heap.size y2 y4) := by rw [hy4]; exact bl_alloc b3 _
 have H4 : Hid (At W b l 1 y4) := H2.out.keep B4.out
 have X4 : Hid (Ex b y0 y4) := X2.out.trans (Ex.of_below B4.out)
 have Z4 : Hid (b < y3.heap.size) := Nat.lt_of_lt_of_le H2.out.s.z b3.size
 have Z5 : Hid (y0.heap.size ≤ y3.heap.size) := Nat.le_trans X2.out.size b3.size
 clear hy4 b3
 go_wp2_with fail
 rw [← HY4.out]
 refine (readSeen_at H4.out HE.out HLn.out).mono ?_
 rw [HV.out]
 rintro e y5 ⟨rfl, x5⟩
 have k40 : y5.cell? ⟨y3.heap.size, 0, none⟩ = some (.int .i64 1) := by
  have z := Z4.out
  rw [x5.cell (p := ⟨y3.heap.size, 0, none⟩) (by rw [HY4.out]; simp) (by show y3.heap.size ≠ b; omega), HY4.out, World.cell?_alloc_new]
  rfl
 have z45 : y3.heap.size < y5.heap.size := Nat.lt_of_lt_of_le (by rw [HY4.out]; simp) x5.size
 have k41 : (y5.alloc (.cells #[.int .i64 0, .string z0, .int .i64 z1, .slice none 0 0, .string ⟨#[]⟩, .string ⟨#[]⟩, .int .i64 0] 25)).cell? ⟨y3.heap.size, 0, none⟩ = some (.int .i64 1) := by
  rw [(bl_alloc (Below.refl y5.heap.size y5) _).cell (p := ⟨y3.heap.size, 0, none⟩) z45]; exact k40
 clear k40
 have XA : Hid (Ex b y0 (y5.alloc (.cells #[.int .i64 1, .string z0, .int .i64 z1, .slice none 0 0, .string ⟨#[]⟩, .string ⟨#[]⟩, .int .i64 0] 25))) := (X4.out.trans x5).allocR _
 obtain ⟨Q1, Q2, Q3, Q4⟩ := box_ex (cs := #[.int .i64 1, .string z0, .int .i64 z1, .slice none 0 0, .string ⟨#[]⟩, .string ⟨#[]⟩, .int .i64 0]) HZ.out (HY0.out ▸ XA.out)
 clear x5
 go_wp2_with (refine wpList_store_row (by rfl) 25 _ _ (by rfl) y.heap.size #[.int .i64 1, .string z0, .int .i64 z1, .slice none 0 0, .string ⟨#[]⟩, .string ⟨#[]⟩, .int .i64 0] (by rfl) (by rfl) 25 #[.int .i64 0, .string ⟨#[]⟩, .int .i64 0, .slice none 0 0, .string ⟨#[]⟩, .string ⟨#[]⟩, .int .i64 0] Q1.out (by kernel_rfl) rfl (by simp [Value.oneCell']) ?_)
 have s0 := Q3.out 0; have s1 := Q3.out 1; have s2 := Q3.out 2; have s3 := Q3.out 3; have s4 := Q3.out 4; have s5 := Q3.out 5; have s6 := Q3.out 6
 exact bodyPost_ret (v := .agg #[.int .i64 1, .string z0, .int .i64 z1, .slice none 0 0, .string ⟨#[]⟩, .string ⟨#[]⟩, .int .i64 0]) (by simp [results, Tryz.results56, go_sem, s0, s1, s2, s3, s4, s5, s6]) rfl ⟨by rw [HV2.out], Q2.out⟩
set_option maxRecDepth 4000 in
set_option maxHeartbeats 8000000 in
theorem readHead2 {W : World} {b : Nat} {l : List UInt8} {y : World} (h : At W b l 0 y) (hE : Env W) (hl : l.length ≤ 1048576) (hk : idxT (wdI l 0) = 1) :
  Calls Tryz.prog 56 #[.iface 97 (.pointer (some ⟨b, 0, none⟩))] y fun e y' => e = .returned (.agg #[.int .i64 2, .string (wdI l 1), .int .i64 0, .slice none 0 0, .string (wdI l 2), .string (wdI l 3), .int .i64 (numI (wdI l 4))]) ∧ Ex b y y' := by
 obtain ⟨x0, g0⟩ : ∃ x, wdI l 0 = x := ⟨_, rfl⟩
 rw [g0] at hk
 have G0 : Hid (wdI l 0 = x0) := g0
 have HK : Hid (idxT x0 = 1) := hk
 obtain ⟨z0, e0⟩ : ∃ z, wdI l 1 = z := ⟨_, rfl⟩
 obtain ⟨z1, e1⟩ : ∃ z, wdI l 2 = z := ⟨_, rfl⟩
 obtain ⟨z2, e2⟩ : ∃ z, wdI l 3 = z := ⟨_, rfl⟩
 obtain ⟨z3, e3⟩ : ∃ z, numI (wdI l 4) = z := ⟨_, rfl⟩
 have HV : Hid ((.agg #[.int .i64 0, .string (wdI l 1), .int .i64 0, .slice none 0 0, .string (wdI l 2), .string (wdI l 3), .int .i64 (numI (wdI l 4))] : Value) = .agg #[.int .i64 0, .string z0, .int .i64 0, .slice none 0 0, .string z1, .string z2, .int .i64 z3]) := by show _ = _; rw [e0, e1, e2, e3]
 have HV2 : Hid ((.agg #[.int .i64 2, .string (wdI l 1), .int .i64 0, .slice none 0 0, .string (wdI l 2), .string (wdI l 3), .int .i64 (numI (wdI l 4))] : Value) = .agg #[.int .i64 2, .string z0, .int .i64 0, .slice none 0 0, .string z1, .string z2, .int .i64 z3]) := by show _ = _; rw [e0, e1, e2, e3]
 clear e0 e1 e2 e3
 obtain ⟨y0, hy0⟩ : ∃ y0, y0 = y.alloc (.cells #[.int .i64 0, .string ⟨#[]⟩, .int .i64 0, .slice none 0 0, .string ⟨#[]⟩, .string ⟨#[]⟩, .int .i64 0] 25) := ⟨_, rfl⟩
 have HY0 : Hid (y0 = y.alloc (.cells #[.int .i64 0, .string ⟨#[]⟩, .int .i64 0, .slice none 0 0, .string ⟨#[]⟩, .string ⟨#[]⟩, .int .i64 0] 25)) := hy0
 have H0 : Hid (At W b l 0 y0) := by rw [hy0]; exact h.keep (bl_alloc (Below.refl _ _) _)
 have HE : Hid (Env W) := hE
 have HLn : Hid (l.length ≤ 1048576) := hl
 have HZ : Hid (b < y.heap.size) := h.s.z
 have hm := meth_spaced
 clear h hE hl hy0 hk g0
 go_enter Tryz.func56, Tryz.ntmps56
 go_wp2_with fail
 rw [← HY0.out]
 refine (nextAtE (n := 0) x0 G0.out H0.out HE.out).mono ?_
 rintro e y1 ⟨rfl, h1, h2⟩
 obtain ⟨y2, hy2⟩ : ∃ y2, y2 = y1.alloc (.cells #[.string x0] 9) := ⟨_, rfl⟩
 have HY2 : Hid (y2 = y1.alloc (.cells #[.string x0] 9)) := hy2
 have C2 : Hid (y2.cell? ⟨y1.heap.size, 0, none⟩ = some (.string x0)) := by rw [hy2]; show _ = _; rw [World.cell?_alloc_new]; rfl
 have L2 : Hid (y1.heap.size < y2.heap.size) := by rw [hy2]; show _ < _; simp
 have B2 : Hid (Below y1.heap.size y1 y2) := by rw [hy2]; exact bl_alloc (Below.refl _ _) _
 have H2 : Hid (At W b l 1 y2) := h1.keep B2.out
 have X2 : Hid (Ex b y0 y2) := h2.trans (Ex.of_below B2.out)
 clear h1 h2 hy2
 go_wp2_with fail
 rw [← HY2.out]
 refine (findW2 x0 HK.out y1.heap.size y2 C2.out L2.out).mono ?_
 rintro e y3 ⟨rfl, b3⟩
 obtain ⟨y4, hy4⟩ : ∃ y4, y4 = y3.alloc (.cells #[.int .i64 2, .string ⟨#[97, 115, 107, 101, 100]⟩, .func (.func 76) #[] #[], .func (.func 77) #[] #[], .func (.func 78) #[] #[]] 51) := ⟨_, rfl⟩
 have HY4 : Hid (y4 = y3.alloc (.cells #[.int .i64 2, .string ⟨#[97, 115, 107, 101, 100]⟩, .func (.func 76) #[] #[], .func (.func 77) #[] #[], .func (.func 78) #[] #[]] 51)) := hy4
 have B4 : Hid (Below y2.heap.size y2 y4) := by rw [hy4]; exact bl_alloc b3 _
 have H4 : Hid (At W b l 1 y4) := H2.out.keep B4.out
 have X4 : Hid (Ex b y0 y4) := X2.out.trans (Ex.of_below B4.out)
 have Z4 : Hid (b < y3.heap.size) := Nat.lt_of_lt_of_le H2.out.s.z b3.size
 have Z5 : Hid (y0.heap.size ≤ y3.heap.size) := Nat.le_trans X2.out.size b3.size
 clear hy4 b3
 go_wp2_with fail
 rw [← HY4.out]
 refine (readHold_at H4.out HE.out HLn.out).mono ?_
 rw [HV.out]
 rintro e y5 ⟨rfl, x5⟩
 have k40 : y5.cell? ⟨y3.heap.size, 0, none⟩ = some (.int .i64 2) := by
  have z := Z4.out
  rw [x5.cell (p := ⟨y3.heap.size, 0, none⟩) (by rw [HY4.out]; simp) (by show y3.heap.size ≠ b; omega), HY4.out, World.cell?_alloc_new]
  rfl
 have z45 : y3.heap.size < y5.heap.size := Nat.lt_of_lt_of_le (by rw [HY4.out]; simp) x5.size
 have k41 : (y5.alloc (.cells #[.int .i64 0, .string z0, .int .i64 0, .slice none 0 0, .string z1, .string z2, .int .i64 z3] 25)).cell? ⟨y3.heap.size, 0, none⟩ = some (.int .i64 2) := by
  rw [(bl_alloc (Below.refl y5.heap.size y5) _).cell (p := ⟨y3.heap.size, 0, none⟩) z45]; exact k40
 clear k40
 have XA : Hid (Ex b y0 (y5.alloc (.cells #[.int .i64 2, .string z0, .int .i64 0, .slice none 0 0, .string z1, .string z2, .int .i64 z3] 25))) := (X4.out.trans x5).allocR _
 obtain ⟨Q1, Q2, Q3, Q4⟩ := box_ex (cs := #[.int .i64 2, .string z0, .int .i64 0, .slice none 0 0, .string z1, .string z2, .int .i64 z3]) HZ.out (HY0.out ▸ XA.out)
 clear x5
 go_wp2_with (refine wpList_store_row (by rfl) 25 _ _ (by rfl) y.heap.size #[.int .i64 2, .string z0, .int .i64 0, .slice none 0 0, .string z1, .string z2, .int .i64 z3] (by rfl) (by rfl) 25 #[.int .i64 0, .string ⟨#[]⟩, .int .i64 0, .slice none 0 0, .string ⟨#[]⟩, .string ⟨#[]⟩, .int .i64 0] Q1.out (by kernel_rfl) rfl (by simp [Value.oneCell']) ?_)
 have s0 := Q3.out 0; have s1 := Q3.out 1; have s2 := Q3.out 2; have s3 := Q3.out 3; have s4 := Q3.out 4; have s5 := Q3.out 5; have s6 := Q3.out 6
 exact bodyPost_ret (v := .agg #[.int .i64 2, .string z0, .int .i64 0, .slice none 0 0, .string z1, .string z2, .int .i64 z3]) (by simp [results, Tryz.results56, go_sem, s0, s1, s2, s3, s4, s5, s6]) rfl ⟨by rw [HV2.out], Q2.out⟩
set_option maxRecDepth 4000 in
set_option maxHeartbeats 8000000 in
theorem readHead3 {W : World} {b : Nat} {l : List UInt8} {y : World} (h : At W b l 0 y) (hE : Env W) (hl : l.length ≤ 1048576) (hk : idxT (wdI l 0) = 2) :
  Calls Tryz.prog 56 #[.iface 97 (.pointer (some ⟨b, 0, none⟩))] y fun e y' => e = .returned (.agg #[.int .i64 3, .string (wdI l 1), .int .i64 0, .slice none 0 0, .string (wdI l 2), .string (wdI l 3), .int .i64 (numI (wdI l 4))]) ∧ Ex b y y' := by
 obtain ⟨x0, g0⟩ : ∃ x, wdI l 0 = x := ⟨_, rfl⟩
 rw [g0] at hk
 have G0 : Hid (wdI l 0 = x0) := g0
 have HK : Hid (idxT x0 = 2) := hk
 obtain ⟨z0, e0⟩ : ∃ z, wdI l 1 = z := ⟨_, rfl⟩
 obtain ⟨z1, e1⟩ : ∃ z, wdI l 2 = z := ⟨_, rfl⟩
 obtain ⟨z2, e2⟩ : ∃ z, wdI l 3 = z := ⟨_, rfl⟩
 obtain ⟨z3, e3⟩ : ∃ z, numI (wdI l 4) = z := ⟨_, rfl⟩
 have HV : Hid ((.agg #[.int .i64 0, .string (wdI l 1), .int .i64 0, .slice none 0 0, .string (wdI l 2), .string (wdI l 3), .int .i64 (numI (wdI l 4))] : Value) = .agg #[.int .i64 0, .string z0, .int .i64 0, .slice none 0 0, .string z1, .string z2, .int .i64 z3]) := by show _ = _; rw [e0, e1, e2, e3]
 have HV2 : Hid ((.agg #[.int .i64 3, .string (wdI l 1), .int .i64 0, .slice none 0 0, .string (wdI l 2), .string (wdI l 3), .int .i64 (numI (wdI l 4))] : Value) = .agg #[.int .i64 3, .string z0, .int .i64 0, .slice none 0 0, .string z1, .string z2, .int .i64 z3]) := by show _ = _; rw [e0, e1, e2, e3]
 clear e0 e1 e2 e3
 obtain ⟨y0, hy0⟩ : ∃ y0, y0 = y.alloc (.cells #[.int .i64 0, .string ⟨#[]⟩, .int .i64 0, .slice none 0 0, .string ⟨#[]⟩, .string ⟨#[]⟩, .int .i64 0] 25) := ⟨_, rfl⟩
 have HY0 : Hid (y0 = y.alloc (.cells #[.int .i64 0, .string ⟨#[]⟩, .int .i64 0, .slice none 0 0, .string ⟨#[]⟩, .string ⟨#[]⟩, .int .i64 0] 25)) := hy0
 have H0 : Hid (At W b l 0 y0) := by rw [hy0]; exact h.keep (bl_alloc (Below.refl _ _) _)
 have HE : Hid (Env W) := hE
 have HLn : Hid (l.length ≤ 1048576) := hl
 have HZ : Hid (b < y.heap.size) := h.s.z
 have hm := meth_spaced
 clear h hE hl hy0 hk g0
 go_enter Tryz.func56, Tryz.ntmps56
 go_wp2_with fail
 rw [← HY0.out]
 refine (nextAtE (n := 0) x0 G0.out H0.out HE.out).mono ?_
 rintro e y1 ⟨rfl, h1, h2⟩
 obtain ⟨y2, hy2⟩ : ∃ y2, y2 = y1.alloc (.cells #[.string x0] 9) := ⟨_, rfl⟩
 have HY2 : Hid (y2 = y1.alloc (.cells #[.string x0] 9)) := hy2
 have C2 : Hid (y2.cell? ⟨y1.heap.size, 0, none⟩ = some (.string x0)) := by rw [hy2]; show _ = _; rw [World.cell?_alloc_new]; rfl
 have L2 : Hid (y1.heap.size < y2.heap.size) := by rw [hy2]; show _ < _; simp
 have B2 : Hid (Below y1.heap.size y1 y2) := by rw [hy2]; exact bl_alloc (Below.refl _ _) _
 have H2 : Hid (At W b l 1 y2) := h1.keep B2.out
 have X2 : Hid (Ex b y0 y2) := h2.trans (Ex.of_below B2.out)
 clear h1 h2 hy2
 go_wp2_with fail
 rw [← HY2.out]
 refine (findW3 x0 HK.out y1.heap.size y2 C2.out L2.out).mono ?_
 rintro e y3 ⟨rfl, b3⟩
 obtain ⟨y4, hy4⟩ : ∃ y4, y4 = y3.alloc (.cells #[.int .i64 3, .string ⟨#[103, 105, 118, 101, 110]⟩, .func (.func 76) #[] #[], .func (.func 77) #[] #[], .func (.func 78) #[] #[]] 51) := ⟨_, rfl⟩
 have HY4 : Hid (y4 = y3.alloc (.cells #[.int .i64 3, .string ⟨#[103, 105, 118, 101, 110]⟩, .func (.func 76) #[] #[], .func (.func 77) #[] #[], .func (.func 78) #[] #[]] 51)) := hy4
 have B4 : Hid (Below y2.heap.size y2 y4) := by rw [hy4]; exact bl_alloc b3 _
 have H4 : Hid (At W b l 1 y4) := H2.out.keep B4.out
 have X4 : Hid (Ex b y0 y4) := X2.out.trans (Ex.of_below B4.out)
 have Z4 : Hid (b < y3.heap.size) := Nat.lt_of_lt_of_le H2.out.s.z b3.size
 have Z5 : Hid (y0.heap.size ≤ y3.heap.size) := Nat.le_trans X2.out.size b3.size
 clear hy4 b3
 go_wp2_with fail
 rw [← HY4.out]
 refine (readHold_at H4.out HE.out HLn.out).mono ?_
 rw [HV.out]
 rintro e y5 ⟨rfl, x5⟩
 have k40 : y5.cell? ⟨y3.heap.size, 0, none⟩ = some (.int .i64 3) := by
  have z := Z4.out
  rw [x5.cell (p := ⟨y3.heap.size, 0, none⟩) (by rw [HY4.out]; simp) (by show y3.heap.size ≠ b; omega), HY4.out, World.cell?_alloc_new]
  rfl
 have z45 : y3.heap.size < y5.heap.size := Nat.lt_of_lt_of_le (by rw [HY4.out]; simp) x5.size
 have k41 : (y5.alloc (.cells #[.int .i64 0, .string z0, .int .i64 0, .slice none 0 0, .string z1, .string z2, .int .i64 z3] 25)).cell? ⟨y3.heap.size, 0, none⟩ = some (.int .i64 3) := by
  rw [(bl_alloc (Below.refl y5.heap.size y5) _).cell (p := ⟨y3.heap.size, 0, none⟩) z45]; exact k40
 clear k40
 have XA : Hid (Ex b y0 (y5.alloc (.cells #[.int .i64 3, .string z0, .int .i64 0, .slice none 0 0, .string z1, .string z2, .int .i64 z3] 25))) := (X4.out.trans x5).allocR _
 obtain ⟨Q1, Q2, Q3, Q4⟩ := box_ex (cs := #[.int .i64 3, .string z0, .int .i64 0, .slice none 0 0, .string z1, .string z2, .int .i64 z3]) HZ.out (HY0.out ▸ XA.out)
 clear x5
 go_wp2_with (refine wpList_store_row (by rfl) 25 _ _ (by rfl) y.heap.size #[.int .i64 3, .string z0, .int .i64 0, .slice none 0 0, .string z1, .string z2, .int .i64 z3] (by rfl) (by rfl) 25 #[.int .i64 0, .string ⟨#[]⟩, .int .i64 0, .slice none 0 0, .string ⟨#[]⟩, .string ⟨#[]⟩, .int .i64 0] Q1.out (by kernel_rfl) rfl (by simp [Value.oneCell']) ?_)
 have s0 := Q3.out 0; have s1 := Q3.out 1; have s2 := Q3.out 2; have s3 := Q3.out 3; have s4 := Q3.out 4; have s5 := Q3.out 5; have s6 := Q3.out 6
 exact bodyPost_ret (v := .agg #[.int .i64 3, .string z0, .int .i64 0, .slice none 0 0, .string z1, .string z2, .int .i64 z3]) (by simp [results, Tryz.results56, go_sem, s0, s1, s2, s3, s4, s5, s6]) rfl ⟨by rw [HV2.out], Q2.out⟩
set_option maxRecDepth 4000 in
set_option maxHeartbeats 8000000 in
theorem readHead4 {W : World} {b : Nat} {l : List UInt8} {y : World} (h : At W b l 0 y) (hE : Env W) (hl : l.length ≤ 1048576) (hk : idxT (wdI l 0) = 3) :
  Calls Tryz.prog 56 #[.iface 97 (.pointer (some ⟨b, 0, none⟩))] y fun e y' => e = .returned (.agg #[.int .i64 4, .string (wdI l 1), .int .i64 0, .slice none 0 0, .string (wdI l 2), .string (wdI l 3), .int .i64 (numI (wdI l 4))]) ∧ Ex b y y' := by
 obtain ⟨x0, g0⟩ : ∃ x, wdI l 0 = x := ⟨_, rfl⟩
 rw [g0] at hk
 have G0 : Hid (wdI l 0 = x0) := g0
 have HK : Hid (idxT x0 = 3) := hk
 obtain ⟨z0, e0⟩ : ∃ z, wdI l 1 = z := ⟨_, rfl⟩
 obtain ⟨z1, e1⟩ : ∃ z, wdI l 2 = z := ⟨_, rfl⟩
 obtain ⟨z2, e2⟩ : ∃ z, wdI l 3 = z := ⟨_, rfl⟩
 obtain ⟨z3, e3⟩ : ∃ z, numI (wdI l 4) = z := ⟨_, rfl⟩
 have HV : Hid ((.agg #[.int .i64 0, .string (wdI l 1), .int .i64 0, .slice none 0 0, .string (wdI l 2), .string (wdI l 3), .int .i64 (numI (wdI l 4))] : Value) = .agg #[.int .i64 0, .string z0, .int .i64 0, .slice none 0 0, .string z1, .string z2, .int .i64 z3]) := by show _ = _; rw [e0, e1, e2, e3]
 have HV2 : Hid ((.agg #[.int .i64 4, .string (wdI l 1), .int .i64 0, .slice none 0 0, .string (wdI l 2), .string (wdI l 3), .int .i64 (numI (wdI l 4))] : Value) = .agg #[.int .i64 4, .string z0, .int .i64 0, .slice none 0 0, .string z1, .string z2, .int .i64 z3]) := by show _ = _; rw [e0, e1, e2, e3]
 clear e0 e1 e2 e3
 obtain ⟨y0, hy0⟩ : ∃ y0, y0 = y.alloc (.cells #[.int .i64 0, .string ⟨#[]⟩, .int .i64 0, .slice none 0 0, .string ⟨#[]⟩, .string ⟨#[]⟩, .int .i64 0] 25) := ⟨_, rfl⟩
 have HY0 : Hid (y0 = y.alloc (.cells #[.int .i64 0, .string ⟨#[]⟩, .int .i64 0, .slice none 0 0, .string ⟨#[]⟩, .string ⟨#[]⟩, .int .i64 0] 25)) := hy0
 have H0 : Hid (At W b l 0 y0) := by rw [hy0]; exact h.keep (bl_alloc (Below.refl _ _) _)
 have HE : Hid (Env W) := hE
 have HLn : Hid (l.length ≤ 1048576) := hl
 have HZ : Hid (b < y.heap.size) := h.s.z
 have hm := meth_spaced
 clear h hE hl hy0 hk g0
 go_enter Tryz.func56, Tryz.ntmps56
 go_wp2_with fail
 rw [← HY0.out]
 refine (nextAtE (n := 0) x0 G0.out H0.out HE.out).mono ?_
 rintro e y1 ⟨rfl, h1, h2⟩
 obtain ⟨y2, hy2⟩ : ∃ y2, y2 = y1.alloc (.cells #[.string x0] 9) := ⟨_, rfl⟩
 have HY2 : Hid (y2 = y1.alloc (.cells #[.string x0] 9)) := hy2
 have C2 : Hid (y2.cell? ⟨y1.heap.size, 0, none⟩ = some (.string x0)) := by rw [hy2]; show _ = _; rw [World.cell?_alloc_new]; rfl
 have L2 : Hid (y1.heap.size < y2.heap.size) := by rw [hy2]; show _ < _; simp
 have B2 : Hid (Below y1.heap.size y1 y2) := by rw [hy2]; exact bl_alloc (Below.refl _ _) _
 have H2 : Hid (At W b l 1 y2) := h1.keep B2.out
 have X2 : Hid (Ex b y0 y2) := h2.trans (Ex.of_below B2.out)
 clear h1 h2 hy2
 go_wp2_with fail
 rw [← HY2.out]
 refine (findW4 x0 HK.out y1.heap.size y2 C2.out L2.out).mono ?_
 rintro e y3 ⟨rfl, b3⟩
 obtain ⟨y4, hy4⟩ : ∃ y4, y4 = y3.alloc (.cells #[.int .i64 4, .string ⟨#[98, 97, 99, 107]⟩, .func (.func 76) #[] #[], .func (.func 77) #[] #[], .func (.func 78) #[] #[]] 51) := ⟨_, rfl⟩
 have HY4 : Hid (y4 = y3.alloc (.cells #[.int .i64 4, .string ⟨#[98, 97, 99, 107]⟩, .func (.func 76) #[] #[], .func (.func 77) #[] #[], .func (.func 78) #[] #[]] 51)) := hy4
 have B4 : Hid (Below y2.heap.size y2 y4) := by rw [hy4]; exact bl_alloc b3 _
 have H4 : Hid (At W b l 1 y4) := H2.out.keep B4.out
 have X4 : Hid (Ex b y0 y4) := X2.out.trans (Ex.of_below B4.out)
 have Z4 : Hid (b < y3.heap.size) := Nat.lt_of_lt_of_le H2.out.s.z b3.size
 have Z5 : Hid (y0.heap.size ≤ y3.heap.size) := Nat.le_trans X2.out.size b3.size
 clear hy4 b3
 go_wp2_with fail
 rw [← HY4.out]
 refine (readHold_at H4.out HE.out HLn.out).mono ?_
 rw [HV.out]
 rintro e y5 ⟨rfl, x5⟩
 have k40 : y5.cell? ⟨y3.heap.size, 0, none⟩ = some (.int .i64 4) := by
  have z := Z4.out
  rw [x5.cell (p := ⟨y3.heap.size, 0, none⟩) (by rw [HY4.out]; simp) (by show y3.heap.size ≠ b; omega), HY4.out, World.cell?_alloc_new]
  rfl
 have z45 : y3.heap.size < y5.heap.size := Nat.lt_of_lt_of_le (by rw [HY4.out]; simp) x5.size
 have k41 : (y5.alloc (.cells #[.int .i64 0, .string z0, .int .i64 0, .slice none 0 0, .string z1, .string z2, .int .i64 z3] 25)).cell? ⟨y3.heap.size, 0, none⟩ = some (.int .i64 4) := by
  rw [(bl_alloc (Below.refl y5.heap.size y5) _).cell (p := ⟨y3.heap.size, 0, none⟩) z45]; exact k40
 clear k40
 have XA : Hid (Ex b y0 (y5.alloc (.cells #[.int .i64 4, .string z0, .int .i64 0, .slice none 0 0, .string z1, .string z2, .int .i64 z3] 25))) := (X4.out.trans x5).allocR _
 obtain ⟨Q1, Q2, Q3, Q4⟩ := box_ex (cs := #[.int .i64 4, .string z0, .int .i64 0, .slice none 0 0, .string z1, .string z2, .int .i64 z3]) HZ.out (HY0.out ▸ XA.out)
 clear x5
 go_wp2_with (refine wpList_store_row (by rfl) 25 _ _ (by rfl) y.heap.size #[.int .i64 4, .string z0, .int .i64 0, .slice none 0 0, .string z1, .string z2, .int .i64 z3] (by rfl) (by rfl) 25 #[.int .i64 0, .string ⟨#[]⟩, .int .i64 0, .slice none 0 0, .string ⟨#[]⟩, .string ⟨#[]⟩, .int .i64 0] Q1.out (by kernel_rfl) rfl (by simp [Value.oneCell']) ?_)
 have s0 := Q3.out 0; have s1 := Q3.out 1; have s2 := Q3.out 2; have s3 := Q3.out 3; have s4 := Q3.out 4; have s5 := Q3.out 5; have s6 := Q3.out 6
 exact bodyPost_ret (v := .agg #[.int .i64 4, .string z0, .int .i64 0, .slice none 0 0, .string z1, .string z2, .int .i64 z3]) (by simp [results, Tryz.results56, go_sem, s0, s1, s2, s3, s4, s5, s6]) rfl ⟨by rw [HV2.out], Q2.out⟩
set_option maxRecDepth 4000 in
set_option maxHeartbeats 8000000 in
theorem readHead5 {W : World} {b : Nat} {l : List UInt8} {y : World} (h : At W b l 0 y) (hE : Env W) (hl : l.length ≤ 1048576) (hk : idxT (wdI l 0) = 4) :
  Calls Tryz.prog 56 #[.iface 97 (.pointer (some ⟨b, 0, none⟩))] y fun e y' => e = .returned (.agg #[.int .i64 5, .string (wdI l 1), .int .i64 0, .slice none 0 0, .string (wdI l 2), .string ⟨#[]⟩, .int .i64 (numI (wdI l 3))]) ∧ Ex b y y' := by
 obtain ⟨x0, g0⟩ : ∃ x, wdI l 0 = x := ⟨_, rfl⟩
 rw [g0] at hk
 have G0 : Hid (wdI l 0 = x0) := g0
 have HK : Hid (idxT x0 = 4) := hk
 obtain ⟨z0, e0⟩ : ∃ z, wdI l 1 = z := ⟨_, rfl⟩
 obtain ⟨z1, e1⟩ : ∃ z, wdI l 2 = z := ⟨_, rfl⟩
 obtain ⟨z2, e2⟩ : ∃ z, numI (wdI l 3) = z := ⟨_, rfl⟩
 have HV : Hid ((.agg #[.int .i64 0, .string (wdI l 1), .int .i64 0, .slice none 0 0, .string (wdI l 2), .string ⟨#[]⟩, .int .i64 (numI (wdI l 3))] : Value) = .agg #[.int .i64 0, .string z0, .int .i64 0, .slice none 0 0, .string z1, .string ⟨#[]⟩, .int .i64 z2]) := by show _ = _; rw [e0, e1, e2]
 have HV2 : Hid ((.agg #[.int .i64 5, .string (wdI l 1), .int .i64 0, .slice none 0 0, .string (wdI l 2), .string ⟨#[]⟩, .int .i64 (numI (wdI l 3))] : Value) = .agg #[.int .i64 5, .string z0, .int .i64 0, .slice none 0 0, .string z1, .string ⟨#[]⟩, .int .i64 z2]) := by show _ = _; rw [e0, e1, e2]
 clear e0 e1 e2
 obtain ⟨y0, hy0⟩ : ∃ y0, y0 = y.alloc (.cells #[.int .i64 0, .string ⟨#[]⟩, .int .i64 0, .slice none 0 0, .string ⟨#[]⟩, .string ⟨#[]⟩, .int .i64 0] 25) := ⟨_, rfl⟩
 have HY0 : Hid (y0 = y.alloc (.cells #[.int .i64 0, .string ⟨#[]⟩, .int .i64 0, .slice none 0 0, .string ⟨#[]⟩, .string ⟨#[]⟩, .int .i64 0] 25)) := hy0
 have H0 : Hid (At W b l 0 y0) := by rw [hy0]; exact h.keep (bl_alloc (Below.refl _ _) _)
 have HE : Hid (Env W) := hE
 have HLn : Hid (l.length ≤ 1048576) := hl
 have HZ : Hid (b < y.heap.size) := h.s.z
 have hm := meth_spaced
 clear h hE hl hy0 hk g0
 go_enter Tryz.func56, Tryz.ntmps56
 go_wp2_with fail
 rw [← HY0.out]
 refine (nextAtE (n := 0) x0 G0.out H0.out HE.out).mono ?_
 rintro e y1 ⟨rfl, h1, h2⟩
 obtain ⟨y2, hy2⟩ : ∃ y2, y2 = y1.alloc (.cells #[.string x0] 9) := ⟨_, rfl⟩
 have HY2 : Hid (y2 = y1.alloc (.cells #[.string x0] 9)) := hy2
 have C2 : Hid (y2.cell? ⟨y1.heap.size, 0, none⟩ = some (.string x0)) := by rw [hy2]; show _ = _; rw [World.cell?_alloc_new]; rfl
 have L2 : Hid (y1.heap.size < y2.heap.size) := by rw [hy2]; show _ < _; simp
 have B2 : Hid (Below y1.heap.size y1 y2) := by rw [hy2]; exact bl_alloc (Below.refl _ _) _
 have H2 : Hid (At W b l 1 y2) := h1.keep B2.out
 have X2 : Hid (Ex b y0 y2) := h2.trans (Ex.of_below B2.out)
 clear h1 h2 hy2
 go_wp2_with fail
 rw [← HY2.out]
 refine (findW5 x0 HK.out y1.heap.size y2 C2.out L2.out).mono ?_
 rintro e y3 ⟨rfl, b3⟩
 obtain ⟨y4, hy4⟩ : ∃ y4, y4 = y3.alloc (.cells #[.int .i64 5, .string ⟨#[103, 111, 116, 98, 97, 99, 107]⟩, .func (.func 79) #[] #[], .func (.func 80) #[] #[], .func (.func 81) #[] #[]] 51) := ⟨_, rfl⟩
 have HY4 : Hid (y4 = y3.alloc (.cells #[.int .i64 5, .string ⟨#[103, 111, 116, 98, 97, 99, 107]⟩, .func (.func 79) #[] #[], .func (.func 80) #[] #[], .func (.func 81) #[] #[]] 51)) := hy4
 have B4 : Hid (Below y2.heap.size y2 y4) := by rw [hy4]; exact bl_alloc b3 _
 have H4 : Hid (At W b l 1 y4) := H2.out.keep B4.out
 have X4 : Hid (Ex b y0 y4) := X2.out.trans (Ex.of_below B4.out)
 have Z4 : Hid (b < y3.heap.size) := Nat.lt_of_lt_of_le H2.out.s.z b3.size
 have Z5 : Hid (y0.heap.size ≤ y3.heap.size) := Nat.le_trans X2.out.size b3.size
 clear hy4 b3
 go_wp2_with fail
 rw [← HY4.out]
 refine (readGot_at H4.out HE.out HLn.out).mono ?_
 rw [HV.out]
 rintro e y5 ⟨rfl, x5⟩
 have k40 : y5.cell? ⟨y3.heap.size, 0, none⟩ = some (.int .i64 5) := by
  have z := Z4.out
  rw [x5.cell (p := ⟨y3.heap.size, 0, none⟩) (by rw [HY4.out]; simp) (by show y3.heap.size ≠ b; omega), HY4.out, World.cell?_alloc_new]
  rfl
 have z45 : y3.heap.size < y5.heap.size := Nat.lt_of_lt_of_le (by rw [HY4.out]; simp) x5.size
 have k41 : (y5.alloc (.cells #[.int .i64 0, .string z0, .int .i64 0, .slice none 0 0, .string z1, .string ⟨#[]⟩, .int .i64 z2] 25)).cell? ⟨y3.heap.size, 0, none⟩ = some (.int .i64 5) := by
  rw [(bl_alloc (Below.refl y5.heap.size y5) _).cell (p := ⟨y3.heap.size, 0, none⟩) z45]; exact k40
 clear k40
 have XA : Hid (Ex b y0 (y5.alloc (.cells #[.int .i64 5, .string z0, .int .i64 0, .slice none 0 0, .string z1, .string ⟨#[]⟩, .int .i64 z2] 25))) := (X4.out.trans x5).allocR _
 obtain ⟨Q1, Q2, Q3, Q4⟩ := box_ex (cs := #[.int .i64 5, .string z0, .int .i64 0, .slice none 0 0, .string z1, .string ⟨#[]⟩, .int .i64 z2]) HZ.out (HY0.out ▸ XA.out)
 clear x5
 go_wp2_with (refine wpList_store_row (by rfl) 25 _ _ (by rfl) y.heap.size #[.int .i64 5, .string z0, .int .i64 0, .slice none 0 0, .string z1, .string ⟨#[]⟩, .int .i64 z2] (by rfl) (by rfl) 25 #[.int .i64 0, .string ⟨#[]⟩, .int .i64 0, .slice none 0 0, .string ⟨#[]⟩, .string ⟨#[]⟩, .int .i64 0] Q1.out (by kernel_rfl) rfl (by simp [Value.oneCell']) ?_)
 have s0 := Q3.out 0; have s1 := Q3.out 1; have s2 := Q3.out 2; have s3 := Q3.out 3; have s4 := Q3.out 4; have s5 := Q3.out 5; have s6 := Q3.out 6
 exact bodyPost_ret (v := .agg #[.int .i64 5, .string z0, .int .i64 0, .slice none 0 0, .string z1, .string ⟨#[]⟩, .int .i64 z2]) (by simp [results, Tryz.results56, go_sem, s0, s1, s2, s3, s4, s5, s6]) rfl ⟨by rw [HV2.out], Q2.out⟩
set_option maxRecDepth 4000 in
set_option maxHeartbeats 8000000 in
theorem readHead6 {W : World} {b : Nat} {l : List UInt8} {y : World} (h : At W b l 0 y) (hE : Env W) (hl : l.length ≤ 1048576) (hk : idxT (wdI l 0) = 5) :
  Calls Tryz.prog 56 #[.iface 97 (.pointer (some ⟨b, 0, none⟩))] y fun e y' => e = .returned (.agg #[.int .i64 6, .string (wdI l 1), .int .i64 (numI (wdI l 2)), .slice none 0 0, .string ⟨#[]⟩, .string ⟨#[]⟩, .int .i64 0]) ∧ Ex b y y' := by
 obtain ⟨x0, g0⟩ : ∃ x, wdI l 0 = x := ⟨_, rfl⟩
 rw [g0] at hk
 have G0 : Hid (wdI l 0 = x0) := g0
 have HK : Hid (idxT x0 = 5) := hk
 obtain ⟨z0, e0⟩ : ∃ z, wdI l 1 = z := ⟨_, rfl⟩
 obtain ⟨z1, e1⟩ : ∃ z, numI (wdI l 2) = z := ⟨_, rfl⟩
 have HV : Hid ((.agg #[.int .i64 0, .string (wdI l 1), .int .i64 (numI (wdI l 2)), .slice none 0 0, .string ⟨#[]⟩, .string ⟨#[]⟩, .int .i64 0] : Value) = .agg #[.int .i64 0, .string z0, .int .i64 z1, .slice none 0 0, .string ⟨#[]⟩, .string ⟨#[]⟩, .int .i64 0]) := by show _ = _; rw [e0, e1]
 have HV2 : Hid ((.agg #[.int .i64 6, .string (wdI l 1), .int .i64 (numI (wdI l 2)), .slice none 0 0, .string ⟨#[]⟩, .string ⟨#[]⟩, .int .i64 0] : Value) = .agg #[.int .i64 6, .string z0, .int .i64 z1, .slice none 0 0, .string ⟨#[]⟩, .string ⟨#[]⟩, .int .i64 0]) := by show _ = _; rw [e0, e1]
 clear e0 e1
 obtain ⟨y0, hy0⟩ : ∃ y0, y0 = y.alloc (.cells #[.int .i64 0, .string ⟨#[]⟩, .int .i64 0, .slice none 0 0, .string ⟨#[]⟩, .string ⟨#[]⟩, .int .i64 0] 25) := ⟨_, rfl⟩
 have HY0 : Hid (y0 = y.alloc (.cells #[.int .i64 0, .string ⟨#[]⟩, .int .i64 0, .slice none 0 0, .string ⟨#[]⟩, .string ⟨#[]⟩, .int .i64 0] 25)) := hy0
 have H0 : Hid (At W b l 0 y0) := by rw [hy0]; exact h.keep (bl_alloc (Below.refl _ _) _)
 have HE : Hid (Env W) := hE
 have HLn : Hid (l.length ≤ 1048576) := hl
 have HZ : Hid (b < y.heap.size) := h.s.z
 have hm := meth_spaced
 clear h hE hl hy0 hk g0
 go_enter Tryz.func56, Tryz.ntmps56
 go_wp2_with fail
 rw [← HY0.out]
 refine (nextAtE (n := 0) x0 G0.out H0.out HE.out).mono ?_
 rintro e y1 ⟨rfl, h1, h2⟩
 obtain ⟨y2, hy2⟩ : ∃ y2, y2 = y1.alloc (.cells #[.string x0] 9) := ⟨_, rfl⟩
 have HY2 : Hid (y2 = y1.alloc (.cells #[.string x0] 9)) := hy2
 have C2 : Hid (y2.cell? ⟨y1.heap.size, 0, none⟩ = some (.string x0)) := by rw [hy2]; show _ = _; rw [World.cell?_alloc_new]; rfl
 have L2 : Hid (y1.heap.size < y2.heap.size) := by rw [hy2]; show _ < _; simp
 have B2 : Hid (Below y1.heap.size y1 y2) := by rw [hy2]; exact bl_alloc (Below.refl _ _) _
 have H2 : Hid (At W b l 1 y2) := h1.keep B2.out
 have X2 : Hid (Ex b y0 y2) := h2.trans (Ex.of_below B2.out)
 clear h1 h2 hy2
 go_wp2_with fail
 rw [← HY2.out]
 refine (findW6 x0 HK.out y1.heap.size y2 C2.out L2.out).mono ?_
 rintro e y3 ⟨rfl, b3⟩
 obtain ⟨y4, hy4⟩ : ∃ y4, y4 = y3.alloc (.cells #[.int .i64 6, .string ⟨#[104, 101, 114, 101]⟩, .func (.func 82) #[] #[], .func (.func 74) #[] #[], .func (.func 75) #[] #[]] 51) := ⟨_, rfl⟩
 have HY4 : Hid (y4 = y3.alloc (.cells #[.int .i64 6, .string ⟨#[104, 101, 114, 101]⟩, .func (.func 82) #[] #[], .func (.func 74) #[] #[], .func (.func 75) #[] #[]] 51)) := hy4
 have B4 : Hid (Below y2.heap.size y2 y4) := by rw [hy4]; exact bl_alloc b3 _
 have H4 : Hid (At W b l 1 y4) := H2.out.keep B4.out
 have X4 : Hid (Ex b y0 y4) := X2.out.trans (Ex.of_below B4.out)
 have Z4 : Hid (b < y3.heap.size) := Nat.lt_of_lt_of_le H2.out.s.z b3.size
 have Z5 : Hid (y0.heap.size ≤ y3.heap.size) := Nat.le_trans X2.out.size b3.size
 clear hy4 b3
 go_wp2_with fail
 rw [← HY4.out]
 refine (readSeen_at H4.out HE.out HLn.out).mono ?_
 rw [HV.out]
 rintro e y5 ⟨rfl, x5⟩
 have k40 : y5.cell? ⟨y3.heap.size, 0, none⟩ = some (.int .i64 6) := by
  have z := Z4.out
  rw [x5.cell (p := ⟨y3.heap.size, 0, none⟩) (by rw [HY4.out]; simp) (by show y3.heap.size ≠ b; omega), HY4.out, World.cell?_alloc_new]
  rfl
 have z45 : y3.heap.size < y5.heap.size := Nat.lt_of_lt_of_le (by rw [HY4.out]; simp) x5.size
 have k41 : (y5.alloc (.cells #[.int .i64 0, .string z0, .int .i64 z1, .slice none 0 0, .string ⟨#[]⟩, .string ⟨#[]⟩, .int .i64 0] 25)).cell? ⟨y3.heap.size, 0, none⟩ = some (.int .i64 6) := by
  rw [(bl_alloc (Below.refl y5.heap.size y5) _).cell (p := ⟨y3.heap.size, 0, none⟩) z45]; exact k40
 clear k40
 have XA : Hid (Ex b y0 (y5.alloc (.cells #[.int .i64 6, .string z0, .int .i64 z1, .slice none 0 0, .string ⟨#[]⟩, .string ⟨#[]⟩, .int .i64 0] 25))) := (X4.out.trans x5).allocR _
 obtain ⟨Q1, Q2, Q3, Q4⟩ := box_ex (cs := #[.int .i64 6, .string z0, .int .i64 z1, .slice none 0 0, .string ⟨#[]⟩, .string ⟨#[]⟩, .int .i64 0]) HZ.out (HY0.out ▸ XA.out)
 clear x5
 go_wp2_with (refine wpList_store_row (by rfl) 25 _ _ (by rfl) y.heap.size #[.int .i64 6, .string z0, .int .i64 z1, .slice none 0 0, .string ⟨#[]⟩, .string ⟨#[]⟩, .int .i64 0] (by rfl) (by rfl) 25 #[.int .i64 0, .string ⟨#[]⟩, .int .i64 0, .slice none 0 0, .string ⟨#[]⟩, .string ⟨#[]⟩, .int .i64 0] Q1.out (by kernel_rfl) rfl (by simp [Value.oneCell']) ?_)
 have s0 := Q3.out 0; have s1 := Q3.out 1; have s2 := Q3.out 2; have s3 := Q3.out 3; have s4 := Q3.out 4; have s5 := Q3.out 5; have s6 := Q3.out 6
 exact bodyPost_ret (v := .agg #[.int .i64 6, .string z0, .int .i64 z1, .slice none 0 0, .string ⟨#[]⟩, .string ⟨#[]⟩, .int .i64 0]) (by simp [results, Tryz.results56, go_sem, s0, s1, s2, s3, s4, s5, s6]) rfl ⟨by rw [HV2.out], Q2.out⟩
set_option maxRecDepth 4000 in
set_option maxHeartbeats 8000000 in
theorem readHead7 {W : World} {b : Nat} {l : List UInt8} {y : World} (h : At W b l 0 y) (hE : Env W) (hl : l.length ≤ 1048576) (hk : idxT (wdI l 0) = -1) :
  Calls Tryz.prog 56 #[.iface 97 (.pointer (some ⟨b, 0, none⟩))] y fun e y' => e = .returned (.agg #[.int .i64 0, .string ⟨#[]⟩, .int .i64 0, .slice none 0 0, .string ⟨#[]⟩, .string ⟨#[]⟩, .int .i64 0]) ∧ Ex b y y' := by
 obtain ⟨x0, g0⟩ : ∃ x, wdI l 0 = x := ⟨_, rfl⟩
 rw [g0] at hk
 have G0 : Hid (wdI l 0 = x0) := g0
 have HK : Hid (idxT x0 = -1) := hk
 obtain ⟨y0, hy0⟩ : ∃ y0, y0 = y.alloc (.cells #[.int .i64 0, .string ⟨#[]⟩, .int .i64 0, .slice none 0 0, .string ⟨#[]⟩, .string ⟨#[]⟩, .int .i64 0] 25) := ⟨_, rfl⟩
 have HY0 : Hid (y0 = y.alloc (.cells #[.int .i64 0, .string ⟨#[]⟩, .int .i64 0, .slice none 0 0, .string ⟨#[]⟩, .string ⟨#[]⟩, .int .i64 0] 25)) := hy0
 have H0 : Hid (At W b l 0 y0) := by rw [hy0]; exact h.keep (bl_alloc (Below.refl _ _) _)
 have HE : Hid (Env W) := hE
 have HLn : Hid (l.length ≤ 1048576) := hl
 have HZ : Hid (b < y.heap.size) := h.s.z
 have hm := meth_spaced
 clear h hE hl hy0 hk g0
 go_enter Tryz.func56, Tryz.ntmps56
 go_wp2_with fail
 rw [← HY0.out]
 refine (nextAtE (n := 0) x0 G0.out H0.out HE.out).mono ?_
 rintro e y1 ⟨rfl, h1, h2⟩
 obtain ⟨y2, hy2⟩ : ∃ y2, y2 = y1.alloc (.cells #[.string x0] 9) := ⟨_, rfl⟩
 have HY2 : Hid (y2 = y1.alloc (.cells #[.string x0] 9)) := hy2
 have C2 : Hid (y2.cell? ⟨y1.heap.size, 0, none⟩ = some (.string x0)) := by rw [hy2]; show _ = _; rw [World.cell?_alloc_new]; rfl
 have L2 : Hid (y1.heap.size < y2.heap.size) := by rw [hy2]; show _ < _; simp
 have B2 : Hid (Below y1.heap.size y1 y2) := by rw [hy2]; exact bl_alloc (Below.refl _ _) _
 have H2 : Hid (At W b l 1 y2) := h1.keep B2.out
 have X2 : Hid (Ex b y0 y2) := h2.trans (Ex.of_below B2.out)
 clear h1 h2 hy2
 go_wp2_with fail
 rw [← HY2.out]
 refine (findW7 x0 HK.out y1.heap.size y2 C2.out L2.out).mono ?_
 rintro e y3 ⟨rfl, b3⟩
 have X3 : Hid (Ex b y0 (y3.alloc (.cells #[.int .i64 0, .string ⟨#[]⟩, .nilFunc, .nilFunc, .nilFunc] 51))) := (X2.out.trans (Ex.of_below b3)).allocR _
 obtain ⟨Q1, Q2, Q3, Q4⟩ := box_ex (cs := #[.int .i64 0, .string ⟨#[]⟩, .int .i64 0, .slice none 0 0, .string ⟨#[]⟩, .string ⟨#[]⟩, .int .i64 0]) HZ.out (HY0.out ▸ X3.out)
 clear b3
 go_wp2_with (refine wpList_store_row (by rfl) 25 _ _ (by rfl) y.heap.size #[.int .i64 0, .string ⟨#[]⟩, .int .i64 0, .slice none 0 0, .string ⟨#[]⟩, .string ⟨#[]⟩, .int .i64 0] (by rfl) (by rfl) 25 #[.int .i64 0, .string ⟨#[]⟩, .int .i64 0, .slice none 0 0, .string ⟨#[]⟩, .string ⟨#[]⟩, .int .i64 0] Q1.out (by kernel_rfl) rfl (by simp [Value.oneCell']) ?_)
 have s0 := Q3.out 0; have s1 := Q3.out 1; have s2 := Q3.out 2; have s3 := Q3.out 3; have s4 := Q3.out 4; have s5 := Q3.out 5; have s6 := Q3.out 6
 exact bodyPost_ret (v := .agg #[.int .i64 0, .string ⟨#[]⟩, .int .i64 0, .slice none 0 0, .string ⟨#[]⟩, .string ⟨#[]⟩, .int .i64 0]) (by simp [results, Tryz.results56, go_sem, s0, s1, s2, s3, s4, s5, s6]) rfl ⟨rfl, Q2.out⟩
end Go.Proofs.YtgakmkhbnjofhaaGreatDoor
