import Derived.Test.YtgakmkhbnjofhaaGreatDoorJ58
import Derived.Test.YtgakmkhbnjofhaaGreatDoorJ57
import Derived.Test.YtgakmkhbnjofhaaGreatDoorJ15
/- The program reads a first line, at a word. -/
namespace Go.Proofs.YtgakmkhbnjofhaaGreatDoor
open Go.RowKit
set_option linter.unusedVariables false

set_option maxRecDepth 4000 in
set_option maxHeartbeats 8000000 in
theorem readHead5 {W : World} {b : Nat} {l : List UInt8} {y : World} (h : At W b l 0 y) (hE : Env W) (hl : l.length ≤ 1048576) (hk : idxT (wdI l 0) = 4) :
    Calls Tryz.prog 56 #[.iface 97 (.pointer (some ⟨b, 0, none⟩))] y fun e y' => e = .returned (.agg #[.int .i64 5, .string (wdI l 1), .int .i64 0, .slice none 0 0, .string (wdI l 2), .string { data := #[] }, .int .i64 (numI (wdI l 3))]) ∧ Ex b y y' := by
  obtain ⟨x0, g0⟩ : ∃ x, wdI l 0 = x := ⟨_, rfl⟩
  rw [g0] at hk
  have G0 : Hid (wdI l 0 = x0) := g0
  have HK : Hid (idxT x0 = 4) := hk
  obtain ⟨z0, e0⟩ : ∃ z, wdI l 1 = z := ⟨_, rfl⟩
  obtain ⟨z1, e1⟩ : ∃ z, wdI l 2 = z := ⟨_, rfl⟩
  obtain ⟨z2, e2⟩ : ∃ z, numI (wdI l 3) = z := ⟨_, rfl⟩
  have HV : Hid ((.agg #[.int .i64 0, .string (wdI l 1), .int .i64 0, .slice none 0 0, .string (wdI l 2), .string { data := #[] }, .int .i64 (numI (wdI l 3))] : Value) = .agg #[.int .i64 0, .string z0, .int .i64 0, .slice none 0 0, .string z1, .string { data := #[] }, .int .i64 z2]) := by show _ = _; rw [e0, e1, e2]
  have HV2 : Hid ((.agg #[.int .i64 5, .string (wdI l 1), .int .i64 0, .slice none 0 0, .string (wdI l 2), .string { data := #[] }, .int .i64 (numI (wdI l 3))] : Value) = .agg #[.int .i64 5, .string z0, .int .i64 0, .slice none 0 0, .string z1, .string { data := #[] }, .int .i64 z2]) := by show _ = _; rw [e0, e1, e2]
  clear e0 e1 e2
  obtain ⟨y0, hy0⟩ : ∃ y0, y0 = y.alloc (.cells #[.int .i64 0, .string { data := #[] }, .int .i64 0, .slice none 0 0, .string { data := #[] }, .string { data := #[] }, .int .i64 0] 25) := ⟨_, rfl⟩
  have HY0 : Hid (y0 = y.alloc (.cells #[.int .i64 0, .string { data := #[] }, .int .i64 0, .slice none 0 0, .string { data := #[] }, .string { data := #[] }, .int .i64 0] 25)) := hy0
  have H0 : Hid (At W b l 0 y0) := by rw [hy0]; exact h.keep (bl_alloc (Below.refl _ _) _)
  have HE : Hid (Env W) := hE
  have HLn : Hid (l.length ≤ 1048576) := hl
  have HZ : Hid (b < y.heap.size) := h.s.z
  have hm := meth_spaced
  clear h hE hl hy0 hk g0
  go_enter Tryz.func56, Tryz.ntmps56
  go_wp2_with fail
  rw [← HY0.out]
  refine (nextAtE (n := 0) x0 G0.out H0.out HE.out).mono ?_
  rintro e y1 ⟨rfl, h1, h2⟩
  obtain ⟨y2, hy2⟩ : ∃ y2, y2 = y1.alloc (.cells #[.string x0] 9) := ⟨_, rfl⟩
  have HY2 : Hid (y2 = y1.alloc (.cells #[.string x0] 9)) := hy2
  have C2 : Hid (y2.cell? ⟨y1.heap.size, 0, none⟩ = some (.string x0)) := by rw [hy2]; show _ = _; rw [World.cell?_alloc_new]; rfl
  have L2 : Hid (y1.heap.size < y2.heap.size) := by rw [hy2]; show _ < _; simp
  have B2 : Hid (Below y1.heap.size y1 y2) := by rw [hy2]; exact bl_alloc (Below.refl _ _) _
  have H2 : Hid (At W b l 1 y2) := h1.keep B2.out
  have X2 : Hid (Ex b y0 y2) := h2.trans (Ex.of_below B2.out)
  clear h1 h2 hy2
  go_wp2_with fail
  rw [← HY2.out]
  refine (findW5 x0 HK.out y1.heap.size y2 C2.out L2.out).mono ?_
  rintro e y3 ⟨rfl, b3⟩
  obtain ⟨y4, hy4⟩ : ∃ y4, y4 = y3.alloc (.cells #[.int .i64 5, .string { data := #[103, 111, 116, 98, 97, 99, 107] }, .func (.func 79) #[] #[], .func (.func 80) #[] #[], .func (.func 81) #[] #[]] 51) := ⟨_, rfl⟩
  have HY4 : Hid (y4 = y3.alloc (.cells #[.int .i64 5, .string { data := #[103, 111, 116, 98, 97, 99, 107] }, .func (.func 79) #[] #[], .func (.func 80) #[] #[], .func (.func 81) #[] #[]] 51)) := hy4
  have B4 : Hid (Below y2.heap.size y2 y4) := by rw [hy4]; exact bl_alloc b3 _
  have H4 : Hid (At W b l 1 y4) := H2.out.keep B4.out
  have X4 : Hid (Ex b y0 y4) := X2.out.trans (Ex.of_below B4.out)
  have Z4 : Hid (b < y3.heap.size) := Nat.lt_of_lt_of_le H2.out.s.z b3.size
  have Z5 : Hid (y0.heap.size ≤ y3.heap.size) := Nat.le_trans X2.out.size b3.size
  clear hy4 b3
  go_wp2_with fail
  rw [← HY4.out]
  refine (readGot_at H4.out HE.out HLn.out).mono ?_
  rw [HV.out]
  rintro e y5 ⟨rfl, x5⟩
  have k40 : y5.cell? ⟨y3.heap.size, 0, none⟩ = some (.int .i64 5) := by
    have z := Z4.out
    rw [x5.cell (p := ⟨y3.heap.size, 0, none⟩) (by rw [HY4.out]; simp) (by show y3.heap.size ≠ b; omega), HY4.out, World.cell?_alloc_new]
    rfl
  have z45 : y3.heap.size < y5.heap.size := Nat.lt_of_lt_of_le (by rw [HY4.out]; simp) x5.size
  have k41 : (y5.alloc (.cells #[.int .i64 0, .string z0, .int .i64 0, .slice none 0 0, .string z1, .string { data := #[] }, .int .i64 z2] 25)).cell? ⟨y3.heap.size, 0, none⟩ = some (.int .i64 5) := by
    rw [(bl_alloc (Below.refl y5.heap.size y5) _).cell (p := ⟨y3.heap.size, 0, none⟩) z45]; exact k40
  clear k40
  have XA : Hid (Ex b y0 (y5.alloc (.cells #[.int .i64 5, .string z0, .int .i64 0, .slice none 0 0, .string z1, .string { data := #[] }, .int .i64 z2] 25))) := (X4.out.trans x5).allocR _
  obtain ⟨Q1, Q2, Q3, Q4⟩ := box_ex (cs := #[.int .i64 5, .string z0, .int .i64 0, .slice none 0 0, .string z1, .string { data := #[] }, .int .i64 z2]) HZ.out (HY0.out ▸ XA.out)
  clear x5
  go_wp2_with (refine wpList_store_row (by rfl) 25 _ _ (by rfl) y.heap.size #[.int .i64 5, .string z0, .int .i64 0, .slice none 0 0, .string z1, .string { data := #[] }, .int .i64 z2] (by rfl) (by rfl) 25 #[.int .i64 0, .string { data := #[] }, .int .i64 0, .slice none 0 0, .string { data := #[] }, .string { data := #[] }, .int .i64 0] Q1.out (by kernel_rfl) rfl (by simp [Value.oneCell']) ?_)
  have s0 := Q3.out 0; have s1 := Q3.out 1; have s2 := Q3.out 2; have s3 := Q3.out 3; have s4 := Q3.out 4; have s5 := Q3.out 5; have s6 := Q3.out 6
  exact bodyPost_ret (v := .agg #[.int .i64 5, .string z0, .int .i64 0, .slice none 0 0, .string z1, .string { data := #[] }, .int .i64 z2]) (by simp [results, Tryz.results56, go_sem, s0, s1, s2, s3, s4, s5, s6]) rfl ⟨by rw [HV2.out], Q2.out⟩
end Go.Proofs.YtgakmkhbnjofhaaGreatDoor
/- The program reads a first line, at a word. -/
namespace Go.Proofs.YtgakmkhbnjofhaaGreatDoor
open Go.RowKit
set_option linter.unusedVariables false

set_option maxRecDepth 4000 in
set_option maxHeartbeats 8000000 in
theorem readHead6 {W : World} {b : Nat} {l : List UInt8} {y : World} (h : At W b l 0 y) (hE : Env W) (hl : l.length ≤ 1048576) (hk : idxT (wdI l 0) = 5) :
    Calls Tryz.prog 56 #[.iface 97 (.pointer (some ⟨b, 0, none⟩))] y fun e y' => e = .returned (.agg #[.int .i64 6, .string (wdI l 1), .int .i64 (numI (wdI l 2)), .slice none 0 0, .string { data := #[] }, .string { data := #[] }, .int .i64 0]) ∧ Ex b y y' := by
  obtain ⟨x0, g0⟩ : ∃ x, wdI l 0 = x := ⟨_, rfl⟩
  rw [g0] at hk
  have G0 : Hid (wdI l 0 = x0) := g0
  have HK : Hid (idxT x0 = 5) := hk
  obtain ⟨z0, e0⟩ : ∃ z, wdI l 1 = z := ⟨_, rfl⟩
  obtain ⟨z1, e1⟩ : ∃ z, numI (wdI l 2) = z := ⟨_, rfl⟩
  have HV : Hid ((.agg #[.int .i64 0, .string (wdI l 1), .int .i64 (numI (wdI l 2)), .slice none 0 0, .string { data := #[] }, .string { data := #[] }, .int .i64 0] : Value) = .agg #[.int .i64 0, .string z0, .int .i64 z1, .slice none 0 0, .string { data := #[] }, .string { data := #[] }, .int .i64 0]) := by show _ = _; rw [e0, e1]
  have HV2 : Hid ((.agg #[.int .i64 6, .string (wdI l 1), .int .i64 (numI (wdI l 2)), .slice none 0 0, .string { data := #[] }, .string { data := #[] }, .int .i64 0] : Value) = .agg #[.int .i64 6, .string z0, .int .i64 z1, .slice none 0 0, .string { data := #[] }, .string { data := #[] }, .int .i64 0]) := by show _ = _; rw [e0, e1]
  clear e0 e1
  obtain ⟨y0, hy0⟩ : ∃ y0, y0 = y.alloc (.cells #[.int .i64 0, .string { data := #[] }, .int .i64 0, .slice none 0 0, .string { data := #[] }, .string { data := #[] }, .int .i64 0] 25) := ⟨_, rfl⟩
  have HY0 : Hid (y0 = y.alloc (.cells #[.int .i64 0, .string { data := #[] }, .int .i64 0, .slice none 0 0, .string { data := #[] }, .string { data := #[] }, .int .i64 0] 25)) := hy0
  have H0 : Hid (At W b l 0 y0) := by rw [hy0]; exact h.keep (bl_alloc (Below.refl _ _) _)
  have HE : Hid (Env W) := hE
  have HLn : Hid (l.length ≤ 1048576) := hl
  have HZ : Hid (b < y.heap.size) := h.s.z
  have hm := meth_spaced
  clear h hE hl hy0 hk g0
  go_enter Tryz.func56, Tryz.ntmps56
  go_wp2_with fail
  rw [← HY0.out]
  refine (nextAtE (n := 0) x0 G0.out H0.out HE.out).mono ?_
  rintro e y1 ⟨rfl, h1, h2⟩
  obtain ⟨y2, hy2⟩ : ∃ y2, y2 = y1.alloc (.cells #[.string x0] 9) := ⟨_, rfl⟩
  have HY2 : Hid (y2 = y1.alloc (.cells #[.string x0] 9)) := hy2
  have C2 : Hid (y2.cell? ⟨y1.heap.size, 0, none⟩ = some (.string x0)) := by rw [hy2]; show _ = _; rw [World.cell?_alloc_new]; rfl
  have L2 : Hid (y1.heap.size < y2.heap.size) := by rw [hy2]; show _ < _; simp
  have B2 : Hid (Below y1.heap.size y1 y2) := by rw [hy2]; exact bl_alloc (Below.refl _ _) _
  have H2 : Hid (At W b l 1 y2) := h1.keep B2.out
  have X2 : Hid (Ex b y0 y2) := h2.trans (Ex.of_below B2.out)
  clear h1 h2 hy2
  go_wp2_with fail
  rw [← HY2.out]
  refine (findW6 x0 HK.out y1.heap.size y2 C2.out L2.out).mono ?_
  rintro e y3 ⟨rfl, b3⟩
  obtain ⟨y4, hy4⟩ : ∃ y4, y4 = y3.alloc (.cells #[.int .i64 6, .string { data := #[104, 101, 114, 101] }, .func (.func 82) #[] #[], .func (.func 74) #[] #[], .func (.func 75) #[] #[]] 51) := ⟨_, rfl⟩
  have HY4 : Hid (y4 = y3.alloc (.cells #[.int .i64 6, .string { data := #[104, 101, 114, 101] }, .func (.func 82) #[] #[], .func (.func 74) #[] #[], .func (.func 75) #[] #[]] 51)) := hy4
  have B4 : Hid (Below y2.heap.size y2 y4) := by rw [hy4]; exact bl_alloc b3 _
  have H4 : Hid (At W b l 1 y4) := H2.out.keep B4.out
  have X4 : Hid (Ex b y0 y4) := X2.out.trans (Ex.of_below B4.out)
  have Z4 : Hid (b < y3.heap.size) := Nat.lt_of_lt_of_le H2.out.s.z b3.size
  have Z5 : Hid (y0.heap.size ≤ y3.heap.size) := Nat.le_trans X2.out.size b3.size
  clear hy4 b3
  go_wp2_with fail
  rw [← HY4.out]
  refine (readSeen_at H4.out HE.out HLn.out).mono ?_
  rw [HV.out]
  rintro e y5 ⟨rfl, x5⟩
  have k40 : y5.cell? ⟨y3.heap.size, 0, none⟩ = some (.int .i64 6) := by
    have z := Z4.out
    rw [x5.cell (p := ⟨y3.heap.size, 0, none⟩) (by rw [HY4.out]; simp) (by show y3.heap.size ≠ b; omega), HY4.out, World.cell?_alloc_new]
    rfl
  have z45 : y3.heap.size < y5.heap.size := Nat.lt_of_lt_of_le (by rw [HY4.out]; simp) x5.size
  have k41 : (y5.alloc (.cells #[.int .i64 0, .string z0, .int .i64 z1, .slice none 0 0, .string { data := #[] }, .string { data := #[] }, .int .i64 0] 25)).cell? ⟨y3.heap.size, 0, none⟩ = some (.int .i64 6) := by
    rw [(bl_alloc (Below.refl y5.heap.size y5) _).cell (p := ⟨y3.heap.size, 0, none⟩) z45]; exact k40
  clear k40
  have XA : Hid (Ex b y0 (y5.alloc (.cells #[.int .i64 6, .string z0, .int .i64 z1, .slice none 0 0, .string { data := #[] }, .string { data := #[] }, .int .i64 0] 25))) := (X4.out.trans x5).allocR _
  obtain ⟨Q1, Q2, Q3, Q4⟩ := box_ex (cs := #[.int .i64 6, .string z0, .int .i64 z1, .slice none 0 0, .string { data := #[] }, .string { data := #[] }, .int .i64 0]) HZ.out (HY0.out ▸ XA.out)
  clear x5
  go_wp2_with (refine wpList_store_row (by rfl) 25 _ _ (by rfl) y.heap.size #[.int .i64 6, .string z0, .int .i64 z1, .slice none 0 0, .string { data := #[] }, .string { data := #[] }, .int .i64 0] (by rfl) (by rfl) 25 #[.int .i64 0, .string { data := #[] }, .int .i64 0, .slice none 0 0, .string { data := #[] }, .string { data := #[] }, .int .i64 0] Q1.out (by kernel_rfl) rfl (by simp [Value.oneCell']) ?_)
  have s0 := Q3.out 0; have s1 := Q3.out 1; have s2 := Q3.out 2; have s3 := Q3.out 3; have s4 := Q3.out 4; have s5 := Q3.out 5; have s6 := Q3.out 6
  exact bodyPost_ret (v := .agg #[.int .i64 6, .string z0, .int .i64 z1, .slice none 0 0, .string { data := #[] }, .string { data := #[] }, .int .i64 0]) (by simp [results, Tryz.results56, go_sem, s0, s1, s2, s3, s4, s5, s6]) rfl ⟨by rw [HV2.out], Q2.out⟩
end Go.Proofs.YtgakmkhbnjofhaaGreatDoor
/- The program reads a first line, at a word. -/
namespace Go.Proofs.YtgakmkhbnjofhaaGreatDoor
open Go.RowKit
set_option linter.unusedVariables false

set_option maxRecDepth 4000 in
set_option maxHeartbeats 8000000 in
theorem readHead7 {W : World} {b : Nat} {l : List UInt8} {y : World} (h : At W b l 0 y) (hE : Env W) (hl : l.length ≤ 1048576) (hk : idxT (wdI l 0) = -1) :
    Calls Tryz.prog 56 #[.iface 97 (.pointer (some ⟨b, 0, none⟩))] y fun e y' => e = .returned (.agg #[.int .i64 0, .string { data := #[] }, .int .i64 0, .slice none 0 0, .string { data := #[] }, .string { data := #[] }, .int .i64 0]) ∧ Ex b y y' := by
  obtain ⟨x0, g0⟩ : ∃ x, wdI l 0 = x := ⟨_, rfl⟩
  rw [g0] at hk
  have G0 : Hid (wdI l 0 = x0) := g0
  have HK : Hid (idxT x0 = -1) := hk
  obtain ⟨y0, hy0⟩ : ∃ y0, y0 = y.alloc (.cells #[.int .i64 0, .string { data := #[] }, .int .i64 0, .slice none 0 0, .string { data := #[] }, .string { data := #[] }, .int .i64 0] 25) := ⟨_, rfl⟩
  have HY0 : Hid (y0 = y.alloc (.cells #[.int .i64 0, .string { data := #[] }, .int .i64 0, .slice none 0 0, .string { data := #[] }, .string { data := #[] }, .int .i64 0] 25)) := hy0
  have H0 : Hid (At W b l 0 y0) := by rw [hy0]; exact h.keep (bl_alloc (Below.refl _ _) _)
  have HE : Hid (Env W) := hE
  have HLn : Hid (l.length ≤ 1048576) := hl
  have HZ : Hid (b < y.heap.size) := h.s.z
  have hm := meth_spaced
  clear h hE hl hy0 hk g0
  go_enter Tryz.func56, Tryz.ntmps56
  go_wp2_with fail
  rw [← HY0.out]
  refine (nextAtE (n := 0) x0 G0.out H0.out HE.out).mono ?_
  rintro e y1 ⟨rfl, h1, h2⟩
  obtain ⟨y2, hy2⟩ : ∃ y2, y2 = y1.alloc (.cells #[.string x0] 9) := ⟨_, rfl⟩
  have HY2 : Hid (y2 = y1.alloc (.cells #[.string x0] 9)) := hy2
  have C2 : Hid (y2.cell? ⟨y1.heap.size, 0, none⟩ = some (.string x0)) := by rw [hy2]; show _ = _; rw [World.cell?_alloc_new]; rfl
  have L2 : Hid (y1.heap.size < y2.heap.size) := by rw [hy2]; show _ < _; simp
  have B2 : Hid (Below y1.heap.size y1 y2) := by rw [hy2]; exact bl_alloc (Below.refl _ _) _
  have H2 : Hid (At W b l 1 y2) := h1.keep B2.out
  have X2 : Hid (Ex b y0 y2) := h2.trans (Ex.of_below B2.out)
  clear h1 h2 hy2
  go_wp2_with fail
  rw [← HY2.out]
  refine (findW7 x0 HK.out y1.heap.size y2 C2.out L2.out).mono ?_
  rintro e y3 ⟨rfl, b3⟩
  have X3 : Hid (Ex b y0 (y3.alloc (.cells #[.int .i64 0, .string { data := #[] }, .nilFunc, .nilFunc, .nilFunc] 51))) := (X2.out.trans (Ex.of_below b3)).allocR _
  obtain ⟨Q1, Q2, Q3, Q4⟩ := box_ex (cs := #[.int .i64 0, .string { data := #[] }, .int .i64 0, .slice none 0 0, .string { data := #[] }, .string { data := #[] }, .int .i64 0]) HZ.out (HY0.out ▸ X3.out)
  clear b3
  go_wp2_with (refine wpList_store_row (by rfl) 25 _ _ (by rfl) y.heap.size #[.int .i64 0, .string { data := #[] }, .int .i64 0, .slice none 0 0, .string { data := #[] }, .string { data := #[] }, .int .i64 0] (by rfl) (by rfl) 25 #[.int .i64 0, .string { data := #[] }, .int .i64 0, .slice none 0 0, .string { data := #[] }, .string { data := #[] }, .int .i64 0] Q1.out (by kernel_rfl) rfl (by simp [Value.oneCell']) ?_)
  have s0 := Q3.out 0; have s1 := Q3.out 1; have s2 := Q3.out 2; have s3 := Q3.out 3; have s4 := Q3.out 4; have s5 := Q3.out 5; have s6 := Q3.out 6
  exact bodyPost_ret (v := .agg #[.int .i64 0, .string { data := #[] }, .int .i64 0, .slice none 0 0, .string { data := #[] }, .string { data := #[] }, .int .i64 0]) (by simp [results, Tryz.results56, go_sem, s0, s1, s2, s3, s4, s5, s6]) rfl ⟨rfl, Q2.out⟩
end Go.Proofs.YtgakmkhbnjofhaaGreatDoor
/- A drawn region that lays out something, appends it to a row and stores the row. -/
namespace Go.Proofs.YtgakmkhbnjofhaaGreatDoor
open Go.RowKit
set_option linter.unusedVariables false

theorem setB_ne {l : Array Bool} {i j : Nat} (h : j ≠ i) : (l.setIfInBounds i true).getD j false = l.getD j false := by
  simp only [Array.getD_eq_getD_getElem?]
  rw [Array.getElem?_setIfInBounds_ne (fun e => h e.symm)]
theorem setB_same {l : Array Bool} {i : Nat} (h : i < l.size) : (l.setIfInBounds i true).getD i false = true := by
  simp only [Array.getD_eq_getD_getElem?]
  rw [Array.getElem?_setIfInBounds_self_of_lt h]
  rfl
/-- Of n operations with slots the one at A appends, the one at F may come behind it; the last, at n, stores. -/
structure Iy (sl : Nat → Nat) (n A F C : Nat) (sh : Nat → Bool) (ops : Array Oper) (a0 : Act) (G : World → Nat → Value → Prop) (D : World → Prop) (D2 : World → Value → Prop) (E : World → Prop) (listed : Array Bool) (a : Act) (w : World) : Prop where
  df : a.defers = a0.defers
  sz : a.tmps.size = a0.tmps.size
  out : ∀ k, (∀ i, i < n → sl i ≠ k) → a.tmps.getD k undef = a0.tmps.getD k undef
  lz : listed.size = n + 1
  tr : ∀ i j, waits .any ops i j = true → listed.getD i false = true → listed.getD j false = true
  good : ∀ i, i < n → listed.getD i false = true → listed.getD n false = false → (listed.getD A false = false ∨ i = F) → (sh i = true → listed.getD C false = false) → G w i (a.tmps.getD (sl i) undef)
  d1 : listed.getD A false = false → D w
  d2 : listed.getD A false = true → listed.getD n false = false → D2 w (a.tmps.getD (sl A) undef)
  d3 : listed.getD n false = true → E w
section
variable {sl : Nat → Nat} {n A F C : Nat} {sh : Nat → Bool} {ops : Array Oper} {a0 : Act} {G : World → Nat → Value → Prop} {D : World → Prop} {D2 : World → Value → Prop} {E : World → Prop} {listed : Array Bool} {a : Act} {w w' : World} {i : Nat} {v : Value}
theorem tr_setY (hr : i ∈ Region.ready .any ops listed) (hi : i < listed.size) (h : ∀ i j, waits .any ops i j = true → listed.getD i false = true → listed.getD j false = true) :
    ∀ k j, waits .any ops k j = true → (listed.setIfInBounds i true).getD k false = true → (listed.setIfInBounds i true).getD j false = true := by
  intro k j hw hk
  by_cases e : j = i
  · rw [e]; exact setB_same hi
  · rw [setB_ne e]
    by_cases e2 : k = i
    · rw [e2] at hw
      exact waits_of hr hw
    · rw [setB_ne e2] at hk
      exact h k j hw hk
theorem not_open (hr : i ∈ Region.ready .any ops listed) (h : listed.getD i false = true) : False := by
  have h1 := ready_open hr
  simp only [Array.getD_eq_getD_getElem?] at h h1
  cases hh : listed[i]? with
  | none => rw [hh] at h; cases h
  | some q => rw [hh] at h h1; simp only [Option.getD_some] at h h1; rw [h] at h1; cases h1
/-- Ahead of the append. -/
theorem Iy.put (h : Iy sl n A F C sh ops a0 G D D2 E listed a w) (hr : i ∈ Region.ready .any ops listed) (hi : i < n) (hA : i ≠ A) (hAn : A < n) (ho : listed.getD A false = false) (hn0 : listed.getD n false = false) (hlt : sl i < a0.tmps.size) (hinj : ∀ j, j < n → sl j = sl i → j = i) (hg : G w' i v)
    (hk : ∀ j u, j < n → listed.getD j false = true → (sh j = true → i ≠ C) → G w j u → G w' j u) (hd : D w') : Iy sl n A F C sh ops a0 G D D2 E (listed.setIfInBounds i true) (a.put (some (sl i)) v) w' := by
  have hsz := h.sz
  have hlz := h.lz
  refine ⟨h.df, by simpa [Act.put] using hsz, ?_, by simpa using hlz, tr_setY hr (by omega) h.tr, ?_, fun _ => hd, fun h1 _ => ?_, fun h1 => ?_⟩
  · intro k hko
    rw [← h.out k hko]
    simp only [Act.put, Array.getD_eq_getD_getElem?]
    rw [Array.getElem?_setIfInBounds_ne (hko i hi)]
  · intro j hj hl hnn hc hsh
    by_cases e : j = i
    · subst e
      simp only [Act.put, Array.getD_eq_getD_getElem?]
      rw [Array.getElem?_setIfInBounds_self_of_lt (by omega)]
      exact hg
    · rw [setB_ne e] at hl
      have h0 : sh j = true → i ≠ C ∧ listed.getD C false = false := fun hs => by
        have h2 := hsh hs
        by_cases e2 : i = C
        · rw [e2, setB_same (by rw [← e2]; omega)] at h2; cases h2
        · rw [setB_ne (fun e => e2 e.symm)] at h2; exact ⟨e2, h2⟩
      have h1 := hk j _ hj hl (fun hs => (h0 hs).1) (h.good j hj hl hn0 (Or.inl ho) (fun hs => (h0 hs).2))
      simp only [Act.put, Array.getD_eq_getD_getElem?] at h1 ⊢
      rw [Array.getElem?_setIfInBounds_ne (fun e' => e (hinj j hj e'.symm))]
      exact h1
  · rw [setB_ne (fun e => hA e.symm), ho] at h1; cases h1
  · rw [setB_ne (by omega), hn0] at h1; cases h1
/-- The one that may come behind the append. -/
theorem Iy.putF (h : Iy sl n A F C sh ops a0 G D D2 E listed a w) (hr : F ∈ Region.ready .any ops listed) (hi : F < n) (hA : F ≠ A) (hAn : A < n) (hn0 : listed.getD n false = false) (hFC : F ≠ C) (hlt : sl F < a0.tmps.size) (hinj : ∀ j, j < n → sl j = sl F → j = F) (hg : G w F v) :
    Iy sl n A F C sh ops a0 G D D2 E (listed.setIfInBounds F true) (a.put (some (sl F)) v) w := by
  have hsz := h.sz
  have hlz := h.lz
  refine ⟨h.df, by simpa [Act.put] using hsz, ?_, by simpa using hlz, tr_setY hr (by omega) h.tr, ?_, fun h1 => h.d1 (by rw [setB_ne (fun e => hA e.symm)] at h1; exact h1), fun h1 h2 => ?_, fun h1 => ?_⟩
  · intro k hko
    rw [← h.out k hko]
    simp only [Act.put, Array.getD_eq_getD_getElem?]
    rw [Array.getElem?_setIfInBounds_ne (hko F hi)]
  · intro j hj hl hnn hc hsh
    by_cases e : j = F
    · subst e
      simp only [Act.put, Array.getD_eq_getD_getElem?]
      rw [Array.getElem?_setIfInBounds_self_of_lt (by omega)]
      exact hg
    · rw [setB_ne e] at hl
      have h1 := h.good j hj hl hn0 (by
        rcases hc with hc | hc
        · left; rw [setB_ne (fun e => hA e.symm)] at hc; exact hc
        · exact absurd hc e) (fun hs => by have h2 := hsh hs; rw [setB_ne (fun e => hFC e.symm)] at h2; exact h2)
      simp only [Act.put, Array.getD_eq_getD_getElem?] at h1 ⊢
      rw [Array.getElem?_setIfInBounds_ne (fun e' => e (hinj j hj e'.symm))]
      exact h1
  · rw [setB_ne (fun e => hA e.symm)] at h1
    have h3 := h.d2 h1 hn0
    simp only [Act.put, Array.getD_eq_getD_getElem?] at h3 ⊢
    rw [Array.getElem?_setIfInBounds_ne (fun e' => hA (hinj A hAn e'.symm).symm)]
    exact h3
  · rw [setB_ne (by omega), hn0] at h1; cases h1
/-- The append. -/
theorem Iy.putA (h : Iy sl n A F C sh ops a0 G D D2 E listed a w) (hr : A ∈ Region.ready .any ops listed) (hi : A < n) (hA : F ≠ A) (hn0 : listed.getD n false = false) (hAC : A ≠ C) (hlt : sl A < a0.tmps.size) (hinj : ∀ j, j < n → sl j = sl A → j = A) (ho : listed.getD A false = false)
    (hF : ∀ u, G w F u → G w' F u) (hd : D2 w' v) : Iy sl n A F C sh ops a0 G D D2 E (listed.setIfInBounds A true) (a.put (some (sl A)) v) w' := by
  have hsz := h.sz
  have hlz := h.lz
  have hs : (listed.setIfInBounds A true).getD A false = true := setB_same (by omega)
  refine ⟨h.df, by simpa [Act.put] using hsz, ?_, by simpa using hlz, tr_setY hr (by omega) h.tr, ?_, fun h1 => (by rw [hs] at h1; cases h1), fun _ _ => ?_, fun h1 => ?_⟩
  · intro k hko
    rw [← h.out k hko]
    simp only [Act.put, Array.getD_eq_getD_getElem?]
    rw [Array.getElem?_setIfInBounds_ne (hko A hi)]
  · intro j hj hl hnn hc hsh
    rcases hc with hc | hc
    · rw [hs] at hc; cases hc
    · subst hc
      rw [setB_ne hA] at hl
      have h1 := hF _ (h.good j hj hl hn0 (Or.inr rfl) (fun hs => by have h2 := hsh hs; rw [setB_ne (fun e => hAC e.symm)] at h2; exact h2))
      simp only [Act.put, Array.getD_eq_getD_getElem?] at h1 ⊢
      rw [Array.getElem?_setIfInBounds_ne (fun e' => hA (hinj j hj e'.symm))]
      exact h1
  · simp only [Act.put, Array.getD_eq_getD_getElem?]
    rw [Array.getElem?_setIfInBounds_self_of_lt (by omega)]
    exact hd
  · rw [setB_ne (by omega), hn0] at h1; cases h1
/-- The store. -/
theorem Iy.last (h : Iy sl n A F C sh ops a0 G D D2 E listed a w) (hr : n ∈ Region.ready .any ops listed) (hi : A < n) (hl : listed.getD A false = true) {u : Value} (he : E w') : Iy sl n A F C sh ops a0 G D D2 E (listed.setIfInBounds n true) (a.put none u) w' := by
  have hlz := h.lz
  have hs : (listed.setIfInBounds n true).getD n false = true := setB_same (by omega)
  have hA' : (listed.setIfInBounds n true).getD A false = true := by rw [setB_ne (by omega)]; exact hl
  refine ⟨h.df, h.sz, h.out, by simpa using hlz, tr_setY hr (by omega) h.tr, ?_, fun h1 => (by rw [hA'] at h1; cases h1), fun _ h2 => (by rw [hs] at h2; cases h2), fun _ => he⟩
  intro j hj hl hnn hc hsh
  rw [hs] at hnn
  cases hnn
end
theorem rep_no (n j : Nat) : (Array.replicate n false).getD j false = false := by
  simp only [Array.getD_eq_getD_getElem?]
  by_cases h : j < n
  · rw [Array.getElem?_replicate, if_pos h]; rfl
  · rw [Array.getElem?_replicate, if_neg h]; rfl
theorem rep_open (n : Nat) : openOf (Array.replicate n false) ≤ n := by
  unfold openOf
  refine Nat.le_trans (List.countP_le_length ..) ?_
  simp
theorem reg_invY {P : Program} {ops : Array Oper} {Q : Exit → Act → World → Prop} {a0 : Act} {w0 : World} (sl : Nat → Nat) (n A F C : Nat) (sh : Nat → Bool) (G : World → Nat → Value → Prop) (D : World → Prop) (D2 : World → Value → Prop) (E : World → Prop)
    (hd : depsOk ops = true) (hops : ops.size = n + 1) (hD : D w0)
    (done : ∀ a y, a.defers = a0.defers → a.tmps.size = a0.tmps.size → (∀ k, (∀ i, i < n → sl i ≠ k) → a.tmps.getD k undef = a0.tmps.getD k undef) → E y → Q .normal a y)
    (step : ∀ listed x y i, Iy sl n A F C sh ops a0 G D D2 E listed x y → i ∈ Region.ready .any ops listed → i < n + 1 → wpOp P ops Q i (Iy sl n A F C sh ops a0 G D D2 E (listed.setIfInBounds i true)) x y) :
    wpAny P .any ops Q ops.size (Array.replicate ops.size false) a0 w0 := by
  refine wpAny_inv (Iy sl n A F C sh ops a0 G D D2 E) (fun listed x y i hI hi => step listed x y i hI hi (by have := List.mem_range.1 (List.mem_filter.1 hi).1; omega)) ?_ _ _ _ _ (rep_open _) ?_
  · intro listed x y hI hr
    have hall := all_listed hd hr (by rw [hI.lz, hops])
    exact done x y hI.df hI.sz hI.out (hI.d3 (hall n (by omega)))
  · refine ⟨rfl, rfl, fun _ _ => rfl, by simp [hops], ?_, ?_, fun _ => hD, ?_, ?_⟩
    · intro i j _ h
      rw [rep_no] at h; cases h
    · intro i _ h
      rw [rep_no] at h; cases h
    · intro h
      rw [rep_no] at h; cases h
    · intro h
      rw [rep_no] at h; cases h
end Go.Proofs.YtgakmkhbnjofhaaGreatDoor
