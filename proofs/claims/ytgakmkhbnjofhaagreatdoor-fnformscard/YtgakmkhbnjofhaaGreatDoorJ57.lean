import Derived.Test.YtgakmkhbnjofhaaGreatDoorJ56
/- The program reads a want. -/
namespace Go.Proofs.YtgakmkhbnjofhaaGreatDoor
open Go.RowKit
set_option linter.unusedVariables false

theorem Ex.setAny {b bw j : Nat} {y z : World} (h : Ex b y z) (hw : y.heap.size ≤ bw) (u : Value) : Ex b y (z.setCell ⟨bw, j, none⟩ u) :=
  ⟨h.os, h.tape, h.output, by have := h.size; simpa using this, fun k hk hne => (heap_setCell_other z ⟨bw, j, none⟩ k u (fun e => by have e2 : k = bw := e; omega)).trans (h.block k hk hne)⟩
theorem Ex.allocR {b : Nat} {y z : World} (h : Ex b y z) (o : Obj) : Ex b y (z.alloc o) := h.trans (Ex.of_below (bl_alloc (Below.refl _ _) _))
theorem nextAtE {W : World} {b : Nat} {l : List UInt8} {n : Nat} {y : World} (x : ByteArray) (hx : wdI l n = x) (h : At W b l n y) (hE : Env W) :
    Calls Tryz.prog 154 #[.pointer (some ⟨b, 0, none⟩)] y fun e y' => e = .returned (.string x) ∧ At W b l (n + 1) y' ∧ Ex b y y' := by subst hx; exact nextAt h hE
theorem numberAtE {W : World} {b : Nat} {l : List UInt8} {n : Nat} {y : World} (v : Int) (hv : numI (wdI l n) = v) (h : At W b l n y) (hE : Env W) (hl : l.length ≤ 1048576) :
    Calls Tryz.prog 88 #[.iface 97 (.pointer (some ⟨b, 0, none⟩))] y fun e y' => e = .returned (.int .i64 v) ∧ At W b l (n + 1) y' ∧ Ex b y y' := by subst hv; exact numberAt h hE hl
theorem holdOfE (x r : ByteArray) (hr : holdR x = r) (w : World) : Calls Tryz.prog 89 #[.string x] w fun e w' => e = .returned (.string r) ∧ w' = w := by subst hr; exact holdOf_any x w
def wcells (r : W.WantD) : Array Value := #[.string r.c, .int .i64 r.v, .string r.h, .int .i64 r.p, .int .i64 r.s, .int .i64 r.d, .int .i64 r.g]
set_option maxRecDepth 4000 in
set_option maxHeartbeats 4000000 in
theorem readWant_at {W : World} {b : Nat} {l : List UInt8} {y : World} (h : At W b l 0 y) (hE : Env W) (hl : l.length ≤ 1048576) :
    Calls Tryz.prog 57 #[.iface 97 (.pointer (some ⟨b, 0, none⟩))] y fun e y' => e = .returned (.agg (wcells (wantI l))) ∧ Ex b y y' := by
  obtain ⟨x0, g0⟩ : ∃ x, wdI l 0 = x := ⟨_, rfl⟩
  obtain ⟨x1, g1⟩ : ∃ x, wdI l 1 = x := ⟨_, rfl⟩
  obtain ⟨x2, g2⟩ : ∃ x, numI (wdI l 2) = x := ⟨_, rfl⟩
  obtain ⟨x3, g3⟩ : ∃ x, wdI l 3 = x := ⟨_, rfl⟩
  obtain ⟨xh, gh⟩ : ∃ x, holdR x3 = x := ⟨_, rfl⟩
  obtain ⟨x4, g4⟩ : ∃ x, numI (wdI l 4) = x := ⟨_, rfl⟩
  obtain ⟨x5, g5⟩ : ∃ x, numI (wdI l 5) = x := ⟨_, rfl⟩
  obtain ⟨x6, g6⟩ : ∃ x, numI (wdI l 6) = x := ⟨_, rfl⟩
  obtain ⟨x7, g7⟩ : ∃ x, numI (wdI l 7) = x := ⟨_, rfl⟩
  have HW : Hid (wcells (wantI l) = #[.string x1, .int .i64 x2, .string xh, .int .i64 x4, .int .i64 x5, .int .i64 x6, .int .i64 x7]) := by rw [← g1, ← g2, ← gh, ← g3, ← g4, ← g5, ← g6, ← g7]; rfl
  have G0 : Hid (wdI l 0 = x0) := g0
  have G1 : Hid (wdI l 1 = x1) := g1
  have G2 : Hid (numI (wdI l 2) = x2) := g2
  have G3 : Hid (wdI l 3 = x3) := g3
  have GH : Hid (holdR x3 = xh) := gh
  have G4 : Hid (numI (wdI l 4) = x4) := g4
  have G5 : Hid (numI (wdI l 5) = x5) := g5
  have G6 : Hid (numI (wdI l 6) = x6) := g6
  have G7 : Hid (numI (wdI l 7) = x7) := g7
  clear g0 g1 g2 g3 gh g4 g5 g6 g7
  obtain ⟨y0, hy0⟩ : ∃ y0, y0 = y.alloc (.cells #[.string { data := #[] }, .int .i64 0, .string { data := #[] }, .int .i64 0, .int .i64 0, .int .i64 0, .int .i64 0] 46) := ⟨_, rfl⟩
  have HY0 : Hid (y0 = y.alloc (.cells #[.string { data := #[] }, .int .i64 0, .string { data := #[] }, .int .i64 0, .int .i64 0, .int .i64 0, .int .i64 0] 46)) := hy0
  have H0 : Hid (At W b l 0 y0) := by rw [hy0]; exact h.keep (bl_alloc (Below.refl _ _) _)
  have X0 : Hid (Ex b y0 y0) := Ex.refl _ _
  have HE : Hid (Env W) := hE
  have HLn : Hid (l.length ≤ 1048576) := hl
  have HZ : Hid (b < y.heap.size) := h.s.z
  have hm := meth_spaced
  clear h hE hl hy0
  go_enter Tryz.func57, Tryz.ntmps57
  go_wp2_with fail
  rw [← HY0.out]
  refine (nextAtE (n := 0) x0 G0.out H0.out HE.out).mono ?_
  rintro e y1 ⟨rfl, h1, h2⟩
  have H1 : Hid (At W b l 1 y1) := h1
  have X1 : Hid (Ex b y0 y1) := X0.out.trans h2
  clear h1 h2
  go_wp2_with fail
  refine (nextAtE (n := 1) x1 G1.out H1.out HE.out).mono ?_
  rintro e y2 ⟨rfl, h1, h2⟩
  have H2 : Hid (At W b l 2 y2) := h1
  have X2 : Hid (Ex b y0 y2) := X1.out.trans h2
  clear h1 h2
  go_wp2_with fail
  refine (numberAtE (n := 2) x2 G2.out H2.out HE.out HLn.out).mono ?_
  rintro e y3 ⟨rfl, h1, h2⟩
  have H3 : Hid (At W b l 3 y3) := h1
  have X3 : Hid (Ex b y0 y3) := X2.out.trans h2
  clear h1 h2
  go_wp2_with fail
  refine (nextAtE (n := 3) x3 G3.out H3.out HE.out).mono ?_
  rintro e y4 ⟨rfl, h1, h2⟩
  have H4 : Hid (At W b l 4 y4) := h1
  have X4 : Hid (Ex b y0 y4) := X3.out.trans h2
  clear h1 h2
  go_wp2_with fail
  refine (holdOfE x3 xh GH.out _).mono ?_
  rintro e w' ⟨rfl, rfl⟩
  obtain ⟨y5, hy5⟩ : ∃ y5, y5 = w'.alloc (.cells #[.string x1, .int .i64 x2, .string xh, .int .i64 0, .int .i64 0, .int .i64 0, .int .i64 0] 46) := ⟨_, rfl⟩
  have HY5 : Hid (y5 = w'.alloc (.cells #[.string x1, .int .i64 x2, .string xh, .int .i64 0, .int .i64 0, .int .i64 0, .int .i64 0] 46)) := hy5
  have B5 : Hid (Below w'.heap.size w' y5) := by rw [hy5]; exact bl_alloc (Below.refl _ _) _
  have H5 : Hid (At W b l 4 y5) := H4.out.keep B5.out
  have X5 : Hid (Ex b y0 y5) := X4.out.trans (Ex.of_below B5.out)
  have XX : Hid (Ex b y5 y5) := Ex.refl _ _
  have Z5 : Hid (b < w'.heap.size) := H4.out.s.z
  have Z6 : Hid (y0.heap.size ≤ w'.heap.size) := X4.out.size
  clear hy5
  go_wp2_with fail
  rw [← HY5.out]
  refine (numberAtE (n := 4) x4 G4.out H5.out HE.out HLn.out).mono ?_
  rintro e y6 ⟨rfl, h1, h2⟩
  have H6 : Hid (At W b l 5 y6) := h1
  have X6 : Hid (Ex b y5 y6) := XX.out.trans h2
  clear h1 h2
  go_wp2_with fail
  refine (numberAtE (n := 5) x5 G5.out H6.out HE.out HLn.out).mono ?_
  rintro e y7 ⟨rfl, h1, h2⟩
  have H7 : Hid (At W b l 6 y7) := h1
  have X7 : Hid (Ex b y5 y7) := X6.out.trans h2
  clear h1 h2
  go_wp2_with fail
  refine (numberAtE (n := 6) x6 G6.out H7.out HE.out HLn.out).mono ?_
  rintro e y8 ⟨rfl, h1, h2⟩
  have H8 : Hid (At W b l 7 y8) := h1
  have X8 : Hid (Ex b y5 y8) := X7.out.trans h2
  clear h1 h2
  go_wp2_with fail
  refine (numberAtE (n := 7) x7 G7.out H8.out HE.out HLn.out).mono ?_
  rintro e y9 ⟨rfl, h1, h2⟩
  have X9 : Hid (Ex b y5 y9) := X8.out.trans h2
  clear h1 h2
  have kc : ∀ k, y9.cell? ⟨w'.heap.size, k, none⟩ = (#[.string x1, .int .i64 x2, .string xh, .int .i64 0, .int .i64 0, .int .i64 0, .int .i64 0] : Array Value)[k]? := fun k => by
    have z := Z5.out
    rw [X9.out.cell (p := ⟨w'.heap.size, k, none⟩) (by rw [HY5.out]; simp) (by show w'.heap.size ≠ b; omega), HY5.out, World.cell?_alloc_new]
  have kf : ∀ k, y9.frozen? ⟨w'.heap.size, k, none⟩ = false := fun k => by
    have z := Z5.out
    rw [X9.out.frozen (p := ⟨w'.heap.size, k, none⟩) (by rw [HY5.out]; simp) (by show w'.heap.size ≠ b; omega), HY5.out]
    simp [go_sem]
  have kz : w'.heap.size < y9.heap.size := Nat.lt_of_lt_of_le (by rw [HY5.out]; simp) X9.out.size
  have XA : Hid (Ex b y0 ((((y9.setCell ⟨w'.heap.size, 3, none⟩ (.int .i64 x4)).setCell ⟨w'.heap.size, 4, none⟩ (.int .i64 x5)).setCell ⟨w'.heap.size, 5, none⟩ (.int .i64 x6)).setCell ⟨w'.heap.size, 6, none⟩ (.int .i64 x7))) := ((((X5.out.trans X9.out).setAny Z6.out _).setAny Z6.out _).setAny Z6.out _).setAny Z6.out _
  obtain ⟨Q1, Q2, Q3, Q4⟩ := box_ex (cs := #[.string x1, .int .i64 x2, .string xh, .int .i64 x4, .int .i64 x5, .int .i64 x6, .int .i64 x7]) HZ.out (HY0.out ▸ XA.out)
  go_wp2_with (refine wpList_store_row (by rfl) 46 _ _ (by rfl) y.heap.size #[.string x1, .int .i64 x2, .string xh, .int .i64 x4, .int .i64 x5, .int .i64 x6, .int .i64 x7] (by rfl) (by rfl) 46 #[.string { data := #[] }, .int .i64 0, .string { data := #[] }, .int .i64 0, .int .i64 0, .int .i64 0, .int .i64 0] Q1.out (by kernel_rfl) rfl (by simp [Value.oneCell']) ?_)
  have s0 := Q3.out 0; have s1 := Q3.out 1; have s2 := Q3.out 2; have s3 := Q3.out 3; have s4 := Q3.out 4; have s5 := Q3.out 5; have s6 := Q3.out 6
  exact bodyPost_ret (v := .agg #[.string x1, .int .i64 x2, .string xh, .int .i64 x4, .int .i64 x5, .int .i64 x6, .int .i64 x7]) (by simp [results, Tryz.results57, go_sem, s0, s1, s2, s3, s4, s5, s6]) rfl ⟨by rw [HW.out], Q2.out⟩
end Go.Proofs.YtgakmkhbnjofhaaGreatDoor
