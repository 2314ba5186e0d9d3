import Derived.Test.YtgakmkhbnjofhaaGreatDoorJ18
import Derived.Test.YtgakmkhbnjofhaaGreatDoorShelfB
import Derived.Test.YtgakmkhbnjofhaaGreatDoorJ14
import Derived.Test.YtgakmkhbnjofhaaGreatDoorJ01
import Derived.Laws.Pointers
import Derived.Test.YtgakmkhbnjofhaaGreatDoorJ28
namespace Go.Proofs.YtgakmkhbnjofhaaGreatDoor
open Go.RowKit
set_option linter.unusedVariables false
structure Env (w : World) : Prop where
 e0 : ∃ ev, w.cell? ⟨2, 0, none⟩ = some ev ∧ (ev = .nilIface ∨ ∃ te pe, ev = .iface te pe)
 e1 : ∃ ev, w.cell? ⟨3, 0, none⟩ = some ev ∧ (ev = .nilIface ∨ ∃ te pe, ev = .iface te pe)
 e2 : ∃ m, w.cell? ⟨0, 0, none⟩ = some (.int .i64 m)
 tab : Tab w
 z : 3 < w.heap.size
theorem Env.keep {w w' : World} (h : Env w) (hb : Below w.heap.size w w') : Env w' := by
 have hz := h.z
 refine ⟨?_, ?_, ?_, h.tab.keep hb, Nat.lt_of_lt_of_le hz hb.size⟩
 ·
  obtain ⟨ev, h1, h2⟩ := h.e0
  exact ⟨ev, (hb.cell (p := ⟨2, 0, none⟩) (by show 2 < _; omega)).trans h1, h2⟩
 ·
  obtain ⟨ev, h1, h2⟩ := h.e1
  exact ⟨ev, (hb.cell (p := ⟨3, 0, none⟩) (by show 3 < _; omega)).trans h1, h2⟩
 ·
  obtain ⟨m, h1⟩ := h.e2
  exact ⟨m, (hb.cell (p := ⟨0, 0, none⟩) (by show 0 < _; omega)).trans h1⟩
structure Sp (b : Nat) (r : List UInt8) (w : World) : Prop where
 c : w.cell? ⟨b, 0, none⟩ = some (.string (wd r))
 f : w.frozen? ⟨b, 0, none⟩ = false
 z : b < w.heap.size
 l : r.length ≤ 1048576
theorem Sp.keep {b : Nat} {r : List UInt8} {w w' : World} (h : Sp b r w) (hb : Below w.heap.size w w') : Sp b r w' :=
 ⟨(hb.cell (p := ⟨b, 0, none⟩) h.z).trans h.c, (hb.frozen (p := ⟨b, 0, none⟩) h.z).trans h.f, Nat.lt_of_lt_of_le h.z hb.size, h.l⟩
theorem Sp.drew {b : Nat} {r : List UInt8} {w : World} (h : Sp b r w) (n : Nat) : Sp b r (w.drewN n) := ⟨h.c, h.f, h.z, h.l⟩
theorem Sp.put {b : Nat} {r q : List UInt8} {w : World} (h : Sp b r w) (hq : q.length ≤ 1048576) : Sp b q (w.setCell ⟨b, 0, none⟩ (.string (wd q))) :=
 ⟨World.cell?_setCell_same _ _ _ h.c, by rw [World.frozen?_setCell]; exact h.f, by have := h.z; simpa using this, hq⟩
theorem cut_len (r : List UInt8) (sep : List UInt8) : (Lib.cut r sep).1.length ≤ r.length ∧ (Lib.cut r sep).2.1.length ≤ r.length := by
 unfold Lib.cut
 split
 ·
  constructor
  ·
   exact List.length_take_le' ..
  ·
   simp
 ·
  simp
theorem nxS_len (r : List UInt8) : (nxS r).1.length ≤ r.length ∧ (nxS r).2.length ≤ r.length := cut_len r [32]
theorem nxE_len (r : List UInt8) : (nxE r).1.length ≤ r.length ∧ (nxE r).2.length ≤ r.length := by
 unfold nxE
 split
 ·
  exact cut_len r [10]
 ·
  simp
theorem nxW_len (l : List UInt8) : ∀ n, (nxW l n).length ≤ l.length
 | 0 => Nat.le_refl _
 | n + 1 => Nat.le_trans (nxS_len _).2 (nxW_len l n)
theorem wdI_size (l : List UInt8) (n : Nat) : (wdI l n).size ≤ l.length := by
 unfold wdI
 rw [size_data, wd_list]
 exact Nat.le_trans (nxS_len _).1 (nxW_len l n)
theorem cut_call (r : List UInt8) (sep : ByteArray) (w : World) (hE : Env w) (hl : r.length ≤ 1048576) :
  Calls Tryz.prog 145 #[.string (wd r), .string sep] w fun e w' => e = .returned (.tuple #[.string (wd (Lib.cut r sep.data.toList).1), .string (wd (Lib.cut r sep.data.toList).2.1), .bool (Lib.cut r sep.data.toList).2.2]) ∧ ∃ n, w' = w.drewN n := by
 obtain ⟨m, hm⟩ := hE.e2
 have hz : (wd r).size < 4294967281 := by rw [size_data, wd_list]; omega
 refine (Tryz.strings_Cut (wd r) sep m w hz hm).mono ?_
 rintro e w' ⟨rfl, n, rfl⟩
 refine ⟨?_, n, rfl⟩
 rw [wd_list]
 rfl
set_option maxRecDepth 4000 in
set_option maxHeartbeats 1000000 in
theorem spacedNext (b : Nat) (r : List UInt8) (w : World) (hS : Sp b r w) (hE : Env w) :
  Calls Tryz.prog 154 #[.pointer (some ⟨b, 0, none⟩)] w fun e w' => e = .returned (.string (wd (nxS r).1)) ∧ Sp b (nxS r).2 w' ∧ Ex b w w' := by
 have HS : Hid (Sp b r w) := hS
 have HE : Hid (Env w) := hE
 have c0 := hS.c
 have f0 := hS.f
 have z0 := hS.z
 obtain ⟨A, hA⟩ : ∃ A, A = wd (nxS r).1 := ⟨_, rfl⟩
 obtain ⟨B, hB⟩ : ∃ B, B = wd (nxS r).2 := ⟨_, rfl⟩
 obtain ⟨R, hR⟩ : ∃ R, R = wd r := ⟨_, rfl⟩
 have HA : Hid (A = wd (nxS r).1) := hA
 have HB : Hid (B = wd (nxS r).2) := hB
 have HR : Hid (R = wd r) := hR
 rw [← hR] at c0
 rw [← hA]
 clear hA hB hR hS hE
 go_enter Tryz.func154, Tryz.ntmps154
 go_wp2_with (go_at_call 145; rw [HR.out]; refine (cut_call r { data := #[32] } _ HE.out HS.out.l).mono ?_; rintro e w' ⟨rfl, n, rfl⟩; rw [show wd (Lib.cut r ({ data := #[32] } : ByteArray).data.toList).1 = A from HA.out.symm, show wd (Lib.cut r ({ data := #[32] } : ByteArray).data.toList).2.1 = B from HB.out.symm])
 go_ret
 exact ⟨rfl, by rw [HB.out]; exact (Sp.drew HS.out n).put (Nat.le_trans (nxS_len r).2 HS.out.l), ((Ex.refl b w).drewN n).set 0 _⟩
set_option maxHeartbeats 1000000 in
theorem endedNext (b : Nat) (r : List UInt8) (w : World) (hS : Sp b r w) (hE : Env w) :
  Calls Tryz.prog 144 #[.pointer (some ⟨b, 0, none⟩)] w fun e w' => e = .returned (.string (wd (nxE r).1)) ∧ Sp b (nxE r).2 w' ∧ Ex b w w' := by
 have HS : Hid (Sp b r w) := hS
 have HE : Hid (Env w) := hE
 have c0 := hS.c
 have f0 := hS.f
 have z0 := hS.z
 obtain ⟨R, hR⟩ : ∃ R, R = wd r := ⟨_, rfl⟩
 have HR : Hid (R = wd r) := hR
 rw [← hR] at c0
 clear hR hS hE
 cases hq : (Lib.cut r [10]).2.2
 ·
  have e1 : nxE r = ([], r) := by unfold nxE; rw [if_neg (by rw [hq]; simp)]
  rw [e1]
  have HQ : Hid ((Lib.cut r [10]).2.2 = false) := hq
  clear hq e1
  go_enter Tryz.func144, Tryz.ntmps144
  go_wp2_with (go_at_call 145; rw [HR.out]; refine (cut_call r { data := #[10] } _ HE.out HS.out.l).mono ?_; rintro e w' ⟨rfl, n, rfl⟩; rw [show (Lib.cut r ({ data := #[10] } : ByteArray).data.toList).2.2 = false from HQ.out])
  go_ret
  exact ⟨rfl, Sp.drew HS.out n, (Ex.refl b w).drewN n⟩
 ·
  have e1 : nxE r = ((Lib.cut r [10]).1, (Lib.cut r [10]).2.1) := by unfold nxE; rw [if_pos hq]
  have hl := (nxE_len r).2
  rw [e1] at hl ⊢
  have HQ : Hid ((Lib.cut r [10]).2.2 = true) := hq
  have HLn : Hid ((Lib.cut r [10]).2.1.length ≤ r.length) := hl
  obtain ⟨A, hA⟩ : ∃ A, A = wd (Lib.cut r [10]).1 := ⟨_, rfl⟩
  obtain ⟨B, hB⟩ : ∃ B, B = wd (Lib.cut r [10]).2.1 := ⟨_, rfl⟩
  have HA : Hid (A = wd (Lib.cut r [10]).1) := hA
  have HB : Hid (B = wd (Lib.cut r [10]).2.1) := hB
  rw [← hA]
  clear hq e1 hA hB hl
  go_enter Tryz.func144, Tryz.ntmps144
  go_wp2_with (go_at_call 145; rw [HR.out]; refine (cut_call r { data := #[10] } _ HE.out HS.out.l).mono ?_; rintro e w' ⟨rfl, n, rfl⟩; rw [show (Lib.cut r ({ data := #[10] } : ByteArray).data.toList).2.2 = true from HQ.out, show wd (Lib.cut r ({ data := #[10] } : ByteArray).data.toList).1 = A from HA.out.symm, show wd (Lib.cut r ({ data := #[10] } : ByteArray).data.toList).2.1 = B from HB.out.symm])
  go_ret
  exact ⟨rfl, by rw [HB.out]; exact (Sp.drew HS.out n).put (Nat.le_trans HLn.out HS.out.l), ((Ex.refl b w).drewN n).set 0 _⟩
theorem atoi_call (x : ByteArray) (w : World) (hE : Env w) (hl : x.size ≤ 1048576) :
  Calls Tryz.prog 103 #[.string x] w fun e w' => (∃ ev, e = .returned (.tuple #[.int .i64 (numI x), ev])) ∧ Below w.heap.size w w' := by
 cases h : Lib.atoiAll x.data.toList with
 | ok v =>
  have e1 : numI x = v := by unfold numI; rw [h]
  rw [e1]
  refine (Tryz.strconv_Atoi_ok x (by omega) v h w).mono ?_
  rintro e w' ⟨rfl, rfl | ⟨t, rfl⟩⟩
  ·
   exact ⟨⟨_, rfl⟩, Below.refl _ _⟩
  ·
   exact ⟨⟨_, rfl⟩, Go.Joins.below_bytesWorld _ _ _ _ (Nat.le_refl _)⟩
 | «syntax» =>
  have e1 : numI x = 0 := by unfold numI; rw [h]
  rw [e1]
  obtain ⟨ev, h1, h2⟩ := hE.e0
  refine (Tryz.strconv_Atoi_syntax x (by omega) h ev w h1 h2).mono ?_
  rintro e w' ⟨N, rfl, -, -, hb⟩
  exact ⟨⟨_, rfl⟩, hb⟩
 | range =>
  have e1 : numI x = Lib.atoiSat x.data.toList := by unfold numI; rw [h]
  rw [e1]
  obtain ⟨ev, h1, h2⟩ := hE.e1
  refine (Tryz.strconv_Atoi_range x (by omega) h ev w h1 h2).mono ?_
  rintro e w' ⟨N, rfl, -, -, hb⟩
  exact ⟨⟨_, rfl⟩, hb⟩
theorem meth_spaced (v : Value) (y : World) : Sem.run Tryz.prog (method 274 97 v "loop.example/wharfmate/impl.next") y = .ok (154, v) y := by kernel_rfl
theorem meth_ended (v : Value) (y : World) : Sem.run Tryz.prog (method 274 57 v "loop.example/wharfmate/impl.next") y = .ok (144, v) y := by kernel_rfl
structure At (W : World) (b : Nat) (l : List UInt8) (n : Nat) (y : World) : Prop where
 s : Sp b (nxW l n) y
 e : Below W.heap.size W y
 w : W.heap.size ≤ b
theorem At.env {W : World} {b : Nat} {l : List UInt8} {n : Nat} {y : World} (h : At W b l n y) (hE : Env W) : Env y := hE.keep h.e
theorem At.next {W : World} {b : Nat} {l : List UInt8} {n : Nat} {y y' : World} (h : At W b l n y) (hS : Sp b (nxS (nxW l n)).2 y') (hx : Ex b y y') : At W b l (n + 1) y' :=
 ⟨hS, h.e.trans (hx.below h.w h.e.size), h.w⟩
theorem At.keep {W : World} {b : Nat} {l : List UInt8} {n : Nat} {y y' : World} (h : At W b l n y) (hb : Below y.heap.size y y') : At W b l n y' := ⟨h.s.keep hb, bl_trans h.e hb, h.w⟩
theorem nextAt {W : World} {b : Nat} {l : List UInt8} {n : Nat} {y : World} (h : At W b l n y) (hE : Env W) :
  Calls Tryz.prog 154 #[.pointer (some ⟨b, 0, none⟩)] y fun e y' => e = .returned (.string (wdI l n)) ∧ At W b l (n + 1) y' ∧ Ex b y y' := by
 refine (spacedNext b (nxW l n) y h.s (h.env hE)).mono ?_
 rintro e y' ⟨rfl, h1, h2⟩
 exact ⟨rfl, h.next h1 h2, h2⟩
set_option maxRecDepth 4000 in
set_option maxHeartbeats 1000000 in
theorem numberAt {W : World} {b : Nat} {l : List UInt8} {n : Nat} {y : World} (h : At W b l n y) (hE : Env W) (hl : l.length ≤ 1048576) :
  Calls Tryz.prog 88 #[.iface 97 (.pointer (some ⟨b, 0, none⟩))] y fun e y' => e = .returned (.int .i64 (numI (wdI l n))) ∧ At W b l (n + 1) y' ∧ Ex b y y' := by
 have H : Hid (At W b l n y) := h
 have HE : Hid (Env W) := hE
 have HZ : Hid ((wdI l n).size ≤ 1048576) := Nat.le_trans (wdI_size l n) hl
 have hm := meth_spaced
 clear h hE
 go_enter Tryz.func88, Tryz.ntmps88
 go_wp2_with (first | (go_at_call 154; refine (nextAt H.out HE.out).mono ?_; rintro e y1 ⟨rfl, h1, h2⟩; have H1 : Hid (At W b l (n + 1) y1) := h1; have X1 : Hid (Ex b y y1) := h2; clear h1 h2) | (go_at_call 103; refine (atoi_call _ _ (H1.out.env HE.out) HZ.out).mono ?_; rintro e y2 ⟨⟨ev, rfl⟩, b2⟩; have H2 : Hid (At W b l (n + 1) y2) := H1.out.keep b2; have X2 : Hid (Ex b y y2) := X1.out.trans (Ex.of_below b2); clear b2))
 go_ret
 exact ⟨rfl, H2.out, X2.out⟩
theorem box_ex {b : Nat} {y y' : World} {cs old : Array Value} {t : TypeId} (hb : b < y.heap.size) (h : Ex b (y.alloc (.cells old t)) y') :
  Hid (y'.heap[y.heap.size]? = some (.cells old t (0, 0))) ∧ Hid (Ex b y (y'.setRow y.heap.size cs)) ∧ Hid (∀ j, (y'.setRow y.heap.size cs).cell? ⟨y.heap.size, j, none⟩ = cs[j]?) ∧ y.heap.size < y'.heap.size := by
 have h1 : y'.heap[y.heap.size]? = some (.cells old t (0, 0)) := (h.block y.heap.size (by simp) (by omega)).trans (heap_alloc_new y _)
 have h2 := setRow_heap y' y.heap.size old cs t _ h1
 have hz : y.heap.size < y'.heap.size := Nat.lt_of_lt_of_le (by simp) h.size
 refine ⟨h1, ⟨h.os, h.tape, h.output, ?_, fun k hk hne => ?_⟩, fun j => ?_, hz⟩
 ·
  have := h.size
  simp at this ⊢
  omega
 ·
  rw [setRow_other y' y.heap.size k cs (by omega), h.block k (by simp; omega) hne]
  exact (bl_alloc (Below.refl y.heap.size y) _).block k hk
 ·
  show _ = _
  rw [cell_of_row _ _ j cs t (0, 0) h2]
set_option maxRecDepth 4000 in
set_option maxHeartbeats 4000000 in
theorem readSeen_at {W : World} {b : Nat} {l : List UInt8} {y : World} (h : At W b l 1 y) (hE : Env W) (hl : l.length ≤ 1048576) :
  Calls Tryz.prog 75 #[.iface 97 (.pointer (some ⟨b, 0, none⟩))] y fun e y' => e = .returned (.agg #[.int .i64 0, .string (wdI l 1), .int .i64 (numI (wdI l 2)), .slice none 0 0, .string ⟨#[]⟩, .string ⟨#[]⟩, .int .i64 0]) ∧ Ex b y y' := by
 obtain ⟨y0, hy0⟩ : ∃ y0, y0 = y.alloc (.cells #[.int .i64 0, .string ⟨#[]⟩, .int .i64 0, .slice none 0 0, .string ⟨#[]⟩, .string ⟨#[]⟩, .int .i64 0] 25) := ⟨_, rfl⟩
 have HY0 : Hid (y0 = y.alloc (.cells #[.int .i64 0, .string ⟨#[]⟩, .int .i64 0, .slice none 0 0, .string ⟨#[]⟩, .string ⟨#[]⟩, .int .i64 0] 25)) := hy0
 have H0 : Hid (At W b l 1 y0) := by rw [hy0]; exact h.keep (bl_alloc (Below.refl _ _) _)
 have X0 : Hid (Ex b y0 y0) := Ex.refl _ _
 have HE : Hid (Env W) := hE
 have HLn : Hid (l.length ≤ 1048576) := hl
 have HZ : Hid (b < y.heap.size) := h.s.z
 have hm := meth_spaced
 clear h hE hl hy0
 go_enter Tryz.func75, Tryz.ntmps75
 go_wp2_with fail
 rw [← HY0.out]
 refine (nextAt (n := 1) H0.out HE.out).mono ?_
 rintro e y1 ⟨rfl, h1, h2⟩
 have H1 : Hid (At W b l 2 y1) := h1
 have X1 : Hid (Ex b y0 y1) := X0.out.trans h2
 clear h1 h2
 go_wp2_with fail
 refine (numberAt (n := 2) H1.out HE.out HLn.out).mono ?_
 rintro e y2 ⟨rfl, h1, h2⟩
 have H2 : Hid (At W b l 3 y2) := h1
 have X2 : Hid (Ex b y0 y2) := X1.out.trans h2
 clear h1 h2
 obtain ⟨Q1, Q2, Q3, Q4⟩ := box_ex (cs := #[.int .i64 0, .string (wdI l 1), .int .i64 (numI (wdI l 2)), .slice none 0 0, .string ⟨#[]⟩, .string ⟨#[]⟩, .int .i64 0]) HZ.out (HY0.out ▸ X2.out)
 go_wp2_with (refine wpList_store_row (by rfl) 25 _ _ (by rfl) y.heap.size #[.int .i64 0, .string (wdI l 1), .int .i64 (numI (wdI l 2)), .slice none 0 0, .string ⟨#[]⟩, .string ⟨#[]⟩, .int .i64 0] (by rfl) (by rfl) 25 #[.int .i64 0, .string ⟨#[]⟩, .int .i64 0, .slice none 0 0, .string ⟨#[]⟩, .string ⟨#[]⟩, .int .i64 0] Q1.out (by kernel_rfl) rfl (by simp [Value.oneCell']) ?_)
 have s0 := Q3.out 0; have s1 := Q3.out 1; have s2 := Q3.out 2; have s3 := Q3.out 3; have s4 := Q3.out 4; have s5 := Q3.out 5; have s6 := Q3.out 6
 exact bodyPost_ret (v := .agg #[.int .i64 0, .string (wdI l 1), .int .i64 (numI (wdI l 2)), .slice none 0 0, .string ⟨#[]⟩, .string ⟨#[]⟩, .int .i64 0]) (by simp [results, Tryz.results75, go_sem, s0, s1, s2, s3, s4, s5, s6]) rfl ⟨rfl, Q2.out⟩
set_option maxRecDepth 4000 in
set_option maxHeartbeats 4000000 in
theorem readHold_at {W : World} {b : Nat} {l : List UInt8} {y : World} (h : At W b l 1 y) (hE : Env W) (hl : l.length ≤ 1048576) :
  Calls Tryz.prog 78 #[.iface 97 (.pointer (some ⟨b, 0, none⟩))] y fun e y' => e = .returned (.agg #[.int .i64 0, .string (wdI l 1), .int .i64 0, .slice none 0 0, .string (wdI l 2), .string (wdI l 3), .int .i64 (numI (wdI l 4))]) ∧ Ex b y y' := by
 obtain ⟨y0, hy0⟩ : ∃ y0, y0 = y.alloc (.cells #[.int .i64 0, .string ⟨#[]⟩, .int .i64 0, .slice none 0 0, .string ⟨#[]⟩, .string ⟨#[]⟩, .int .i64 0] 25) := ⟨_, rfl⟩
 have HY0 : Hid (y0 = y.alloc (.cells #[.int .i64 0, .string ⟨#[]⟩, .int .i64 0, .slice none 0 0, .string ⟨#[]⟩, .string ⟨#[]⟩, .int .i64 0] 25)) := hy0
 have H0 : Hid (At W b l 1 y0) := by rw [hy0]; exact h.keep (bl_alloc (Below.refl _ _) _)
 have X0 : Hid (Ex b y0 y0) := Ex.refl _ _
 have HE : Hid (Env W) := hE
 have HLn : Hid (l.length ≤ 1048576) := hl
 have HZ : Hid (b < y.heap.size) := h.s.z
 have hm := meth_spaced
 clear h hE hl hy0
 go_enter Tryz.func78, Tryz.ntmps78
 go_wp2_with fail
 rw [← HY0.out]
 refine (nextAt (n := 1) H0.out HE.out).mono ?_
 rintro e y1 ⟨rfl, h1, h2⟩
 have H1 : Hid (At W b l 2 y1) := h1
 have X1 : Hid (Ex b y0 y1) := X0.out.trans h2
 clear h1 h2
 go_wp2_with fail
 refine (nextAt (n := 2) H1.out HE.out).mono ?_
 rintro e y2 ⟨rfl, h1, h2⟩
 have H2 : Hid (At W b l 3 y2) := h1
 have X2 : Hid (Ex b y0 y2) := X1.out.trans h2
 clear h1 h2
 go_wp2_with fail
 refine (nextAt (n := 3) H2.out HE.out).mono ?_
 rintro e y3 ⟨rfl, h1, h2⟩
 have H3 : Hid (At W b l 4 y3) := h1
 have X3 : Hid (Ex b y0 y3) := X2.out.trans h2
 clear h1 h2
 go_wp2_with fail
 refine (numberAt (n := 4) H3.out HE.out HLn.out).mono ?_
 rintro e y4 ⟨rfl, h1, h2⟩
 have H4 : Hid (At W b l 5 y4) := h1
 have X4 : Hid (Ex b y0 y4) := X3.out.trans h2
 clear h1 h2
 obtain ⟨Q1, Q2, Q3, Q4⟩ := box_ex (cs := #[.int .i64 0, .string (wdI l 1), .int .i64 0, .slice none 0 0, .string (wdI l 2), .string (wdI l 3), .int .i64 (numI (wdI l 4))]) HZ.out (HY0.out ▸ X4.out)
 go_wp2_with (refine wpList_store_row (by rfl) 25 _ _ (by rfl) y.heap.size #[.int .i64 0, .string (wdI l 1), .int .i64 0, .slice none 0 0, .string (wdI l 2), .string (wdI l 3), .int .i64 (numI (wdI l 4))] (by rfl) (by rfl) 25 #[.int .i64 0, .string ⟨#[]⟩, .int .i64 0, .slice none 0 0, .string ⟨#[]⟩, .string ⟨#[]⟩, .int .i64 0] Q1.out (by kernel_rfl) rfl (by simp [Value.oneCell']) ?_)
 have s0 := Q3.out 0; have s1 := Q3.out 1; have s2 := Q3.out 2; have s3 := Q3.out 3; have s4 := Q3.out 4; have s5 := Q3.out 5; have s6 := Q3.out 6
 exact bodyPost_ret (v := .agg #[.int .i64 0, .string (wdI l 1), .int .i64 0, .slice none 0 0, .string (wdI l 2), .string (wdI l 3), .int .i64 (numI (wdI l 4))]) (by simp [results, Tryz.results78, go_sem, s0, s1, s2, s3, s4, s5, s6]) rfl ⟨rfl, Q2.out⟩
set_option maxRecDepth 4000 in
set_option maxHeartbeats 4000000 in
theorem readGot_at {W : World} {b : Nat} {l : List UInt8} {y : World} (h : At W b l 1 y) (hE : Env W) (hl : l.length ≤ 1048576) :
  Calls Tryz.prog 81 #[.iface 97 (.pointer (some ⟨b, 0, none⟩))] y fun e y' => e = .returned (.agg #[.int .i64 0, .string (wdI l 1), .int .i64 0, .slice none 0 0, .string (wdI l 2), .string ⟨#[]⟩, .int .i64 (numI (wdI l 3))]) ∧ Ex b y y' := by
 obtain ⟨y0, hy0⟩ : ∃ y0, y0 = y.alloc (.cells #[.int .i64 0, .string ⟨#[]⟩, .int .i64 0, .slice none 0 0, .string ⟨#[]⟩, .string ⟨#[]⟩, .int .i64 0] 25) := ⟨_, rfl⟩
 have HY0 : Hid (y0 = y.alloc (.cells #[.int .i64 0, .string ⟨#[]⟩, .int .i64 0, .slice none 0 0, .string ⟨#[]⟩, .string ⟨#[]⟩, .int .i64 0] 25)) := hy0
 have H0 : Hid (At W b l 1 y0) := by rw [hy0]; exact h.keep (bl_alloc (Below.refl _ _) _)
 have X0 : Hid (Ex b y0 y0) := Ex.refl _ _
 have HE : Hid (Env W) := hE
 have HLn : Hid (l.length ≤ 1048576) := hl
 have HZ : Hid (b < y.heap.size) := h.s.z
 have hm := meth_spaced
 clear h hE hl hy0
 go_enter Tryz.func81, Tryz.ntmps81
 go_wp2_with fail
 rw [← HY0.out]
 refine (nextAt (n := 1) H0.out HE.out).mono ?_
 rintro e y1 ⟨rfl, h1, h2⟩
 have H1 : Hid (At W b l 2 y1) := h1
 have X1 : Hid (Ex b y0 y1) := X0.out.trans h2
 clear h1 h2
 go_wp2_with fail
 refine (nextAt (n := 2) H1.out HE.out).mono ?_
 rintro e y2 ⟨rfl, h1, h2⟩
 have H2 : Hid (At W b l 3 y2) := h1
 have X2 : Hid (Ex b y0 y2) := X1.out.trans h2
 clear h1 h2
 go_wp2_with fail
 refine (numberAt (n := 3) H2.out HE.out HLn.out).mono ?_
 rintro e y3 ⟨rfl, h1, h2⟩
 have H3 : Hid (At W b l 4 y3) := h1
 have X3 : Hid (Ex b y0 y3) := X2.out.trans h2
 clear h1 h2
 obtain ⟨Q1, Q2, Q3, Q4⟩ := box_ex (cs := #[.int .i64 0, .string (wdI l 1), .int .i64 0, .slice none 0 0, .string (wdI l 2), .string ⟨#[]⟩, .int .i64 (numI (wdI l 3))]) HZ.out (HY0.out ▸ X3.out)
 go_wp2_with (refine wpList_store_row (by rfl) 25 _ _ (by rfl) y.heap.size #[.int .i64 0, .string (wdI l 1), .int .i64 0, .slice none 0 0, .string (wdI l 2), .string ⟨#[]⟩, .int .i64 (numI (wdI l 3))] (by rfl) (by rfl) 25 #[.int .i64 0, .string ⟨#[]⟩, .int .i64 0, .slice none 0 0, .string ⟨#[]⟩, .string ⟨#[]⟩, .int .i64 0] Q1.out (by kernel_rfl) rfl (by simp [Value.oneCell']) ?_)
 have s0 := Q3.out 0; have s1 := Q3.out 1; have s2 := Q3.out 2; have s3 := Q3.out 3; have s4 := Q3.out 4; have s5 := Q3.out 5; have s6 := Q3.out 6
 exact bodyPost_ret (v := .agg #[.int .i64 0, .string (wdI l 1), .int .i64 0, .slice none 0 0, .string (wdI l 2), .string ⟨#[]⟩, .int .i64 (numI (wdI l 3))]) (by simp [results, Tryz.results81, go_sem, s0, s1, s2, s3, s4, s5, s6]) rfl ⟨rfl, Q2.out⟩
theorem holdOf_any (x : ByteArray) (w : World) : Calls Tryz.prog 89 #[.string x] w fun e w' => e = .returned (.string (holdR x)) ∧ w' = w := by
 cases hx : (x.toList == [42])
 ·
  have e : holdR x = x := by unfold holdR; rw [if_neg (by rw [hx]; simp)]
  rw [e]
  go_enter Tryz.func89, Tryz.ntmps89
  go_wp2
  go_ret
  exact ⟨rfl, rfl⟩
 ·
  have e : holdR x = { data := #[] } := by unfold holdR; rw [if_pos hx]
  rw [e]
  go_enter Tryz.func89, Tryz.ntmps89
  go_wp2
  go_ret
  exact ⟨rfl, rfl⟩
theorem Ex.setAny {b bw j : Nat} {y z : World} (h : Ex b y z) (hw : y.heap.size ≤ bw) (u : Value) : Ex b y (z.setCell ⟨bw, j, none⟩ u) :=
 ⟨h.os, h.tape, h.output, by have := h.size; simpa using this, fun k hk hne => (heap_setCell_other z ⟨bw, j, none⟩ k u (fun e => by have e2 : k = bw := e; omega)).trans (h.block k hk hne)⟩
theorem Ex.allocR {b : Nat} {y z : World} (h : Ex b y z) (o : Obj) : Ex b y (z.alloc o) := h.trans (Ex.of_below (bl_alloc (Below.refl _ _) _))
theorem nextAtE {W : World} {b : Nat} {l : List UInt8} {n : Nat} {y : World} (x : ByteArray) (hx : wdI l n = x) (h : At W b l n y) (hE : Env W) :
  Calls Tryz.prog 154 #[.pointer (some ⟨b, 0, none⟩)] y fun e y' => e = .returned (.string x) ∧ At W b l (n + 1) y' ∧ Ex b y y' := by subst hx; exact nextAt h hE
theorem numberAtE {W : World} {b : Nat} {l : List UInt8} {n : Nat} {y : World} (v : Int) (hv : numI (wdI l n) = v) (h : At W b l n y) (hE : Env W) (hl : l.length ≤ 1048576) :
  Calls Tryz.prog 88 #[.iface 97 (.pointer (some ⟨b, 0, none⟩))] y fun e y' => e = .returned (.int .i64 v) ∧ At W b l (n + 1) y' ∧ Ex b y y' := by subst hv; exact numberAt h hE hl
theorem holdOfE (x r : ByteArray) (hr : holdR x = r) (w : World) : Calls Tryz.prog 89 #[.string x] w fun e w' => e = .returned (.string r) ∧ w' = w := by subst hr; exact holdOf_any x w
def wcells (r : W.WantD) : Array Value := #[.string r.c, .int .i64 r.v, .string r.h, .int .i64 r.p, .int .i64 r.s, .int .i64 r.d, .int .i64 r.g]
set_option maxRecDepth 4000 in
set_option maxHeartbeats 4000000 in
theorem readWant_at {W : World} {b : Nat} {l : List UInt8} {y : World} (h : At W b l 0 y) (hE : Env W) (hl : l.length ≤ 1048576) :
  Calls Tryz.prog 57 #[.iface 97 (.pointer (some ⟨b, 0, none⟩))] y fun e y' => e = .returned (.agg (wcells (wantI l))) ∧ Ex b y y' := by
 obtain ⟨x0, g0⟩ : ∃ x, wdI l 0 = x := ⟨_, rfl⟩
 obtain ⟨x1, g1⟩ : ∃ x, wdI l 1 = x := ⟨_, rfl⟩
 obtain ⟨x2, g2⟩ : ∃ x, numI (wdI l 2) = x := ⟨_, rfl⟩
 obtain ⟨x3, g3⟩ : ∃ x, wdI l 3 = x := ⟨_, rfl⟩
 obtain ⟨xh, gh⟩ : ∃ x, holdR x3 = x := ⟨_, rfl⟩
 obtain ⟨x4, g4⟩ : ∃ x, numI (wdI l 4) = x := ⟨_, rfl⟩
 obtain ⟨x5, g5⟩ : ∃ x, numI (wdI l 5) = x := ⟨_, rfl⟩
 obtain ⟨x6, g6⟩ : ∃ x, numI (wdI l 6) = x := ⟨_, rfl⟩
 obtain ⟨x7, g7⟩ : ∃ x, numI (wdI l 7) = x := ⟨_, rfl⟩
 have HW : Hid (wcells (wantI l) = #[.string x1, .int .i64 x2, .string xh, .int .i64 x4, .int .i64 x5, .int .i64 x6, .int .i64 x7]) := by rw [← g1, ← g2, ← gh, ← g3, ← g4, ← g5, ← g6, ← g7]; rfl
 have G0 : Hid (wdI l 0 = x0) := g0
 have G1 : Hid (wdI l 1 = x1) := g1
 have G2 : Hid (numI (wdI l 2) = x2) := g2
 have G3 : Hid (wdI l 3 = x3) := g3
 have GH : Hid (holdR x3 = xh) := gh
 have G4 : Hid (numI (wdI l 4) = x4) := g4
 have G5 : Hid (numI (wdI l 5) = x5) := g5
 have G6 : Hid (numI (wdI l 6) = x6) := g6
 have G7 : Hid (numI (wdI l 7) = x7) := g7
 clear g0 g1 g2 g3 gh g4 g5 g6 g7
 obtain ⟨y0, hy0⟩ : ∃ y0, y0 = y.alloc (.cells #[.string ⟨#[]⟩, .int .i64 0, .string ⟨#[]⟩, .int .i64 0, .int .i64 0, .int .i64 0, .int .i64 0] 46) := ⟨_, rfl⟩
 have HY0 : Hid (y0 = y.alloc (.cells #[.string ⟨#[]⟩, .int .i64 0, .string ⟨#[]⟩, .int .i64 0, .int .i64 0, .int .i64 0, .int .i64 0] 46)) := hy0
 have H0 : Hid (At W b l 0 y0) := by rw [hy0]; exact h.keep (bl_alloc (Below.refl _ _) _)
 have X0 : Hid (Ex b y0 y0) := Ex.refl _ _
 have HE : Hid (Env W) := hE
 have HLn : Hid (l.length ≤ 1048576) := hl
 have HZ : Hid (b < y.heap.size) := h.s.z
 have hm := meth_spaced
 clear h hE hl hy0
 go_enter Tryz.func57, Tryz.ntmps57
 go_wp2_with fail
 rw [← HY0.out]
 refine (nextAtE (n := 0) x0 G0.out H0.out HE.out).mono ?_
 rintro e y1 ⟨rfl, h1, h2⟩
 have H1 : Hid (At W b l 1 y1) := h1
 have X1 : Hid (Ex b y0 y1) := X0.out.trans h2
 clear h1 h2
 go_wp2_with fail
 refine (nextAtE (n := 1) x1 G1.out H1.out HE.out).mono ?_
 rintro e y2 ⟨rfl, h1, h2⟩
 have H2 : Hid (At W b l 2 y2) := h1
 have X2 : Hid (Ex b y0 y2) := X1.out.trans h2
 clear h1 h2
 go_wp2_with fail
 refine (numberAtE (n := 2) x2 G2.out H2.out HE.out HLn.out).mono ?_
 rintro e y3 ⟨rfl, h1, h2⟩
 have H3 : Hid (At W b l 3 y3) := h1
 have X3 : Hid (Ex b y0 y3) := X2.out.trans h2
 clear h1 h2
 go_wp2_with fail
 refine (nextAtE (n := 3) x3 G3.out H3.out HE.out).mono ?_
 rintro e y4 ⟨rfl, h1, h2⟩
 have H4 : Hid (At W b l 4 y4) := h1
 have X4 : Hid (Ex b y0 y4) := X3.out.trans h2
 clear h1 h2
 go_wp2_with fail
 refine (holdOfE x3 xh GH.out _).mono ?_
 rintro e w' ⟨rfl, rfl⟩
 obtain ⟨y5, hy5⟩ : ∃ y5, y5 = w'.alloc (.cells #[.string x1, .int .i64 x2, .string xh, .int .i64 0, .int .i64 0, .int .i64 0, .int .i64 0] 46) := ⟨_, rfl⟩
 have HY5 : Hid (y5 = w'.alloc (.cells #[.string x1, .int .i64 x2, .string xh, .int .i64 0, .int .i64 0, .int .i64 0, .int .i64 0] 46)) := hy5
 have B5 : Hid (Below w'.heap.size w' y5) := by rw [hy5]; exact bl_alloc (Below.refl _ _) _
 have H5 : Hid (At W b l 4 y5) := H4.out.keep B5.out
 have X5 : Hid (Ex b y0 y5) := X4.out.trans (Ex.of_below B5.out)
 have XX : Hid (Ex b y5 y5) := Ex.refl _ _
 have Z5 : Hid (b < w'.heap.size) := H4.out.s.z
 have Z6 : Hid (y0.heap.size ≤ w'.heap.size) := X4.out.size
 clear hy5
 go_wp2_with fail
 rw [← HY5.out]
 refine (numberAtE (n := 4) x4 G4.out H5.out HE.out HLn.out).mono ?_
 rintro e y6 ⟨rfl, h1, h2⟩
 have H6 : Hid (At W b l 5 y6) := h1
 have X6 : Hid (Ex b y5 y6) := XX.out.trans h2
 clear h1 h2
 go_wp2_with fail
 refine (numberAtE (n := 5) x5 G5.out H6.out HE.out HLn.out).mono ?_
 rintro e y7 ⟨rfl, h1, h2⟩
 have H7 : Hid (At W b l 6 y7) := h1
 have X7 : Hid (Ex b y5 y7) := X6.out.trans h2
 clear h1 h2
 go_wp2_with fail
 refine (numberAtE (n := 6) x6 G6.out H7.out HE.out HLn.out).mono ?_
 rintro e y8 ⟨rfl, h1, h2⟩
 have H8 : Hid (At W b l 7 y8) := h1
 have X8 : Hid (Ex b y5 y8) := X7.out.trans h2
 clear h1 h2
 go_wp2_with fail
 refine (numberAtE (n := 7) x7 G7.out H8.out HE.out HLn.out).mono ?_
 rintro e y9 ⟨rfl, h1, h2⟩
 have X9 : Hid (Ex b y5 y9) := X8.out.trans h2
 clear h1 h2
 have kc : ∀ k, y9.cell? ⟨w'.heap.size, k, none⟩ = (#[.string x1, .int .i64 x2, .string xh, .int .i64 0, .int .i64 0, .int .i64 0, .int .i64 0] : Array Value)[k]? := fun k => by
  have z := Z5.out
  rw [X9.out.cell (p := ⟨w'.heap.size, k, none⟩) (by rw [HY5.out]; simp) (by show w'.heap.size ≠ b; omega), HY5.out, World.cell?_alloc_new]
 have kf : ∀ k, y9.frozen? ⟨w'.heap.size, k, none⟩ = false := fun k => by
  have z := Z5.out
  rw [X9.out.frozen (p := ⟨w'.heap.size, k, none⟩) (by rw [HY5.out]; simp) (by show w'.heap.size ≠ b; omega), HY5.out]
  simp [go_sem]
 have kz : w'.heap.size < y9.heap.size := Nat.lt_of_lt_of_le (by rw [HY5.out]; simp) X9.out.size
 have XA : Hid (Ex b y0 ((((y9.setCell ⟨w'.heap.size, 3, none⟩ (.int .i64 x4)).setCell ⟨w'.heap.size, 4, none⟩ (.int .i64 x5)).setCell ⟨w'.heap.size, 5, none⟩ (.int .i64 x6)).setCell ⟨w'.heap.size, 6, none⟩ (.int .i64 x7))) := ((((X5.out.trans X9.out).setAny Z6.out _).setAny Z6.out _).setAny Z6.out _).setAny Z6.out _
 obtain ⟨Q1, Q2, Q3, Q4⟩ := box_ex (cs := #[.string x1, .int .i64 x2, .string xh, .int .i64 x4, .int .i64 x5, .int .i64 x6, .int .i64 x7]) HZ.out (HY0.out ▸ XA.out)
 go_wp2_with (refine wpList_store_row (by rfl) 46 _ _ (by rfl) y.heap.size #[.string x1, .int .i64 x2, .string xh, .int .i64 x4, .int .i64 x5, .int .i64 x6, .int .i64 x7] (by rfl) (by rfl) 46 #[.string ⟨#[]⟩, .int .i64 0, .string ⟨#[]⟩, .int .i64 0, .int .i64 0, .int .i64 0, .int .i64 0] Q1.out (by kernel_rfl) rfl (by simp [Value.oneCell']) ?_)
 have s0 := Q3.out 0; have s1 := Q3.out 1; have s2 := Q3.out 2; have s3 := Q3.out 3; have s4 := Q3.out 4; have s5 := Q3.out 5; have s6 := Q3.out 6
 exact bodyPost_ret (v := .agg #[.string x1, .int .i64 x2, .string xh, .int .i64 x4, .int .i64 x5, .int .i64 x6, .int .i64 x7]) (by simp [results, Tryz.results57, go_sem, s0, s1, s2, s3, s4, s5, s6]) rfl ⟨by rw [HW.out], Q2.out⟩
end Go.Proofs.YtgakmkhbnjofhaaGreatDoor
