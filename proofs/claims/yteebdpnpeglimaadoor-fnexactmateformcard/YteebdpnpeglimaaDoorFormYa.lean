/- MateForm: the program, at a kind. -/
import Derived.Test.YteebdpnpeglimaaDoorFormY0
import Derived.Test.YteebdpnpeglimaaDoorFormK2
namespace Go.Proofs.YteebdpnpeglimaaDoor
open Go.RowKit
set_option linter.unusedVariables false

theorem form_keep {W1 w2 w4 : World} {fc : Array Value} {t : TypeId} (hY : Below W1.heap.size W1 (w2.alloc (.cells fc t))) (hb : Below (w2.alloc (.cells fc t)).heap.size (w2.alloc (.cells fc t)) w4) :
    Hid (∀ y, Below w4.heap.size w4 y → ∀ j, y.cell? ⟨w2.heap.size, j, none⟩ = fc[j]?) ∧ Hid (Below W1.heap.size W1 w4) := by
  refine ⟨fun y hy j => ?_, bl_trans hY hb⟩
  rw [(bl_trans hb hy).cell (p := ⟨w2.heap.size, j, none⟩) (by simp), World.cell?_alloc_new]
def slY : Nat → Nat
  | 0 => 22
  | 1 => 23
  | 2 => 24
  | 3 => 25
  | 4 => 26
  | 5 => 27
  | 6 => 28
  | 7 => 5
  | _ => 0
theorem slY_inj {i : Nat} (hi : i < 8) : ∀ j, j < 8 → slY j = slY i → j = i := by
  have h : ∀ a : Fin 8, ∀ b : Fin 8, slY b.val = slY a.val → b.val = a.val := by decide
  intro j hj e
  exact h ⟨i, hi⟩ ⟨j, hj⟩ e
theorem slY_out (k : Nat) (h : (List.range 8).all (fun i => slY i != k) = true) : ∀ i, i < 8 → slY i ≠ k := fun i hi e => by
  have h1 := List.all_eq_true.1 h i (List.mem_range.2 hi)
  rw [e] at h1
  simp at h1
theorem slY_far (j : Nat) (h1 : j ≠ 5) (h2 : j < 22 ∨ 22 + 7 ≤ j) : ∀ i, i < 8 → slY i ≠ j := by
  have h : ∀ a : Fin 8, slY a.val = 5 ∨ (22 ≤ slY a.val ∧ slY a.val < 22 + 7) := by decide
  intro i hi e
  have h3 := h ⟨i, hi⟩
  simp only [e] at h3
  omega
set_option maxRecDepth 4000 in
set_option maxHeartbeats 8000000 in
theorem implF7 (k : Int) (b : ByteArray) (se : Int) (ws : List W.WantD) (h c : ByteArray) (t : Int) (g : Nat) (w : World) (hk : ¬ (1 ≤ k ∧ k ≤ 6)) (hP : ParIn w ⟨k, b, se, ws, h, c, t⟩ g) (ht : Tab w) :
    Calls Tryd.prog 7 #[.agg #[.int .i64 k, .string b, .int .i64 se, .slice (some ⟨g, 0, none⟩) ws.length ws.length, .string h, .string c, .int .i64 t]] w fun e w' => e = .returned (.string (formT ⟨k, b, se, ws, h, c, t⟩)) ∧ Below w.heap.size w w' := by
  have HE : Hid (formT ⟨k, b, se, ws, h, c, t⟩ = { data := #[] }) := other_no hk
  have HK : Hid (¬ (1 ≤ k ∧ k ≤ 6)) := hk
  clear hk
  obtain ⟨W1, hW1⟩ : ∃ W1, W1 = (w.alloc (.cells #[.int .i64 k, .string b, .int .i64 se, .slice (some ⟨g, 0, none⟩) ws.length ws.length, .string h, .string c, .int .i64 t] 29)) := ⟨_, rfl⟩
  have HB : Hid (Below w.heap.size w W1) := by rw [hW1]; exact bl_alloc (Below.refl _ _) _
  have HL : Hid (w.heap.size < W1.heap.size) := by rw [hW1]; show _ < _; simp
  have HTab : Hid (∀ y, Below W1.heap.size W1 y → Tab y) := fun y hb => (ht.keep HB.out).keep hb
  have HP : Hid (∀ y, Below W1.heap.size W1 y → ParIn y ⟨k, b, se, ws, h, c, t⟩ g) := fun y hb => (hP.keep HB.out).keep hb
  have ZB : Hid (b.size ≤ maxLen) := Nat.le_trans hP.b (by unfold maxLen; decide)
  have ZH : Hid (h.size ≤ maxLen) := Nat.le_trans hP.h (by unfold maxLen; decide)
  have ZC : Hid (c.size ≤ maxLen) := Nat.le_trans hP.c (by unfold maxLen; decide)
  have SB : Hid (b.size ≤ 1048576) := hP.b
  have SH : Hid (h.size ≤ 1048576) := hP.h
  have SC : Hid (c.size ≤ 1048576) := hP.c
  have SL : ws.length ≤ 1048576 := hP.l
  have KX : Hid (∀ y, Below W1.heap.size W1 y → ∀ k', y.cell? ⟨w.heap.size, k', none⟩ = (#[.int .i64 k, .string b, .int .i64 se, .slice (some ⟨g, 0, none⟩) ws.length ws.length, .string h, .string c, .int .i64 t] : Array Value)[k']?) := by
    intro y hb k'
    rw [hW1] at hb
    rw [box_keep hb k']
    simp [go_sem]
  have HW1 : Hid (W1 = (w.alloc (.cells #[.int .i64 k, .string b, .int .i64 se, .slice (some ⟨g, 0, none⟩) ws.length ws.length, .string h, .string c, .int .i64 t] 29))) := hW1
  clear hW1 ht hP
  go_enter Tryd.func7, Tryd.ntmps7
  go_wp2_with (go_at_call 17; rw [← HW1.out]; refine (find7 k HK.out w.heap.size W1 (KX.out W1 (Below.refl _ _) 0) HL.out).mono ?_; rintro e w2 ⟨rfl, b2⟩; have Y : Hid (Below W1.heap.size W1 (w2.alloc (.cells #[.int .i64 0, .string { data := #[] }, .nilFunc, .nilFunc, .nilFunc] 47))) := bl_alloc b2 _; have Y2 : Hid (Below W1.heap.size W1 w2) := b2; clear b2; have kb0 := KX.out _ Y.out 0; have kb1 := KX.out _ Y.out 1; have kb2 := KX.out _ Y.out 2; have kb3 := KX.out _ Y.out 3; have kb4 := KX.out _ Y.out 4; have kb5 := KX.out _ Y.out 5; have kb6 := KX.out _ Y.out 6)
  go_ret
  exact ⟨by rw [HE.out]; rfl, bl_trans HB.out Y.out⟩
theorem told_few {b h c : ByteArray} {se t : Int} {ws : List W.WantD} (hh : toldB b h c se t ws = true) : ws.length ≤ 10 := by
  unfold toldB wantsB at hh
  simp only [Bool.and_eq_true, decide_eq_true_eq] at hh
  exact hh.2.2.1.1
theorem told_writes {b h c : ByteArray} {se t : Int} {ws : List W.WantD} (hh : toldB b h c se t ws = true) : ∀ r ∈ ws, Writes r := by
  unfold toldB wantsB at hh
  simp only [Bool.and_eq_true, decide_eq_true_eq] at hh
  intro r hr
  obtain ⟨j, hj⟩ := List.getElem?_of_mem hr
  exact writes_of (hh.2.2.1.2.1 j r (List.getElem?_eq_some_iff.1 hj).1 hj)
theorem want_words {r : W.WantD} (h : Writes r) : ∀ x ∈ [r.c, decT r.v, holdT r.h, decT r.p, decT r.s, decT r.d, decT r.g], x.size ≤ 1000000000 := by
  have hh : (holdT r.h).size ≤ 1000000000 := by
    unfold holdT
    split
    · exact Nat.le_of_ble_eq_true rfl
    · have := h.h; omega
  have h1 := decT_le r.v h.v.1 h.v.2
  have h2 := decT_le r.p h.p.1 h.p.2
  have h3 := decT_le r.s h.s.1 h.s.2
  have h4 := decT_le r.d h.d.1 h.d.2
  have h5 := decT_le r.g h.g.1 h.g.2
  have hc : r.c.size ≤ 1000000000 := by have := h.c; omega
  intro p hp
  simp only [List.mem_cons, List.not_mem_nil, or_false] at hp
  rcases hp with rfl | rfl | rfl | rfl | rfl | rfl | rfl
  all_goals first | assumption | omega
end Go.Proofs.YteebdpnpeglimaaDoor
