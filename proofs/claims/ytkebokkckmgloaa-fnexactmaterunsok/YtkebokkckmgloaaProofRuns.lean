import Derived.Test.YtkebokkckmgloaaJ01
import Derived.Test.YtkebokkckmgloaaJ03
import Derived.Test.YtkebokkckmgloaaJ04
/- FnExactMateRunsOk, proved. -/
namespace Go.Proofs.Ytkebokkckmgloaa
open Go.RowKit
set_option linter.unusedVariables false

theorem szRunS_nil (a : Option Addr) (cap : Nat) (left : Int) (w : World) (h0 : 0 ≤ left) (h1 : left ≤ 1048576) :
    Calls Try.prog 35 #[.slice a 0 cap, .int .i64 left] w fun e w' => e = .returned (.int .i64 left) ∧ w' = w := by
  go_enter Try.func35, Try.ntmps35
  go_wp2
  refine wp_loop_rounds 1 ?_
  rw [rounds_succ]
  go_wp2
  go_ret
  exact ⟨rfl, rfl⟩
theorem toRunS_nil (a : Option Addr) (cap : Nat) (w : World) :
    Calls Try.prog 37 #[.slice a 0 cap] w fun e w' => e = .returned (.slice (some ⟨w.heap.size, 0, none⟩) 0 0) ∧ w.heap.size < w'.heap.size ∧ Below w.heap.size w w' := by
  obtain ⟨C, hC, hmk0⟩ := make_runs 0 (by omega)
  have hmk : ∀ w : World, Sem.run Try.prog (Instr.makeSlice 24 (.int .i64 0) (.int .i64 0)) w = .ok (.slice (some ⟨w.heap.size, 0, none⟩) 0 0) (w.alloc (.cells C 38)) := fun w => hmk0 w
  clear hmk0 hC
  go_enter Try.func37, Try.ntmps37
  go_wp2
  refine wp_loop_rounds 1 ?_
  rw [rounds_succ]
  go_wp2
  go_ret
  exact ⟨rfl, by simp, bl_alloc (Below.refl _ _) _⟩

set_option maxHeartbeats 1000000 in
theorem lawRunsOk_nil (a : Option Addr) (cap : Nat) (clock : Int) (w : World) :
    Calls Try.prog 7 #[.slice a 0 cap, .int .i64 clock] w fun e w' => e = .returned (.bool true) ∧ Below w.heap.size w w' := by
  have hR0 : ∀ (x : World) (b off : Nat), RowsAt x b off [] := fun x b off k r h => by simp at h
  go_enter Try.func7, Try.ntmps7
  go_wp2_with fail
  refine (szRunS_nil a cap 1048576 _ (by omega) (by omega)).mono ?_
  rintro e w1 ⟨rfl, rfl⟩
  go_wp2_with fail
  refine (toRunS_nil a cap _).mono ?_
  rintro e w2 ⟨rfl, z2, b2⟩
  go_wp2_with fail
  refine (specRunsOk _ 0 0 [] clock _ (hR0 _ _ _) z2 (by simp) (by simp)).mono ?_
  rintro e w3 ⟨⟨q, rfl, hq⟩, b3⟩
  have b3' := bl_trans b2 b3
  clear b2 b3 z2
  go_wp2_with fail
  refine (toRunS_nil a cap _).mono ?_
  rintro e w4 ⟨rfl, z4, b4⟩
  have b4' := bl_trans b3' b4
  go_wp2_with fail
  refine (implRunsOk _ 0 0 [] clock _ (hR0 _ _ _) z4 (by simp) (by simp)).mono ?_
  rintro e w5 ⟨⟨q', rfl, hq'⟩, b5⟩
  obtain rfl : q' = q := by
    have := hq.trans hq'.symm
    cases q <;> cases q' <;> simp_all
  have z5 : w3.heap.size < w5.heap.size := Nat.lt_of_lt_of_le z4 b5.size
  have b5' := bl_trans b4' b5
  clear b3' b4 b4' b5 z4 hq hq'
  go_wp2_with fail
  refine (toRunS_nil a cap _).mono ?_
  rintro e w6 ⟨rfl, z6, b6⟩
  have z6' : w3.heap.size < w6.heap.size := Nat.lt_of_lt_of_le z5 b6.size
  have b6' := bl_trans b5' b6
  go_wp2_with fail
  refine (eqRunS _ 0 0 _ 0 0 [] _ (hR0 _ _ _) (hR0 _ _ _) z6' z6 (by simp)).mono ?_
  rintro e w7 ⟨rfl, b7⟩
  go_wp2
  go_ret
  exact ⟨rfl, bl_trans b6' b7⟩

set_option maxHeartbeats 1000000 in
theorem lawRunsOk (b off cap : Nat) (rs : List RunD) (clock : Int) (w : World) (hR : RowsAt w b off rs) (hb : b < w.heap.size) (hf : ∀ r ∈ rs, r.fits) (hl : rs.length ≤ maxLen) :
    Calls Try.prog 7 #[.slice (some ⟨b, off, none⟩) rs.length cap, .int .i64 clock] w fun e w' => e = .returned (.bool true) ∧ Below w.heap.size w w' := by
  go_enter Try.func7, Try.ntmps7
  go_wp2_with fail
  refine (szRunS b off cap rs 1048576 _ hR hb hf (by omega) (by omega) hl).mono ?_
  rintro e w1 ⟨rfl | ⟨m, rfl, m0, hn⟩, b1⟩
  · go_wp2
    go_ret
    exact ⟨rfl, b1⟩
  have hn' : rs.length ≤ 1048576 := by omega
  clear hn hl
  have R1 := hR.keep hb b1
  have z1 : b < w1.heap.size := Nat.lt_of_lt_of_le hb b1.size
  clear hR hb
  go_wp2_with fail
  refine (toRunS b off cap rs _ R1 z1 hn').mono ?_
  rintro e w2 ⟨rfl, S2, -, z2, b2⟩
  go_wp2_with fail
  refine (specRunsOk _ 0 _ rs clock _ S2 z2 hf hn').mono ?_
  rintro e w3 ⟨⟨q, rfl, hq⟩, b3⟩
  have R3 := (R1.keep z1 b2).keep (Nat.lt_of_lt_of_le z1 b2.size) b3
  have z3 : b < w3.heap.size := Nat.lt_of_lt_of_le z1 (Nat.le_trans b2.size b3.size)
  have b3' := bl_trans b1 (bl_trans b2 b3)
  clear R1 z1 b1 b2 b3 S2 z2
  go_wp2_with fail
  refine (toRunS b off cap rs _ R3 z3 hn').mono ?_
  rintro e w4 ⟨rfl, S4, -, z4, b4⟩
  go_wp2_with fail
  refine (implRunsOk _ 0 _ rs clock _ S4 z4 hf hn').mono ?_
  rintro e w5 ⟨⟨q', rfl, hq'⟩, b5⟩
  obtain rfl : q' = q := by
    have := hq.trans hq'.symm
    cases q <;> cases q' <;> simp_all
  have S5 := S4.keep z4 b5
  have z5 : w3.heap.size < w5.heap.size := Nat.lt_of_lt_of_le z4 b5.size
  have R5 := (R3.keep z3 b4).keep (Nat.lt_of_lt_of_le z3 b4.size) b5
  have y5 : b < w5.heap.size := Nat.lt_of_lt_of_le z3 (Nat.le_trans b4.size b5.size)
  have b5' := bl_trans b3' (bl_trans b4 b5)
  clear R3 z3 b3' b4 b5 S4 z4 hq hq'
  go_wp2_with fail
  refine (toRunS b off cap rs _ R5 y5 hn').mono ?_
  rintro e w6 ⟨rfl, S6, -, z6, b6⟩
  have S5' := S5.keep z5 b6
  have z5' : w3.heap.size < w6.heap.size := Nat.lt_of_lt_of_le z5 b6.size
  go_wp2_with fail
  refine (eqRunS _ 0 _ _ 0 _ rs _ S5' S6 z5' z6 hn').mono ?_
  rintro e w7 ⟨rfl, b7⟩
  go_wp2
  go_ret
  exact ⟨rfl, bl_trans b5' (bl_trans b6 b7)⟩
end Go.Proofs.Ytkebokkckmgloaa
namespace Go.Proofs.Ytkebokkckmgloaa.fnExactMateRunsOk
open Go.ChangeShapes Go.WideShapes Go.ChangeAt Go.RowKit
set_option linter.unusedVariables false

theorem own : ownKnob Try.prog.godebug = none := by kernel_rfl
theorem laidOut : laidOutB Try.prog = true := by kernel_rfl

set_option maxRecDepth 100000 in
theorem lifted (os : Os) (started : os.Started) (H : Type) (enc : TypeId × Value → H) :
    ReturnsInHanded {} Try.checked os 7 .any (Rows.fnExactMateRunsOkSpec.pre6 enc Try.prog Try.f7 Rows.fnExactMateRunsOkRow.domain false) (Rows.fnExactMateRunsOkSpec.post enc Try.prog Try.f7 false true false false) := by
  refine returnsInHanded_of_change (C := Try.checked) own started (by kernel_rfl) Try.func7
    (ChangeSpec.witness6 (enc := enc) (C := Try.checked) false ⟨#[], #[.slice none 0 0, .int .i64 0], []⟩ 8 (by kernel_rfl) (by kernel_rfl) (by kernel_rfl) (by kernel_rfl)) ?_
  intro W base args ds gs before hval0 hW hcnd _
  have hval : ∀ (j : Nat) t v, Try.f7.params[j]? = some t → args[j]? = some v → Value.okWide Try.prog W .any base t v := hval0
  have hW' := hW
  obtain ⟨p, q, hA0, hV, rfl, hfz, hnd⟩ := hW
  have hA : DataW.TrodAll enc Try.prog W 0 (fun _ => true) true Try.f7.params.toList args.toList ds p := hA0
  rw [Try.params7] at hA hval
  obtain ⟨v0, vs0, d0, ds0, p0, q0, hargs, rfl, rfl, h0, r0⟩ := trodAll_cons hA
  obtain ⟨v1, vs1, d1, ds1, p1, q1, rfl, rfl, rfl, h1, r1⟩ := trodAll_cons r0
  obtain ⟨rfl, rfl, rfl⟩ := trodAll_nil r1
  obtain rfl : args = #[v0, v1] := by cases args; simp_all
  obtain ⟨rfl, rfl⟩ := trodVars_none hV
  obtain ⟨a0, len0, cap0, rfl⟩ := okWide_slice Try.underlying57 (hval 0 57 v0 rfl rfl)
  obtain ⟨clock, rfl, rfl, rfl, w1⟩ := open_int Try.underlying3 (hval 1 3 v1 rfl rfl) h1
  have k0 := h0
  have lt0 : ∀ x ∈ p0, x.block < W.heap.size := by obtain ⟨m, hm⟩ := k0; exact DataW.trod_lt m _ _ _ hm
  have main : Calls Try.prog 7 #[.slice a0 len0 cap0, .int .i64 clock] W fun e w' => e = .returned (.bool true) ∧ Below W.heap.size W w' := by
    obtain ⟨fuel, hf⟩ := h0
    rcases read_runs hf with ⟨a, cap, hcs⟩ | ⟨b, off, cap, rs, hcs, -, hl, hb, hR, hfit⟩
    · simp [Value.cells] at hcs
      obtain ⟨rfl, rfl, rfl⟩ := hcs
      exact lawRunsOk_nil _ _ clock W
    · simp [Value.cells] at hcs
      obtain ⟨rfl, rfl, rfl⟩ := hcs
      exact lawRunsOk b off _ rs clock W hR hb hfit hl
  clear hA0 hval0
  refine main.mono fun e W' ⟨he, bel⟩ => ?_
  subst he
  exact ⟨_, rfl, _, _, _, [], _, [], hW', trodAll_mk1 (shut_bool Try.underlying4 _), (trodAll_cons_mk (Below.trod laidOut (by kernel_rfl) (of_decide_eq_true (by kernel_rfl)) k0 bel lt0) (trodAll_cons_mk (shut_int Try.underlying3 w1) trodAll_mk0)), rfl, bel.frame _, fun h => by cases h⟩

theorem over : Rows.fnExactMateRunsOkRow.holds Try.pinned (OpenSpec.ofChange Rows.fnExactMateRunsOkSpec) :=
  OpenClaim.holds_of_wide 7 Try.f7 rfl rfl rfl rfl rfl rfl rfl ⟨rfl, rfl, rfl, rfl, rfl⟩ rfl rfl rfl rfl rfl (by kernel_rfl) Try.func7 (by kernel_rfl)
    (of_decide_eq_true (by kernel_rfl)) (by unfold Func.isWrapper; first | (rw [if_pos (by decide +kernel)]; kernel_rfl) | (rw [if_neg (by decide +kernel)]; exact ⟨rfl, rfl⟩))
    (fun os started H enc _ => lifted os started H enc)
end Go.Proofs.Ytkebokkckmgloaa.fnExactMateRunsOk
namespace Go.Proofs.Ytkebokkckmgloaa
theorem FnExactMateRunsOk_holds : Rows.FnExactMateRunsOkSaid := fnExactMateRunsOk.over
#print axioms FnExactMateRunsOk_holds
end Go.Proofs.Ytkebokkckmgloaa
