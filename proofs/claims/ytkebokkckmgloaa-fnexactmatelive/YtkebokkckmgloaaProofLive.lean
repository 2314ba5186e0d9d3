import Derived.Test.YtkebokkckmgloaaJ01
import Derived.Test.YtkebokkckmgloaaJ04
import Derived.ChangeOld
/- FnExactMateLive, proved. -/
namespace Go.Proofs.Ytkebokkckmgloaa
open Go.RowKit

theorem lawLive_all (c h c2 h2 : ByteArray) (v p s d g a b i u v2 p2 s2 d2 g2 clock : Int) (wanted : Bool) (w : World)
    (hc : c.size ≤ maxLen) (hh : h.size ≤ maxLen) (hc2 : c2.size ≤ maxLen) (hh2 : h2.size ≤ maxLen) (hbb : b ≤ 9223372036854775807) (hii : -9223372036854775808 ≤ i) :
    Calls Try.prog 9 #[.agg #[.string c, .int .i64 v, .string h, .int .i64 p, .int .i64 s, .int .i64 d, .int .i64 g, .int .i64 a, .int .i64 b, .int .i64 i, .int .i64 u], .agg #[.string c2, .int .i64 v2, .string h2, .int .i64 p2, .int .i64 s2, .int .i64 d2, .int .i64 g2], .bool wanted, .int .i64 clock] w fun e w' => e = .returned (.bool true) ∧ Below w.heap.size w w' := by
  by_cases k1 : (c.size : Int) + h.size ≤ 1048576
  · by_cases k2 : (c2.size : Int) + h2.size ≤ 1048576 - c.size - h.size
    · have hS := fun w => specLive_any c h c2 h2 v p s d g a b i u v2 p2 s2 d2 g2 clock wanted w hbb hii
      have hI := fun w => implLive_any c h c2 h2 v p s d g a b i u v2 p2 s2 d2 g2 clock wanted w hbb hii
      cases hr : liveR h s d g a b i u clock (wanted && sameW c h c2 h2 v p s d g v2 p2 s2 d2 g2) with
      | none =>
        rw [hr] at hS hI
        exact lawLive c h c2 h2 v p s d g a b i u v2 p2 s2 d2 g2 clock wanted w ⟨#[]⟩ ⟨#[]⟩ 0 0 0 0 0 0 0 0 0 false hS hI k1 k2
      | some r =>
        obtain ⟨a', b', i'⟩ := r
        rw [hr] at hS hI
        exact lawLive c h c2 h2 v p s d g a b i u v2 p2 s2 d2 g2 clock wanted w c h v p s d g a' b' i' u true hS hI k1 k2
    · go_enter Try.func9, Try.ntmps9
      go_wp2_with fail
      refine (szRun_yes c h v p s d g a b i u 1048576 (by omega) (by omega) k1 _).mono ?_
      rintro e w1 ⟨rfl, hb1⟩
      obtain ⟨q1, q2⟩ := boxes2 w #[.string c, .int .i64 v, .string h, .int .i64 p, .int .i64 s, .int .i64 d, .int .i64 g, .int .i64 a, .int .i64 b, .int .i64 i, .int .i64 u] #[.string c2, .int .i64 v2, .string h2, .int .i64 p2, .int .i64 s2, .int .i64 d2, .int .i64 g2] 53 51
      obtain ⟨hB1, c1, d1⟩ := keepS (by simp) q1 q2 hb1
      clear hb1 q1 q2
      go_wp2_with fail
      refine (szWant_no c2 h2 v2 p2 s2 d2 g2 _ (by omega) (by omega) hc2 hh2 (by omega) _).mono ?_
      rintro e w2 ⟨rfl, hb2⟩
      go_wp2
      go_ret
      exact ⟨rfl, bl_trans (bl_trans (bl_alloc (bl_alloc (Below.refl _ _) _) _) hB1) hb2⟩
  · go_enter Try.func9, Try.ntmps9
    go_wp2_with fail
    refine (szRun_no c h v p s d g a b i u 1048576 (by omega) (by omega) hc hh (by omega) _).mono ?_
    rintro e w1 ⟨rfl, hb1⟩
    go_wp2
    go_ret
    exact ⟨rfl, bl_trans (bl_alloc (bl_alloc (Below.refl _ _) _) _) hb1⟩
end Go.Proofs.Ytkebokkckmgloaa
namespace Go.Proofs.Ytkebokkckmgloaa.fnExactMateLive
open Go.ChangeShapes Go.WideShapes Go.ChangeAt Go.RowKit
set_option linter.unusedVariables false

theorem own : ownKnob Try.prog.godebug = none := by kernel_rfl
theorem laidOut : laidOutB Try.prog = true := by kernel_rfl

set_option maxRecDepth 100000 in
theorem lifted (os : Os) (started : os.Started) (H : Type) (enc : TypeId × Value → H) :
    ReturnsInHanded {} Try.checked os 9 .any (Rows.fnExactMateLiveSpec.pre6 enc Try.prog Try.f9 Rows.fnExactMateLiveRow.domain false) (Rows.fnExactMateLiveSpec.post enc Try.prog Try.f9 false true false false) := by
  refine returnsInHanded_of_change (C := Try.checked) own started (by kernel_rfl) Try.func9
    (ChangeSpec.witness6 (enc := enc) (C := Try.checked) false ⟨#[], #[.agg #[.string ⟨#[]⟩, .int .i64 0, .string ⟨#[]⟩, .int .i64 0, .int .i64 0, .int .i64 0, .int .i64 0, .int .i64 0, .int .i64 0, .int .i64 0, .int .i64 0], .agg #[.string ⟨#[]⟩, .int .i64 0, .string ⟨#[]⟩, .int .i64 0, .int .i64 0, .int .i64 0, .int .i64 0], .bool false, .int .i64 0], []⟩ 8 (by kernel_rfl) (by kernel_rfl) (by kernel_rfl) (by kernel_rfl)) ?_
  intro W base args ds gs before hval0 hW hcnd _
  have hval : ∀ (j : Nat) t v, Try.f9.params[j]? = some t → args[j]? = some v → Value.okWide Try.prog W .any base t v := hval0
  have hW' := hW
  obtain ⟨p, q, hA0, hV, rfl, hfz, hnd⟩ := hW
  have hA : DataW.TrodAll enc Try.prog W 0 (fun _ => true) true Try.f9.params.toList args.toList ds p := hA0
  rw [Try.params9] at hA hval
  obtain ⟨v0, vs0, d0, ds0, p0, q0, hargs, rfl, rfl, h0, r0⟩ := trodAll_cons hA
  obtain ⟨v1, vs1, d1, ds1, p1, q1, rfl, rfl, rfl, h1, r1⟩ := trodAll_cons r0
  obtain ⟨v2, vs2, d2, ds2, p2, q2, rfl, rfl, rfl, h2, r2⟩ := trodAll_cons r1
  obtain ⟨v3, vs3, d3, ds3, p3, q3, rfl, rfl, rfl, h3, r3⟩ := trodAll_cons r2
  obtain ⟨rfl, rfl, rfl⟩ := trodAll_nil r3
  obtain rfl : args = #[v0, v1, v2, v3] := by cases args; simp_all
  obtain ⟨rfl, rfl⟩ := trodVars_none hV
  obtain ⟨cs0, rfl, -⟩ := okWide_struct Try.underlying53 (hval 0 53 v0 rfl rfl)
  obtain ⟨cs1, rfl, -⟩ := okWide_struct Try.underlying51 (hval 1 51 v1 rfl rfl)
  obtain ⟨wanted, rfl, rfl, rfl⟩ := open_bool Try.underlying4 (hval 2 4 v2 rfl rfl) h2
  obtain ⟨clock, rfl, rfl, rfl, w3⟩ := open_int Try.underlying3 (hval 3 3 v3 rfl rfl) h3
  have k0 := h0
  have lt0 : ∀ x ∈ p0, x.block < W.heap.size := by obtain ⟨m, hm⟩ := k0; exact DataW.trod_lt m _ _ _ hm
  have k1 := h1
  have lt1 : ∀ x ∈ p1, x.block < W.heap.size := by obtain ⟨m, hm⟩ := k1; exact DataW.trod_lt m _ _ _ hm
  obtain ⟨fuel, hf⟩ := h0
  obtain ⟨fuel1, hf1⟩ := h1
  obtain ⟨c, v, h, p, s, d, g, a, b, i, u, e0, w0, w1, i0, i1, i2, i3, i4, i5, i6, i7, i8⟩ := read_run hf
  obtain ⟨c2, vv2, hh2, pp2, s2, dd2, g2, e1, w4, w5, -⟩ := read_want hf1
  obtain rfl : cs0 = #[.string c, .int .i64 v, .string h, .int .i64 p, .int .i64 s, .int .i64 d, .int .i64 g, .int .i64 a, .int .i64 b, .int .i64 i, .int .i64 u] := by
    cases cs0; simpa [Value.cells] using e0
  obtain rfl : cs1 = #[.string c2, .int .i64 vv2, .string hh2, .int .i64 pp2, .int .i64 s2, .int .i64 dd2, .int .i64 g2] := by
    cases cs1; simpa [Value.cells] using e1
  clear hA0 hval0
  refine (lawLive_all c h c2 hh2 v p s d g a b i u vv2 pp2 s2 dd2 g2 clock wanted W w0 w1 w4 w5 i6.2 i7.1).mono fun e W' ⟨he, bel⟩ => ?_
  subst he
  exact ⟨_, rfl, _, _, _, [], _, [], hW', trodAll_mk1 (shut_bool Try.underlying4 _), (trodAll_cons_mk (Below.trod laidOut (by kernel_rfl) (of_decide_eq_true (by kernel_rfl)) k0 bel lt0) (trodAll_cons_mk (Below.trod laidOut (by kernel_rfl) (of_decide_eq_true (by kernel_rfl)) k1 bel lt1) (trodAll_cons_mk (shut_bool Try.underlying4 _) (trodAll_cons_mk (shut_int Try.underlying3 w3) trodAll_mk0)))), rfl, bel.frame _, fun h => by cases h⟩

theorem over : Rows.fnExactMateLiveRow.holds Try.pinned (OpenSpec.ofChange Rows.fnExactMateLiveSpec) :=
  OpenClaim.holds_of_wide 9 Try.f9 rfl rfl rfl rfl rfl rfl rfl ⟨rfl, rfl, rfl, rfl, rfl⟩ rfl rfl rfl rfl rfl (by kernel_rfl) Try.func9 (by kernel_rfl)
    (of_decide_eq_true (by kernel_rfl)) (by unfold Func.isWrapper; first | (rw [if_pos (by decide +kernel)]; kernel_rfl) | (rw [if_neg (by decide +kernel)]; exact ⟨rfl, rfl⟩))
    (fun os started H enc _ => lifted os started H enc)
end Go.Proofs.Ytkebokkckmgloaa.fnExactMateLive
namespace Go.Proofs.Ytkebokkckmgloaa
theorem FnExactMateLive_holds : Rows.FnExactMateLiveSaid := fnExactMateLive.over
#print axioms FnExactMateLive_holds
end Go.Proofs.Ytkebokkckmgloaa
