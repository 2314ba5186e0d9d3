/- FnExactMateAlive: the walk. -/
import Derived.Test.YtmfcnckhgeggkaaAlive
namespace Go.Proofs.Ytmfcnckhgeggkaa
open Go.RowKit

theorem lawAlive (c h : ByteArray) (v p s d g a b i u : Int) (hc : c.size ≤ maxLen) (hh : h.size ≤ maxLen) (w : World) :
    Calls Try.prog 6 #[.agg #[.string c, .int .i64 v, .string h, .int .i64 p, .int .i64 s, .int .i64 d, .int .i64 g, .int .i64 a, .int .i64 b, .int .i64 i, .int .i64 u]] w fun e w' => e = .returned (.bool true) ∧ Below w.heap.size w w' := by
  by_cases k : (c.size : Int) + h.size ≤ 1048576
  · go_enter Try.func6, Try.ntmps6
    go_wp2_with fail
    refine (szRun_yes c h v p s d g a b i u 1048576 (by omega) (by omega) k _).mono ?_
    rintro e w1 ⟨rfl, hb1⟩
    have hk := box_keep hb1
    go_wp2_with fail
    refine (toRun_any c h v p s d g a b i u _).mono ?_
    rintro e w2 ⟨rfl, hb2⟩
    replace hb2 := bl_trans hb1 hb2
    clear hk hb1
    have hk := box_keep hb2
    go_wp2_with fail
    refine (specAlive_any c h v p s d g a b i u _).mono ?_
    rintro e w3 ⟨rfl, hb3⟩
    replace hb3 := bl_trans hb2 hb3
    clear hk hb2
    have hk := box_keep hb3
    go_wp2_with fail
    refine (toRun_any c h v p s d g a b i u _).mono ?_
    rintro e w4 ⟨rfl, hb4⟩
    replace hb4 := bl_trans hb3 hb4
    clear hk hb3
    go_wp2_with fail
    refine (implAlive_any c h v p s d g a b i u _).mono ?_
    rintro e w5 ⟨rfl, hb5⟩
    replace hb5 := bl_trans hb4 hb5
    clear hb4
    go_wp2
    go_ret
    exact ⟨rfl, bl_trans (bl_alloc (Below.refl _ _) _) hb5⟩
  · go_enter Try.func6, Try.ntmps6
    go_wp2_with fail
    refine (szRun_no c h v p s d g a b i u 1048576 (by omega) (by omega) hc hh (by omega) _).mono ?_
    rintro e w1 ⟨rfl, hb1⟩
    go_wp2
    go_ret
    exact ⟨rfl, bl_trans (bl_alloc (Below.refl _ _) _) hb1⟩
end Go.Proofs.Ytmfcnckhgeggkaa
