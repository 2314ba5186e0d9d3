/- Equal wants and runs are told to be equal. -/
import Derived.Test.YtmfcnckhgeggkabEqW
namespace Go.Proofs.Ytmfcnckhgeggkab
open Go.RowKit

theorem eqRun_same (c h : ByteArray) (v p s d g a b i u : Int) (w : World) :
    Calls Try.prog 24 #[.agg #[.string c, .int .i64 v, .string h, .int .i64 p, .int .i64 s, .int .i64 d, .int .i64 g, .int .i64 a, .int .i64 b, .int .i64 i, .int .i64 u], .agg #[.string c, .int .i64 v, .string h, .int .i64 p, .int .i64 s, .int .i64 d, .int .i64 g, .int .i64 a, .int .i64 b, .int .i64 i, .int .i64 u]] w fun e w' => e = .returned (.bool true) ∧ Below w.heap.size w w' := by
  go_enter Try.func24, Try.ntmps24
  go_wp2_with (first | (go_at_call 51; refine (eqWant_same c h v p s d g _).mono ?_; rintro e w' ⟨rfl, rfl⟩))
  go_ret
  exact ⟨rfl, by repeat (first | exact Below.refl _ _ | refine bl_alloc ?_ _ | refine bl_drew ?_)⟩
end Go.Proofs.Ytmfcnckhgeggkab
