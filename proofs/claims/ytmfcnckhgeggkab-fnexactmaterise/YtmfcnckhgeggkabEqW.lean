/- Equal wants and runs are told to be equal. -/
import Derived.Test.YtmfcnckhgeggkabConv
namespace Go.Proofs.Ytmfcnckhgeggkab
open Go.RowKit

theorem eqWant_same (c h : ByteArray) (v p s d g : Int) (w : World) :
    Calls Try.prog 51 #[.agg #[.string c, .int .i64 v, .string h, .int .i64 p, .int .i64 s, .int .i64 d, .int .i64 g], .agg #[.string c, .int .i64 v, .string h, .int .i64 p, .int .i64 s, .int .i64 d, .int .i64 g]] w fun e w' => e = .returned (.bool true) ∧
      w' = (w.alloc (.cells #[.string c, .int .i64 v, .string h, .int .i64 p, .int .i64 s, .int .i64 d, .int .i64 g] 37)).alloc (.cells #[.string c, .int .i64 v, .string h, .int .i64 p, .int .i64 s, .int .i64 d, .int .i64 g] 37) := by
  go_enter Try.func51, Try.ntmps51
  go_wp2
  go_ret
  exact ⟨rfl, rfl⟩

end Go.Proofs.Ytmfcnckhgeggkab
