/- Equal wants and runs are told to be equal. -/
import Derived.Test.YteebdpnpeglimaaDoorConv
namespace Go.Proofs.YteebdpnpeglimaaDoor
open Go.RowKit

theorem eqWant_same (c h : ByteArray) (v p s d g : Int) (w : World) :
    Calls Tryd.prog 29 #[.agg #[.string c, .int .i64 v, .string h, .int .i64 p, .int .i64 s, .int .i64 d, .int .i64 g], .agg #[.string c, .int .i64 v, .string h, .int .i64 p, .int .i64 s, .int .i64 d, .int .i64 g]] w fun e w' => e = .returned (.bool true) ∧
      w' = (w.alloc (.cells #[.string c, .int .i64 v, .string h, .int .i64 p, .int .i64 s, .int .i64 d, .int .i64 g] 40)).alloc (.cells #[.string c, .int .i64 v, .string h, .int .i64 p, .int .i64 s, .int .i64 d, .int .i64 g] 40) := by
  go_enter Tryd.func29, Tryd.ntmps29
  go_wp2
  go_ret
  exact ⟨rfl, rfl⟩

end Go.Proofs.YteebdpnpeglimaaDoor
