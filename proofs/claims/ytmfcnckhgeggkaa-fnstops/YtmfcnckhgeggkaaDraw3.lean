/- A text is made n times: twenty and twenty-one. -/
import Derived.Test.YtmfcnckhgeggkaaDraw2
namespace Go.Proofs.Ytmfcnckhgeggkaa
open Go.RowKit
set_option linter.unusedVariables false

set_option maxHeartbeats 1000000 in
theorem many20 (w : World) : Calls Try.prog 107 #[.string ⟨#[110]⟩, .int .i64 20] w fun e w' => ∃ x : ByteArray, e = .returned (.string x) ∧ x.size ≤ maxLen ∧ w' = w := by
  go_enter Try.func107, Try.ntmps107
  go_wp2
  refine wp_loop_rounds 6 ?_
  rw [rounds_succ]
  go_wp2
  rw [rounds_succ]
  go_wp2
  rw [rounds_succ]
  go_wp2
  rw [rounds_succ]
  go_wp2
  rw [rounds_succ]
  go_wp2
  rw [rounds_succ]
  go_wp2
  go_ret
  exact ⟨_, rfl, by unfold maxLen; decide, rfl⟩

set_option maxHeartbeats 1000000 in
theorem many21 (w : World) : Calls Try.prog 107 #[.string ⟨#[110]⟩, .int .i64 21] w fun e w' => ∃ x : ByteArray, e = .returned (.string x) ∧ x.size ≤ maxLen ∧ w' = w := by
  go_enter Try.func107, Try.ntmps107
  go_wp2
  refine wp_loop_rounds 6 ?_
  rw [rounds_succ]
  go_wp2
  rw [rounds_succ]
  go_wp2
  rw [rounds_succ]
  go_wp2
  rw [rounds_succ]
  go_wp2
  rw [rounds_succ]
  go_wp2
  rw [rounds_succ]
  go_wp2
  go_ret
  exact ⟨_, rfl, by unfold maxLen; decide, rfl⟩
end Go.Proofs.Ytmfcnckhgeggkaa
