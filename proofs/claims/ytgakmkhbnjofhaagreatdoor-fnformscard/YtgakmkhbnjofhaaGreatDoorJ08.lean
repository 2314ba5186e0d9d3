import Derived.Test.YtgakmkhbnjofhaaGreatDoorJ01
import Derived.Laws.EntriesVeiled
import Derived.Laws.StructEq
import Derived.Deep.RegionHeld3
import Derived.Laws.Pointers
import Derived.StillTactics
/- Is a state alive? -/
namespace Go.Proofs.YtgakmkhbnjofhaaGreatDoor
open Go.RowKit

def aliveB (a : Int) : Bool := a == 3 || a == 4 || a == 6

theorem alive_any (a : Int) (w : World) :
    Calls Tryz.prog 69 #[.int .i64 a] w fun e w' => e = .returned (.bool (aliveB a)) ∧ w' = w := by
  by_cases h3 : a = 3
  · subst h3
    go_enter Tryz.func69, Tryz.ntmps69
    go_wp2
    go_ret
    exact ⟨rfl, rfl⟩
  · by_cases h4 : a = 4
    · subst h4
      go_enter Tryz.func69, Tryz.ntmps69
      go_wp2
      go_ret
      exact ⟨rfl, rfl⟩
    · have e3 : (a == 3) = false := by simpa using h3
      have e4 : (a == 4) = false := by simpa using h4
      have ea : aliveB a = (a == 6) := by simp [aliveB, e3, e4]
      rw [ea]
      clear ea h3 h4
      go_enter Tryz.func69, Tryz.ntmps69
      go_wp2
      go_ret
      exact ⟨rfl, rfl⟩

end Go.Proofs.YtgakmkhbnjofhaaGreatDoor
/- A run as the program has it, and what it may. -/
namespace Go.Proofs.YtgakmkhbnjofhaaGreatDoor
open Go.RowKit
set_option linter.unusedVariables false

theorem runOf_any (c h : ByteArray) (v p s d g a b i u : Int) (w : World) :
    Calls Tryz.prog 49 #[.agg #[.string c, .int .i64 v, .string h, .int .i64 p, .int .i64 s, .int .i64 d, .int .i64 g, .int .i64 a, .int .i64 b, .int .i64 i, .int .i64 u]] w fun e w' => e = .returned (.agg #[.string c, .int .i64 v, .string h, .int .i64 p, .int .i64 s, .int .i64 d, .int .i64 g, .int .i64 a, .int .i64 b, .int .i64 i, .int .i64 u]) ∧ w' = (w.alloc (.cells #[.string c, .int .i64 v, .string h, .int .i64 p, .int .i64 s, .int .i64 d, .int .i64 g, .int .i64 a, .int .i64 b, .int .i64 i, .int .i64 u] 73)).alloc (.cells #[.string c, .int .i64 v, .string h, .int .i64 p, .int .i64 s, .int .i64 d, .int .i64 g, .int .i64 a, .int .i64 b, .int .i64 i, .int .i64 u] 83) := by
  go_enter Tryz.func49, Tryz.ntmps49
  go_wp2
  exact bodyPost_ret (v := .agg #[.string c, .int .i64 v, .string h, .int .i64 p, .int .i64 s, .int .i64 d, .int .i64 g, .int .i64 a, .int .i64 b, .int .i64 i, .int .i64 u]) (by simp [results, Tryz.results49, go_sem]) rfl ⟨rfl, rfl⟩

/-- Has a run its hold for long enough, or none? -/
def leasedB (h : ByteArray) (u clock : Int) : Bool := h.toList.isEmpty || decide (wrap64 (clock + 4) ≤ u)

theorem mayLive_any (c h : ByteArray) (v p s d g a b i u clock : Int) (w : World) :
    Calls Tryz.prog 70 #[.agg #[.string c, .int .i64 v, .string h, .int .i64 p, .int .i64 s, .int .i64 d, .int .i64 g, .int .i64 a, .int .i64 b, .int .i64 i, .int .i64 u], .int .i64 clock] w fun e w' => e = .returned (.bool (leasedB h u clock)) ∧ w' = w.alloc (.cells #[.string c, .int .i64 v, .string h, .int .i64 p, .int .i64 s, .int .i64 d, .int .i64 g, .int .i64 a, .int .i64 b, .int .i64 i, .int .i64 u] 83) := by
  unfold leasedB
  cases hh : h.toList.isEmpty
  · go_enter Tryz.func70, Tryz.ntmps70
    go_wp2
    go_ret
    exact ⟨by simp, rfl⟩
  · go_enter Tryz.func70, Tryz.ntmps70
    go_wp2
    go_ret
    exact ⟨by simp, rfl⟩

theorem leased_any (c h : ByteArray) (v p s d g a b i u clock : Int) (w : World) :
    Calls Tryz.prog 72 #[.agg #[.string c, .int .i64 v, .string h, .int .i64 p, .int .i64 s, .int .i64 d, .int .i64 g, .int .i64 a, .int .i64 b, .int .i64 i, .int .i64 u], .int .i64 clock] w fun e w' => e = .returned (.bool (leasedB h u clock)) ∧ w' = w.alloc (.cells #[.string c, .int .i64 v, .string h, .int .i64 p, .int .i64 s, .int .i64 d, .int .i64 g, .int .i64 a, .int .i64 b, .int .i64 i, .int .i64 u] 73) := by
  unfold leasedB
  cases hh : h.toList.isEmpty
  · go_enter Tryz.func72, Tryz.ntmps72
    go_wp2
    go_ret
    exact ⟨by simp, rfl⟩
  · go_enter Tryz.func72, Tryz.ntmps72
    go_wp2
    go_ret
    exact ⟨by simp, rfl⟩

theorem specAlive_x (c h : ByteArray) (v p s d g a b i u : Int) (w : World) :
    Calls Tryz.prog 71 #[.agg #[.string c, .int .i64 v, .string h, .int .i64 p, .int .i64 s, .int .i64 d, .int .i64 g, .int .i64 a, .int .i64 b, .int .i64 i, .int .i64 u]] w fun e w' => e = .returned (.bool (aliveB a)) ∧ w' = w.alloc (.cells #[.string c, .int .i64 v, .string h, .int .i64 p, .int .i64 s, .int .i64 d, .int .i64 g, .int .i64 a, .int .i64 b, .int .i64 i, .int .i64 u] 73) := by
  by_cases h3 : a = 3
  · subst h3
    go_enter Tryz.func71, Tryz.ntmps71
    go_wp2
    go_ret
    exact ⟨rfl, rfl⟩
  · by_cases h4 : a = 4
    · subst h4
      go_enter Tryz.func71, Tryz.ntmps71
      go_wp2
      go_ret
      exact ⟨rfl, rfl⟩
    · have e3 : (a == 3) = false := by simpa using h3
      have e4 : (a == 4) = false := by simpa using h4
      have ea : aliveB a = (a == 6) := by simp [aliveB, e3, e4]
      rw [ea]
      clear ea h3 h4
      go_enter Tryz.func71, Tryz.ntmps71
      go_wp2
      go_ret
      exact ⟨rfl, rfl⟩

end Go.Proofs.YtgakmkhbnjofhaaGreatDoor
