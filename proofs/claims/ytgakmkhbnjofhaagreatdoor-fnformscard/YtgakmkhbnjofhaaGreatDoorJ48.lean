import Derived.Test.YtgakmkhbnjofhaaGreatDoorJ12
/- A reader is opened. -/
namespace Go.Proofs.YtgakmkhbnjofhaaGreatDoor
open Go.RowKit
set_option linter.unusedVariables false

theorem openQ (a : Option Addr) (n cap : Nat) (zs : List Int) (w : World) (h : CodeIn w a n zs) (hn : n ≤ 1048576) (hcap : n ≤ cap) :
    Calls Tryz.prog 17 #[.slice a n cap] w fun e w' => e = .returned (.pointer (some ⟨w.heap.size, 0, none⟩)) ∧ Rq w' w.heap.size 0 ∧ Below w.heap.size w w' := by
  by_cases h2 : 2000 < n
  · rcases h with hz | ⟨b, off, rfl, hb, hc⟩
    · omega
    have hr := rd_new (w := w) (cap := cap) (m := 2000) (Or.inr ⟨b, off, rfl, hb, hc⟩) (by omega) (by omega)
    have i1 : (2000 : Int) ≤ (cap : Int) := by omega
    have Hr : Hid _ := hr
    clear hr hc
    go_enter Tryz.func17, Tryz.ntmps17
    go_wp2
    go_ret
    exact ⟨rfl, ⟨_, _, _, _, _, Hr.out, Int.le_refl _, Or.inr ⟨b, off, rfl, hb⟩⟩, bl_alloc (Below.refl _ _) _⟩
  · have hr := rd_new (w := w) (cap := cap) (m := n) h (by omega) (by omega)
    have Hr : Hid _ := hr
    have HZ : Hid (CodeIn w a n zs) := h
    clear hr h
    go_enter Tryz.func17, Tryz.ntmps17
    go_wp2
    go_ret
    refine ⟨rfl, ⟨_, _, _, _, _, Hr.out, Int.le_refl _, ?_⟩, bl_alloc (Below.refl _ _) _⟩
    rcases HZ.out with hz | ⟨b, off, h1, hb, -⟩
    · exact Or.inl hz
    · exact Or.inr ⟨b, off, h1, hb⟩
theorem CodeIn.bel {w w' : World} {a : Option Addr} {n : Nat} {zs : List Int} (h : CodeIn w a n zs) (hb : Below w.heap.size w w') : CodeIn w' a n zs := by
  rcases h with h | ⟨b, off, ha, hbb, hc⟩
  · exact Or.inl h
  · exact Or.inr ⟨b, off, ha, Nat.lt_of_lt_of_le hbb hb.size, fun i hi => ⟨(hb.cell (p := ⟨b, off + i, none⟩) hbb).trans (hc i hi).1, (hc i hi).2⟩⟩
end Go.Proofs.YtgakmkhbnjofhaaGreatDoor
