/- The reader of a code is opened; a text is made n times. -/
import Derived.Test.YtmfcnckhgeggkaaDraw1
namespace Go.Proofs.Ytmfcnckhgeggkaa
open Go.RowKit
set_option linter.unusedVariables false

/-- The bytes that came in. -/
def CodeIn (w : World) (a : Option Addr) (n : Nat) (zs : List Int) : Prop :=
  n = 0 ∨ ∃ b off, a = some ⟨b, off, none⟩ ∧ b < w.heap.size ∧ ∀ i, i < n → w.cell? ⟨b, off + i, none⟩ = some (.int .u8 (zs.getD i 0)) ∧ 0 ≤ zs.getD i 0 ∧ zs.getD i 0 ≤ 255

theorem rd_new {w : World} {a : Option Addr} {n cap m : Nat} {zs : List Int} (h : CodeIn w a n zs) (hm : m ≤ n) (hm2 : m ≤ 2000) :
    Rd (w.alloc (.cells #[.slice a m cap, .int .i64 0] 95)) w.heap.size a m cap zs 0 := by
  refine ⟨by simp [go_sem], by simp [go_sem], by simp [go_sem], by simp, ⟨hm2, ?_⟩, by omega, by omega⟩
  rcases h with rfl | ⟨b, off, ha, hb, hc⟩
  · exact Or.inl (by omega)
  · refine Or.inr ⟨b, off, ha, by omega, by simp; omega, fun i hi => ?_⟩
    obtain ⟨h1, h2⟩ := hc i (by omega)
    exact ⟨by rw [World.cell?_alloc_past _ _ _ (by exact hb)]; exact h1, h2⟩

theorem open_any (a : Option Addr) (n cap : Nat) (zs : List Int) (w : World) (h : CodeIn w a n zs) (hn : n ≤ 1048576) (hcap : n ≤ cap) :
    Calls Try.prog 28 #[.slice a n cap] w fun e w' => e = .returned (.pointer (some ⟨w.heap.size, 0, none⟩)) ∧ ∃ m, Rd w' w.heap.size a m cap zs 0 ∧ Below w.heap.size w w' := by
  by_cases h2 : 2000 < n
  · rcases h with hz | ⟨b, off, rfl, hb, hc⟩
    · omega
    have hr := rd_new (w := w) (cap := cap) (m := 2000) (Or.inr ⟨b, off, rfl, hb, hc⟩) (by omega) (by omega)
    have i1 : (2000 : Int) ≤ (cap : Int) := by omega
    have Hr : Hid _ := hr
    clear hr hc
    go_enter Try.func28, Try.ntmps28
    go_wp2
    go_ret
    exact ⟨rfl, 2000, Hr.out, bl_alloc (Below.refl _ _) _⟩
  · have hr := rd_new (w := w) (cap := cap) (m := n) h (by omega) (by omega)
    have Hr : Hid _ := hr
    clear hr h
    go_enter Try.func28, Try.ntmps28
    go_wp2
    go_ret
    exact ⟨rfl, n, Hr.out, bl_alloc (Below.refl _ _) _⟩
end Go.Proofs.Ytmfcnckhgeggkaa
