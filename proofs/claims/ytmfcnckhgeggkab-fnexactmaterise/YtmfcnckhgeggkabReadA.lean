/- What the reading of an ask says of the cells. -/
import Derived.Test.YtmfcnckhgeggkabRead
namespace Go.Proofs.Ytmfcnckhgeggkab
open Go.ChangeShapes Go.WideShapes Go.ChangeAt Go.RowKit

theorem cells_ask : Try.prog.cellsOf 108 = 4 := by kernel_rfl
theorem list4 {α : Type} {l : List α} (h : l.length = 4) : ∃ a b c d, l = [a, b, c, d] := by
  match l, h with
  | [a, b, c, d], _ => exact ⟨a, b, c, d, rfl⟩

section
variable {H : Type} {enc : TypeId × Value → H} {W : World} {base : Nat} {spare : Nat → Bool} {held : Bool} {fuel : Nat} {cs : List Value} {x : DataW H × List MemPlace}
theorem read_ask (hx : DataW.trod enc Try.prog W base spare held fuel 108 cs = some x) :
    ∃ (h c : ByteArray) (f t : Int), cs = [.string h, .string c, .int .i64 f, .int .i64 t] ∧ h.size ≤ maxLen ∧ c.size ≤ maxLen := by
  obtain ⟨xs, n, rfl, -, hl, hn, hf⟩ := DataW.trod_struct Try.underlying108 hx
  rw [cells_ask] at hl
  obtain ⟨c0, c1, c2, c3, rfl⟩ := list4 hl
  have hn' : xs.length = 4 := hn
  have f0 : DataW.trod enc Try.prog W base spare held n 9 (List.take (Try.prog.cellsOf 9) [c0, c1, c2, c3]) = xs[0]? := hf 0 _ rfl
  have f1 : DataW.trod enc Try.prog W base spare held n 9 (List.take (Try.prog.cellsOf 9) [c1, c2, c3]) = xs[1]? := hf 1 _ rfl
  have f2 : DataW.trod enc Try.prog W base spare held n 3 (List.take (Try.prog.cellsOf 3) [c2, c3]) = xs[2]? := hf 2 _ rfl
  have f3 : DataW.trod enc Try.prog W base spare held n 3 (List.take (Try.prog.cellsOf 3) [c3]) = xs[3]? := hf 3 _ rfl
  simp only [cells_int, cells_string, List.take_succ_cons, List.take_zero] at f0 f1 f2 f3
  obtain ⟨y0, g0⟩ := some_of hn' (by decide) f0
  obtain ⟨y1, g1⟩ := some_of hn' (by decide) f1
  obtain ⟨y2, g2⟩ := some_of hn' (by decide) f2
  obtain ⟨y3, g3⟩ := some_of hn' (by decide) f3
  obtain ⟨h, e0, -, w0⟩ := DataW.trod_string Try.underlying9 g0
  obtain ⟨c, e1, -, w1⟩ := DataW.trod_string Try.underlying9 g1
  obtain ⟨f, e2, -, w2⟩ := DataW.trod_int Try.underlying3 g2
  obtain ⟨t, e3, -, w3⟩ := DataW.trod_int Try.underlying3 g3
  simp only [List.cons.injEq, and_true] at e0 e1 e2 e3
  subst e0 e1 e2 e3
  exact ⟨h, c, f, t, rfl, w0, w1⟩
end
end Go.Proofs.Ytmfcnckhgeggkab
