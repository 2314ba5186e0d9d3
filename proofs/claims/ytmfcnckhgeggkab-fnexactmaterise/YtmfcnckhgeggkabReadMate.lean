/- What the reading of a mate says of memory. -/
import Derived.Test.YtmfcnckhgeggkabReadRuns
import Derived.Test.YtmfcnckhgeggkabReadWants
import Derived.Test.YtmfcnckhgeggkabReadAsks
import Derived.Test.YtmfcnckhgeggkabLawValid
namespace Go.Proofs.Ytmfcnckhgeggkab
open Go.ChangeShapes Go.WideShapes Go.ChangeAt Go.RowKit

theorem cells_mate : Try.prog.cellsOf 49 = 9 := by kernel_rfl
theorem cells_bool : Try.prog.cellsOf 4 = 1 := by kernel_rfl
theorem cells_ws : Try.prog.cellsOf 46 = 1 := by kernel_rfl
theorem cells_rs : Try.prog.cellsOf 22 = 1 := by kernel_rfl
theorem cells_qs : Try.prog.cellsOf 47 = 1 := by kernel_rfl
theorem list9 {α : Type} {l : List α} (h : l.length = 9) : ∃ a b c d e f g i j, l = [a, b, c, d, e, f, g, i, j] := by
  match l, h with
  | [a, b, c, d, e, f, g, i, j], _ => exact ⟨a, b, c, d, e, f, g, i, j, rfl⟩

section
variable {H : Type} {enc : TypeId × Value → H} {Z : World} {base : Nat} {spare : Nat → Bool} {held : Bool} {fuel : Nat} {cs : List Value} {x : DataW H × List MemPlace}
theorem in_wants {v : Value} (hx : DataW.trod enc Try.prog Z base spare held fuel 46 [v] = some x) : ∃ l, W.In Z v l := by
  rcases W.read_wants hx with ⟨a, cap, h⟩ | ⟨b, off, cap, rs, h, -, hl, hb, hR, hf⟩
  · simp only [List.cons.injEq, and_true] at h; exact ⟨[], Or.inl ⟨rfl, a, cap, h⟩⟩
  · simp only [List.cons.injEq, and_true] at h; exact ⟨rs, Or.inr ⟨b, off, cap, h, hl, hb, hR, hf⟩⟩
theorem in_runs {v : Value} (hx : DataW.trod enc Try.prog Z base spare held fuel 22 [v] = some x) : ∃ l, In Z v l := by
  rcases read_runs hx with ⟨a, cap, h⟩ | ⟨b, off, cap, rs, h, -, hl, hb, hR, hf⟩
  · simp only [List.cons.injEq, and_true] at h; exact ⟨[], Or.inl ⟨rfl, a, cap, h⟩⟩
  · simp only [List.cons.injEq, and_true] at h; exact ⟨rs, Or.inr ⟨b, off, cap, h, hl, hb, hR, hf⟩⟩
theorem in_asks {v : Value} (hx : DataW.trod enc Try.prog Z base spare held fuel 47 [v] = some x) : ∃ l, A.In Z v l := by
  rcases A.read_asks hx with ⟨a, cap, h⟩ | ⟨b, off, cap, rs, h, -, hl, hb, hR, hf⟩
  · simp only [List.cons.injEq, and_true] at h; exact ⟨[], Or.inl ⟨rfl, a, cap, h⟩⟩
  · simp only [List.cons.injEq, and_true] at h; exact ⟨rs, Or.inr ⟨b, off, cap, h, hl, hb, hR, hf⟩⟩
theorem read_mate (hx : DataW.trod enc Try.prog Z base spare held fuel 49 cs = some x) :
    ∃ (m : MateD) (v1 v2 v3 v4 : Value), cs = [.string m.nm, .bool m.up, .int .i64 m.ck, .bool m.kn, .int .i64 m.se, v1, v2, v3, v4] ∧ m.nm.size ≤ maxLen ∧ W.In Z v1 m.ws ∧ In Z v2 m.rs ∧ A.In Z v3 m.qs ∧ A.In Z v4 m.gs := by
  obtain ⟨xs, n, rfl, -, hl, hn, hf⟩ := DataW.trod_struct Try.underlying49 hx
  rw [cells_mate] at hl
  obtain ⟨c0, c1, c2, c3, c4, c5, c6, c7, c8, rfl⟩ := list9 hl
  have hn' : xs.length = 9 := hn
  have f0 : DataW.trod enc Try.prog Z base spare held n 9 (List.take (Try.prog.cellsOf 9) [c0, c1, c2, c3, c4, c5, c6, c7, c8]) = xs[0]? := hf 0 _ rfl
  have f1 : DataW.trod enc Try.prog Z base spare held n 4 (List.take (Try.prog.cellsOf 4) [c1, c2, c3, c4, c5, c6, c7, c8]) = xs[1]? := hf 1 _ rfl
  have f2 : DataW.trod enc Try.prog Z base spare held n 3 (List.take (Try.prog.cellsOf 3) [c2, c3, c4, c5, c6, c7, c8]) = xs[2]? := hf 2 _ rfl
  have f3 : DataW.trod enc Try.prog Z base spare held n 4 (List.take (Try.prog.cellsOf 4) [c3, c4, c5, c6, c7, c8]) = xs[3]? := hf 3 _ rfl
  have f4 : DataW.trod enc Try.prog Z base spare held n 3 (List.take (Try.prog.cellsOf 3) [c4, c5, c6, c7, c8]) = xs[4]? := hf 4 _ rfl
  have f5 : DataW.trod enc Try.prog Z base spare held n 46 (List.take (Try.prog.cellsOf 46) [c5, c6, c7, c8]) = xs[5]? := hf 5 _ rfl
  have f6 : DataW.trod enc Try.prog Z base spare held n 22 (List.take (Try.prog.cellsOf 22) [c6, c7, c8]) = xs[6]? := hf 6 _ rfl
  have f7 : DataW.trod enc Try.prog Z base spare held n 47 (List.take (Try.prog.cellsOf 47) [c7, c8]) = xs[7]? := hf 7 _ rfl
  have f8 : DataW.trod enc Try.prog Z base spare held n 47 (List.take (Try.prog.cellsOf 47) [c8]) = xs[8]? := hf 8 _ rfl
  simp only [cells_int, cells_string, cells_bool, cells_ws, cells_rs, cells_qs, List.take_succ_cons, List.take_zero] at f0 f1 f2 f3 f4 f5 f6 f7 f8
  obtain ⟨y0, g0⟩ := some_of hn' (by decide) f0
  obtain ⟨y1, g1⟩ := some_of hn' (by decide) f1
  obtain ⟨y2, g2⟩ := some_of hn' (by decide) f2
  obtain ⟨y3, g3⟩ := some_of hn' (by decide) f3
  obtain ⟨y4, g4⟩ := some_of hn' (by decide) f4
  obtain ⟨y5, g5⟩ := some_of hn' (by decide) f5
  obtain ⟨y6, g6⟩ := some_of hn' (by decide) f6
  obtain ⟨y7, g7⟩ := some_of hn' (by decide) f7
  obtain ⟨y8, g8⟩ := some_of hn' (by decide) f8
  obtain ⟨nm, e0, -, w0⟩ := DataW.trod_string Try.underlying9 g0
  obtain ⟨up, e1, -⟩ := DataW.trod_bool Try.underlying4 g1
  obtain ⟨ck, e2, -, w2⟩ := DataW.trod_int Try.underlying3 g2
  obtain ⟨kn, e3, -⟩ := DataW.trod_bool Try.underlying4 g3
  obtain ⟨se, e4, -, w4⟩ := DataW.trod_int Try.underlying3 g4
  obtain ⟨ws, h5⟩ := in_wants g5
  obtain ⟨rs, h6⟩ := in_runs g6
  obtain ⟨qs, h7⟩ := in_asks g7
  obtain ⟨gs, h8⟩ := in_asks g8
  simp only [List.cons.injEq, and_true] at e0 e1 e2 e3 e4
  subst e0 e1 e2 e3 e4
  exact ⟨⟨nm, up, ck, kn, se, ws, rs, qs, gs⟩, c5, c6, c7, c8, rfl, w0, h5, h6, h7, h8⟩
end
end Go.Proofs.Ytmfcnckhgeggkab
