/- What the reading of a parcel says of memory. -/
import Derived.Test.YteebdpnpeglimaaDoorFormP
import Derived.Test.YteebdpnpeglimaaDoorReadWants
namespace Go.Proofs.YteebdpnpeglimaaDoor
open Go.ChangeShapes Go.WideShapes Go.ChangeAt Go.RowKit

theorem cells_ws : Tryd.prog.cellsOf 22 = 1 := by kernel_rfl
theorem cells_parcel : Tryd.prog.cellsOf 24 = 7 := by kernel_rfl
theorem list7p {α : Type} {l : List α} (h : l.length = 7) : ∃ a b c d e f g, l = [a, b, c, d, e, f, g] := by
  match l, h with
  | [a, b, c, d, e, f, g], _ => exact ⟨a, b, c, d, e, f, g, rfl⟩

section
variable {H : Type} {enc : TypeId × Value → H} {Z : World} {base : Nat} {spare : Nat → Bool} {held : Bool} {fuel : Nat} {cs : List Value} {x : DataW H × List MemPlace}
theorem in_wants {v : Value} (hx : DataW.trod enc Tryd.prog Z base spare held fuel 22 [v] = some x) : ∃ l, W.In Z v l := by
  rcases W.read_wants hx with ⟨a, cap, h⟩ | ⟨b, off, cap, rs, h, -, hl, hb, hR, hf⟩
  · simp only [List.cons.injEq, and_true] at h; exact ⟨[], Or.inl ⟨rfl, a, cap, h⟩⟩
  · simp only [List.cons.injEq, and_true] at h; exact ⟨rs, Or.inr ⟨b, off, cap, h, hl, hb, hR, hf⟩⟩
theorem read_parcel (hx : DataW.trod enc Tryd.prog Z base spare held fuel 24 cs = some x) :
    ∃ (p : ParD) (v5 : Value), cs = [.int .i64 p.k, .string p.b, .int .i64 p.se, v5, .string p.h, .string p.c, .int .i64 p.t] ∧ p.b.size ≤ maxLen ∧ p.h.size ≤ maxLen ∧ p.c.size ≤ maxLen ∧ W.In Z v5 p.ws := by
  obtain ⟨xs, n, rfl, -, hl, hn, hf⟩ := DataW.trod_struct Tryd.underlying24 hx
  rw [cells_parcel] at hl
  obtain ⟨c0, c1, c2, c3, c4, c5, c6, rfl⟩ := list7p hl
  have hn' : xs.length = 7 := hn
  have f0 : DataW.trod enc Tryd.prog Z base spare held n 3 (List.take (Tryd.prog.cellsOf 3) [c0, c1, c2, c3, c4, c5, c6]) = xs[0]? := hf 0 _ rfl
  have f1 : DataW.trod enc Tryd.prog Z base spare held n 9 (List.take (Tryd.prog.cellsOf 9) [c1, c2, c3, c4, c5, c6]) = xs[1]? := hf 1 _ rfl
  have f2 : DataW.trod enc Tryd.prog Z base spare held n 3 (List.take (Tryd.prog.cellsOf 3) [c2, c3, c4, c5, c6]) = xs[2]? := hf 2 _ rfl
  have f3 : DataW.trod enc Tryd.prog Z base spare held n 22 (List.take (Tryd.prog.cellsOf 22) [c3, c4, c5, c6]) = xs[3]? := hf 3 _ rfl
  have f4 : DataW.trod enc Tryd.prog Z base spare held n 9 (List.take (Tryd.prog.cellsOf 9) [c4, c5, c6]) = xs[4]? := hf 4 _ rfl
  have f5 : DataW.trod enc Tryd.prog Z base spare held n 9 (List.take (Tryd.prog.cellsOf 9) [c5, c6]) = xs[5]? := hf 5 _ rfl
  have f6 : DataW.trod enc Tryd.prog Z base spare held n 3 (List.take (Tryd.prog.cellsOf 3) [c6]) = xs[6]? := hf 6 _ rfl
  simp only [cells_int, cells_string, cells_ws, List.take_succ_cons, List.take_zero] at f0 f1 f2 f3 f4 f5 f6
  obtain ⟨y0, g0⟩ := some_of hn' (by decide) f0
  obtain ⟨y1, g1⟩ := some_of hn' (by decide) f1
  obtain ⟨y2, g2⟩ := some_of hn' (by decide) f2
  obtain ⟨y3, g3⟩ := some_of hn' (by decide) f3
  obtain ⟨y4, g4⟩ := some_of hn' (by decide) f4
  obtain ⟨y5, g5⟩ := some_of hn' (by decide) f5
  obtain ⟨y6, g6⟩ := some_of hn' (by decide) f6
  obtain ⟨k, e0, -, w0⟩ := DataW.trod_int Tryd.underlying3 g0
  obtain ⟨b, e1, -, w1⟩ := DataW.trod_string Tryd.underlying9 g1
  obtain ⟨s, e2, -, w2⟩ := DataW.trod_int Tryd.underlying3 g2
  obtain ⟨ws, h3⟩ := in_wants g3
  obtain ⟨h, e4, -, w4⟩ := DataW.trod_string Tryd.underlying9 g4
  obtain ⟨c, e5, -, w5⟩ := DataW.trod_string Tryd.underlying9 g5
  obtain ⟨t, e6, -, w6⟩ := DataW.trod_int Tryd.underlying3 g6
  simp only [List.cons.injEq, and_true] at e0 e1 e2 e4 e5 e6
  subst e0 e1 e2 e4 e5 e6
  exact ⟨⟨k, b, s, ws, h, c, t⟩, c3, rfl, w1, w4, w5, h3⟩
end
end Go.Proofs.YteebdpnpeglimaaDoor
