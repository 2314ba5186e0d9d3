import Derived.Test.YtefkdohkjdopeaaGreatDoorJ01
import Derived.ProofKit
import Derived.OpenShut
import Derived.Test.YtefkdohkjdopeaaGreatDoorJ03
import Derived.ChangeOld
import Derived.Test.YtefkdohkjdopeaaGreatDoorJ08
import Derived.Test.YtefkdohkjdopeaaGreatDoorJ02
import Derived.Test.YtefkdohkjdopeaaGreatDoorJ11
import Derived.Test.YtefkdohkjdopeaaGreatDoorJ10
import Derived.Test.YtefkdohkjdopeaaGreatDoorJ05
import Derived.Deep.RegionHeld3
import Derived.Laws.Pointers
import Derived.StillTactics
import Derived.Test.YtefkdohkjdopeaaGreatDoorJ36
namespace Go.Proofs.YtefkdohkjdopeaaGreatDoor
open Go.ChangeShapes Go.WideShapes Go.ChangeAt Go.RowKit
theorem cells_want : Tryz.prog.cellsOf 87 = 7 := by kernel_rfl
theorem cells_int : Tryz.prog.cellsOf 3 = 1 := by kernel_rfl
theorem cells_string : Tryz.prog.cellsOf 9 = 1 := by kernel_rfl
def I64 (n : Int) : Prop := -9223372036854775808 ≤ n ∧ n ≤ 9223372036854775807
theorem I64_of {n : Int} (h : (Lit.int .i64 n).wf = true) : I64 n := by
 simpa [Lit.wf, IntKind.min, IntKind.max, IntKind.signed, IntKind.bits, I64] using h
theorem some_of {α : Type} {l : List α} {n i : Nat} {x : Option α} (hl : l.length = n) (hi : i < n) (h : x = l[i]?) : ∃ y, x = some y := by
 subst hl; exact ⟨l[i], by rw [h]; exact List.getElem?_eq_getElem hi⟩
theorem list7 {α : Type} {l : List α} (h : l.length = 7) : ∃ a b c d e f g, l = [a, b, c, d, e, f, g] := by
 match l, h with
 | [a, b, c, d, e, f, g], _ => exact ⟨a, b, c, d, e, f, g, rfl⟩
section
variable {H : Type} {enc : TypeId × Value → H} {W : World} {base : Nat} {spare : Nat → Bool} {held : Bool} {fuel : Nat} {cs : List Value} {x : DataW H × List MemPlace}
theorem read_want (hx : DataW.trod enc Tryz.prog W base spare held fuel 87 cs = some x) :
  ∃ (c : ByteArray) (v : Int) (h : ByteArray) (p s d g : Int), cs = [.string c, .int .i64 v, .string h, .int .i64 p, .int .i64 s, .int .i64 d, .int .i64 g] ∧ c.size ≤ maxLen ∧ h.size ≤ maxLen ∧ I64 v ∧ I64 p ∧ I64 s ∧ I64 d ∧ I64 g := by
 obtain ⟨xs, n, rfl, -, hl, hn, hf⟩ := DataW.trod_struct Tryz.underlying87 hx
 rw [cells_want] at hl
 obtain ⟨c0, c1, c2, c3, c4, c5, c6, rfl⟩ := list7 hl
 have hn' : xs.length = 7 := hn
 have f0 : DataW.trod enc Tryz.prog W base spare held n 9 (List.take (Tryz.prog.cellsOf 9) [c0, c1, c2, c3, c4, c5, c6]) = xs[0]? := hf 0 _ rfl
 have f1 : DataW.trod enc Tryz.prog W base spare held n 3 (List.take (Tryz.prog.cellsOf 3) [c1, c2, c3, c4, c5, c6]) = xs[1]? := hf 1 _ rfl
 have f2 : DataW.trod enc Tryz.prog W base spare held n 9 (List.take (Tryz.prog.cellsOf 9) [c2, c3, c4, c5, c6]) = xs[2]? := hf 2 _ rfl
 have f3 : DataW.trod enc Tryz.prog W base spare held n 3 (List.take (Tryz.prog.cellsOf 3) [c3, c4, c5, c6]) = xs[3]? := hf 3 _ rfl
 have f4 : DataW.trod enc Tryz.prog W base spare held n 3 (List.take (Tryz.prog.cellsOf 3) [c4, c5, c6]) = xs[4]? := hf 4 _ rfl
 have f5 : DataW.trod enc Tryz.prog W base spare held n 3 (List.take (Tryz.prog.cellsOf 3) [c5, c6]) = xs[5]? := hf 5 _ rfl
 have f6 : DataW.trod enc Tryz.prog W base spare held n 3 (List.take (Tryz.prog.cellsOf 3) [c6]) = xs[6]? := hf 6 _ rfl
 simp only [cells_int, cells_string, List.take_succ_cons, List.take_zero] at f0 f1 f2 f3 f4 f5 f6
 obtain ⟨y0, g0⟩ := some_of hn' (by decide) f0
 obtain ⟨y1, g1⟩ := some_of hn' (by decide) f1
 obtain ⟨y2, g2⟩ := some_of hn' (by decide) f2
 obtain ⟨y3, g3⟩ := some_of hn' (by decide) f3
 obtain ⟨y4, g4⟩ := some_of hn' (by decide) f4
 obtain ⟨y5, g5⟩ := some_of hn' (by decide) f5
 obtain ⟨y6, g6⟩ := some_of hn' (by decide) f6
 obtain ⟨c, e0, -, w0⟩ := DataW.trod_string Tryz.underlying9 g0
 obtain ⟨v, e1, -, w1⟩ := DataW.trod_int Tryz.underlying3 g1
 obtain ⟨h, e2, -, w2⟩ := DataW.trod_string Tryz.underlying9 g2
 obtain ⟨p, e3, -, w3⟩ := DataW.trod_int Tryz.underlying3 g3
 obtain ⟨s, e4, -, w4⟩ := DataW.trod_int Tryz.underlying3 g4
 obtain ⟨d, e5, -, w5⟩ := DataW.trod_int Tryz.underlying3 g5
 obtain ⟨g, e6, -, w6⟩ := DataW.trod_int Tryz.underlying3 g6
 simp only [List.cons.injEq, and_true] at e0 e1 e2 e3 e4 e5 e6
 subst e0 e1 e2 e3 e4 e5 e6
 exact ⟨c, v, h, p, s, d, g, rfl, w0, w2, I64_of w1, I64_of w3, I64_of w4, I64_of w5, I64_of w6⟩
end
end Go.Proofs.YtefkdohkjdopeaaGreatDoor
namespace Go.Proofs.YtefkdohkjdopeaaGreatDoor.W
open Go.ChangeShapes Go.WideShapes Go.ChangeAt Go.RowKit
theorem exists_list {α : Type} (P : Nat → α → Prop) : ∀ (n : Nat), (∀ i, i < n → ∃ r, P i r) → ∃ rs : List α, rs.length = n ∧ ∀ i r, rs[i]? = some r → P i r
 | 0, _ => ⟨[], rfl, fun i r h => by simp at h⟩
 | n + 1, h => by
  obtain ⟨rs, hl, hr⟩ := exists_list P n (fun i hi => h i (by omega))
  obtain ⟨r, hp⟩ := h n (by omega)
  refine ⟨rs ++ [r], by simp [hl], fun i q hq => ?_⟩
  rcases Nat.lt_or_ge i n with hi | hi
  ·
   rw [List.getElem?_append_left (by omega)] at hq; exact hr i q hq
  ·
   rw [List.getElem?_append_right (by omega)] at hq
   by_cases e : i = n
   ·
    subst e; simp [hl] at hq; subst hq; exact hp
   ·
    rw [List.getElem?_eq_none (by simp; omega)] at hq; cases hq
section
variable {H : Type} {enc : TypeId × Value → H} {W : World} {base : Nat} {spare : Nat → Bool} {held : Bool} {fuel : Nat} {cs : List Value} {x : DataW H × List MemPlace}
theorem read_wants (hx : DataW.trod enc Tryz.prog W base spare held fuel 26 cs = some x) :
  (∃ (a : Option Addr) (cap : Nat), cs = [.slice a 0 cap]) ∨
  ∃ (b off cap : Nat) (rs : List WantD), cs = [.slice (some ⟨b, off, none⟩) rs.length cap] ∧ 0 < rs.length ∧ rs.length ≤ maxLen ∧ b < W.heap.size ∧ RowsAt W b off rs ∧ ∀ r ∈ rs, r.fits := by
 rcases DataW.trod_slice Tryz.underlying26 hx with ⟨hcs, -⟩ | ⟨a, len, cap, elems, rest, n, -, hcs, -, hb, hlc, hcm, hel, hat, -⟩
 ·
  exact Or.inl ⟨none, 0, hcs⟩
 by_cases h0 : len = 0
 ·
  subst h0; exact Or.inl ⟨some a, cap, hcs⟩
 refine Or.inr ?_
 rw [cells_want] at hat
 have hall : ∀ i, i < len → ∃ r : WantD, W.cells? base (a.add (i * 7)) 7 = some r.cells ∧ r.fits := by
  intro i hi
  have h1 := hat i hi
  rw [List.getElem?_eq_getElem (by omega)] at h1
  obtain ⟨ws, hw, ht⟩ := Option.bind_eq_some_iff.1 h1
  obtain ⟨c, v, h, p, s, d, g, rfl, w0, w1, -⟩ := read_want ht
  exact ⟨⟨c, h, v, p, s, d, g⟩, hw, w0, w1⟩
 obtain ⟨rs, hlen, hrs⟩ := exists_list _ len hall
 have hcell : ∀ i r, rs[i]? = some r → ∀ j v, r.cells[j]? = some v → W.cell? ((a.add (i * 7)).add j) = some v := by
  intro i r hr j v hj
  obtain ⟨hw, -⟩ := hrs i r hr
  have hlt : j < 7 := by
   rcases Nat.lt_or_ge j 7 with h' | h'
   ·
    exact h'
   ·
    rw [List.getElem?_eq_none (by simpa [WantD.cells] using h')] at hj; cases hj
  have h2 := (World.cells?_some hw).2.2 j hlt
  rw [h2, hj]
 obtain ⟨r0, hr0⟩ : ∃ r, rs[0]? = some r := ⟨rs[0]'(by omega), List.getElem?_eq_getElem (by omega)⟩
 have hc0 := hcell 0 r0 hr0 0 (.string r0.c) rfl
 obtain ⟨b, off, spot⟩ := a
 have hspot : spot = none := by
  have := World.cell?_spot hc0
  simpa [Addr.add] using this
 subst hspot
 have hblk : b < W.heap.size := World.cells?_block (hrs 0 r0 hr0).1 (by omega)
 refine ⟨b, off, cap, rs, by rw [hlen]; exact hcs, by omega, by omega, hblk, fun i r hr j v hj => ?_, fun r hr => ?_⟩
 ·
  have := hcell i r hr j v hj
  rw [Addr.add_mid, Addr.add_mid] at this
  exact this
 ·
  obtain ⟨i, hi⟩ := List.getElem?_of_mem hr
  exact (hrs i r hi).2
end
end Go.Proofs.YtefkdohkjdopeaaGreatDoor.W
namespace Go.Proofs.YtefkdohkjdopeaaGreatDoor.P
open Go.ChangeShapes Go.WideShapes Go.ChangeAt Go.RowKit
theorem cells_place : Tryz.prog.cellsOf 84 = 3 := by kernel_rfl
theorem cells_pws : Tryz.prog.cellsOf 26 = 1 := by kernel_rfl
theorem list3 {α : Type} {l : List α} (h : l.length = 3) : ∃ a b c, l = [a, b, c] := by
 match l, h with
 | [a, b, c], _ => exact ⟨a, b, c, rfl⟩
section
variable {H : Type} {enc : TypeId × Value → H} {Z : World} {base : Nat} {spare : Nat → Bool} {held : Bool} {fuel : Nat} {cs : List Value} {x : DataW H × List MemPlace}
theorem in_pwants {v : Value} (hx : DataW.trod enc Tryz.prog Z base spare held fuel 26 [v] = some x) : ∃ a c l, v = .slice a l.length c ∧ W.In Z v l := by
 rcases W.read_wants hx with ⟨a, cap, h⟩ | ⟨b, off, cap, rs, h, -, hl, hb, hR, hf⟩
 ·
  simp only [List.cons.injEq, and_true] at h; exact ⟨a, cap, [], h, Or.inl ⟨rfl, a, cap, h⟩⟩
 ·
  simp only [List.cons.injEq, and_true] at h; exact ⟨_, cap, rs, h, Or.inr ⟨b, off, cap, h, hl, hb, hR, hf⟩⟩
theorem read_place (hx : DataW.trod enc Tryz.prog Z base spare held fuel 84 cs = some x) :
  ∃ (b : ByteArray) (s : Int) (a : Option Addr) (c : Nat) (ws : List W.WantD), cs = [.string b, .int .i64 s, .slice a ws.length c] ∧ b.size ≤ maxLen ∧ W.In Z (.slice a ws.length c) ws := by
 obtain ⟨xs, n, rfl, -, hl, hn, hf⟩ := DataW.trod_struct Tryz.underlying84 hx
 rw [cells_place] at hl
 obtain ⟨c0, c1, c2, rfl⟩ := list3 hl
 have hn' : xs.length = 3 := hn
 have f0 : DataW.trod enc Tryz.prog Z base spare held n 9 (List.take (Tryz.prog.cellsOf 9) [c0, c1, c2]) = xs[0]? := hf 0 _ rfl
 have f1 : DataW.trod enc Tryz.prog Z base spare held n 3 (List.take (Tryz.prog.cellsOf 3) [c1, c2]) = xs[1]? := hf 1 _ rfl
 have f2 : DataW.trod enc Tryz.prog Z base spare held n 26 (List.take (Tryz.prog.cellsOf 26) [c2]) = xs[2]? := hf 2 _ rfl
 simp only [cells_int, cells_string, cells_pws, List.take_succ_cons, List.take_zero] at f0 f1 f2
 obtain ⟨y0, g0⟩ := some_of hn' (by decide) f0
 obtain ⟨y1, g1⟩ := some_of hn' (by decide) f1
 obtain ⟨y2, g2⟩ := some_of hn' (by decide) f2
 obtain ⟨b, e0, -, w0⟩ := DataW.trod_string Tryz.underlying9 g0
 obtain ⟨s, e1, -, w1⟩ := DataW.trod_int Tryz.underlying3 g1
 obtain ⟨a, c, ws, e2, h2⟩ := in_pwants g2
 simp only [List.cons.injEq, and_true] at e0 e1
 subst e0 e1 e2
 exact ⟨b, s, a, c, ws, rfl, w0, h2⟩
theorem read_places (hx : DataW.trod enc Tryz.prog Z base spare held fuel 23 cs = some x) :
  (∃ (a : Option Addr) (cap : Nat), cs = [.slice a 0 cap]) ∨
  ∃ (b off cap : Nat) (rs : List PlaceD), cs = [.slice (some ⟨b, off, none⟩) rs.length cap] ∧ 0 < rs.length ∧ rs.length ≤ maxLen ∧ b < Z.heap.size ∧ RowsAt Z b off rs ∧ ∀ r ∈ rs, r.inn Z := by
 rcases DataW.trod_slice Tryz.underlying23 hx with ⟨hcs, -⟩ | ⟨a, len, cap, elems, rest, n, -, hcs, -, hb, hlc, hcm, hel, hat, -⟩
 ·
  exact Or.inl ⟨none, 0, hcs⟩
 by_cases h0 : len = 0
 ·
  subst h0; exact Or.inl ⟨some a, cap, hcs⟩
 refine Or.inr ?_
 rw [cells_place] at hat
 have hall : ∀ i, i < len → ∃ r : PlaceD, Z.cells? base (a.add (i * 3)) 3 = some r.cells ∧ r.inn Z := by
  intro i hi
  have h1 := hat i hi
  rw [List.getElem?_eq_getElem (by omega)] at h1
  obtain ⟨wz, hw, ht⟩ := Option.bind_eq_some_iff.1 h1
  obtain ⟨b', s', a', c', ws', rfl, w0, w1⟩ := read_place ht
  exact ⟨⟨b', s', a', c', ws'⟩, hw, w0, w1⟩
 obtain ⟨rs, hlen, hrs⟩ := W.exists_list _ len hall
 have hcell : ∀ i r, rs[i]? = some r → ∀ j v, r.cells[j]? = some v → Z.cell? ((a.add (i * 3)).add j) = some v := by
  intro i r hr j v hj
  obtain ⟨hw, -⟩ := hrs i r hr
  have hlt : j < 3 := by
   rcases Nat.lt_or_ge j 3 with h' | h'
   ·
    exact h'
   ·
    rw [List.getElem?_eq_none (by simpa [PlaceD.cells] using h')] at hj; cases hj
  have h2 := (World.cells?_some hw).2.2 j hlt
  rw [h2, hj]
 obtain ⟨r0, hr0⟩ : ∃ r, rs[0]? = some r := ⟨rs[0]'(by omega), List.getElem?_eq_getElem (by omega)⟩
 have hc0 := hcell 0 r0 hr0 0 (.string r0.b) rfl
 obtain ⟨b, off, spot⟩ := a
 have hspot : spot = none := by
  have := World.cell?_spot hc0
  simpa [Addr.add] using this
 subst hspot
 have hblk : b < Z.heap.size := World.cells?_block (hrs 0 r0 hr0).1 (by omega)
 refine ⟨b, off, cap, rs, by rw [hlen]; exact hcs, by omega, by omega, hblk, fun i r hr j v hj => ?_, fun r hr => ?_⟩
 ·
  have := hcell i r hr j v hj
  rw [Addr.add_mid, Addr.add_mid] at this
  exact this
 ·
  obtain ⟨i, hi⟩ := List.getElem?_of_mem hr
  exact (hrs i r hi).2
end
end Go.Proofs.YtefkdohkjdopeaaGreatDoor.P
namespace Go.Proofs.YtefkdohkjdopeaaGreatDoor
open Go.ChangeShapes Go.WideShapes Go.ChangeAt Go.RowKit
theorem cells_grant : Tryz.prog.cellsOf 81 = 5 := by kernel_rfl
theorem list5 {α : Type} {l : List α} (h : l.length = 5) : ∃ a b c d e, l = [a, b, c, d, e] := by
 match l, h with
 | [a, b, c, d, e], _ => exact ⟨a, b, c, d, e, rfl⟩
section
variable {H : Type} {enc : TypeId × Value → H} {W : World} {base : Nat} {spare : Nat → Bool} {held : Bool} {fuel : Nat} {cs : List Value} {x : DataW H × List MemPlace}
theorem read_grant (hx : DataW.trod enc Tryz.prog W base spare held fuel 81 cs = some x) :
  ∃ (h b c : ByteArray) (t u : Int), cs = [.string h, .string b, .string c, .int .i64 t, .int .i64 u] ∧ h.size ≤ maxLen ∧ b.size ≤ maxLen ∧ c.size ≤ maxLen := by
 obtain ⟨xs, n, rfl, -, hl, hn, hf⟩ := DataW.trod_struct Tryz.underlying81 hx
 rw [cells_grant] at hl
 obtain ⟨c0, c1, c2, c3, c4, rfl⟩ := list5 hl
 have hn' : xs.length = 5 := hn
 have f0 : DataW.trod enc Tryz.prog W base spare held n 9 (List.take (Tryz.prog.cellsOf 9) [c0, c1, c2, c3, c4]) = xs[0]? := hf 0 _ rfl
 have f1 : DataW.trod enc Tryz.prog W base spare held n 9 (List.take (Tryz.prog.cellsOf 9) [c1, c2, c3, c4]) = xs[1]? := hf 1 _ rfl
 have f2 : DataW.trod enc Tryz.prog W base spare held n 9 (List.take (Tryz.prog.cellsOf 9) [c2, c3, c4]) = xs[2]? := hf 2 _ rfl
 have f3 : DataW.trod enc Tryz.prog W base spare held n 3 (List.take (Tryz.prog.cellsOf 3) [c3, c4]) = xs[3]? := hf 3 _ rfl
 have f4 : DataW.trod enc Tryz.prog W base spare held n 3 (List.take (Tryz.prog.cellsOf 3) [c4]) = xs[4]? := hf 4 _ rfl
 simp only [cells_int, cells_string, List.take_succ_cons, List.take_zero] at f0 f1 f2 f3 f4
 obtain ⟨y0, g0⟩ := some_of hn' (by decide) f0
 obtain ⟨y1, g1⟩ := some_of hn' (by decide) f1
 obtain ⟨y2, g2⟩ := some_of hn' (by decide) f2
 obtain ⟨y3, g3⟩ := some_of hn' (by decide) f3
 obtain ⟨y4, g4⟩ := some_of hn' (by decide) f4
 obtain ⟨h, e0, -, w0⟩ := DataW.trod_string Tryz.underlying9 g0
 obtain ⟨b, e1, -, w1⟩ := DataW.trod_string Tryz.underlying9 g1
 obtain ⟨c, e2, -, w2⟩ := DataW.trod_string Tryz.underlying9 g2
 obtain ⟨t, e3, -, w3⟩ := DataW.trod_int Tryz.underlying3 g3
 obtain ⟨u, e4, -, w4⟩ := DataW.trod_int Tryz.underlying3 g4
 simp only [List.cons.injEq, and_true] at e0 e1 e2 e3 e4
 subst e0 e1 e2 e3 e4
 exact ⟨h, b, c, t, u, rfl, w0, w1, w2⟩
end
end Go.Proofs.YtefkdohkjdopeaaGreatDoor
namespace Go.Proofs.YtefkdohkjdopeaaGreatDoor.G
open Go.ChangeShapes Go.WideShapes Go.ChangeAt Go.RowKit
theorem exists_list {α : Type} (P : Nat → α → Prop) : ∀ (n : Nat), (∀ i, i < n → ∃ r, P i r) → ∃ rs : List α, rs.length = n ∧ ∀ i r, rs[i]? = some r → P i r
 | 0, _ => ⟨[], rfl, fun i r h => by simp at h⟩
 | n + 1, h => by
  obtain ⟨rs, hl, hr⟩ := exists_list P n (fun i hi => h i (by omega))
  obtain ⟨r, hp⟩ := h n (by omega)
  refine ⟨rs ++ [r], by simp [hl], fun i q hq => ?_⟩
  rcases Nat.lt_or_ge i n with hi | hi
  ·
   rw [List.getElem?_append_left (by omega)] at hq; exact hr i q hq
  ·
   rw [List.getElem?_append_right (by omega)] at hq
   by_cases e : i = n
   ·
    subst e; simp [hl] at hq; subst hq; exact hp
   ·
    rw [List.getElem?_eq_none (by simp; omega)] at hq; cases hq
section
variable {H : Type} {enc : TypeId × Value → H} {W : World} {base : Nat} {spare : Nat → Bool} {held : Bool} {fuel : Nat} {cs : List Value} {x : DataW H × List MemPlace}
theorem read_grants (hx : DataW.trod enc Tryz.prog W base spare held fuel 22 cs = some x) :
  (∃ (a : Option Addr) (cap : Nat), cs = [.slice a 0 cap]) ∨
  ∃ (b off cap : Nat) (rs : List GrantD), cs = [.slice (some ⟨b, off, none⟩) rs.length cap] ∧ 0 < rs.length ∧ rs.length ≤ maxLen ∧ b < W.heap.size ∧ RowsAt W b off rs ∧ ∀ r ∈ rs, r.fits := by
 rcases DataW.trod_slice Tryz.underlying22 hx with ⟨hcs, -⟩ | ⟨a, len, cap, elems, rest, n, -, hcs, -, hb, hlc, hcm, hel, hat, -⟩
 ·
  exact Or.inl ⟨none, 0, hcs⟩
 by_cases h0 : len = 0
 ·
  subst h0; exact Or.inl ⟨some a, cap, hcs⟩
 refine Or.inr ?_
 rw [cells_grant] at hat
 have hall : ∀ i, i < len → ∃ r : GrantD, W.cells? base (a.add (i * 5)) 5 = some r.cells ∧ r.fits := by
  intro i hi
  have h1 := hat i hi
  rw [List.getElem?_eq_getElem (by omega)] at h1
  obtain ⟨ws, hw, ht⟩ := Option.bind_eq_some_iff.1 h1
  obtain ⟨h, b', c, t, u, rfl, w0, w1, w2⟩ := read_grant ht
  exact ⟨⟨h, b', c, t, u⟩, hw, w0, w1, w2⟩
 obtain ⟨rs, hlen, hrs⟩ := exists_list _ len hall
 have hcell : ∀ i r, rs[i]? = some r → ∀ j v, r.cells[j]? = some v → W.cell? ((a.add (i * 5)).add j) = some v := by
  intro i r hr j v hj
  obtain ⟨hw, -⟩ := hrs i r hr
  have hlt : j < 5 := by
   rcases Nat.lt_or_ge j 5 with h' | h'
   ·
    exact h'
   ·
    rw [List.getElem?_eq_none (by simpa [GrantD.cells] using h')] at hj; cases hj
  have h2 := (World.cells?_some hw).2.2 j hlt
  rw [h2, hj]
 obtain ⟨r0, hr0⟩ : ∃ r, rs[0]? = some r := ⟨rs[0]'(by omega), List.getElem?_eq_getElem (by omega)⟩
 have hc0 := hcell 0 r0 hr0 0 (.string r0.h) rfl
 obtain ⟨b, off, spot⟩ := a
 have hspot : spot = none := by
  have := World.cell?_spot hc0
  simpa [Addr.add] using this
 subst hspot
 have hblk : b < W.heap.size := World.cells?_block (hrs 0 r0 hr0).1 (by omega)
 refine ⟨b, off, cap, rs, by rw [hlen]; exact hcs, by omega, by omega, hblk, fun i r hr j v hj => ?_, fun r hr => ?_⟩
 ·
  have := hcell i r hr j v hj
  rw [Addr.add_mid, Addr.add_mid] at this
  exact this
 ·
  obtain ⟨i, hi⟩ := List.getElem?_of_mem hr
  exact (hrs i r hi).2
end
end Go.Proofs.YtefkdohkjdopeaaGreatDoor.G
namespace Go.Proofs.YtefkdohkjdopeaaGreatDoor.P
open Go.ChangeShapes Go.WideShapes Go.ChangeAt Go.RowKit
theorem cells_land : Tryz.prog.cellsOf 25 = 3 := by kernel_rfl
theorem cells_gs : Tryz.prog.cellsOf 22 = 1 := by kernel_rfl
theorem cells_ps : Tryz.prog.cellsOf 23 = 1 := by kernel_rfl
section
variable {H : Type} {enc : TypeId × Value → H} {Z : World} {base : Nat} {spare : Nat → Bool} {held : Bool} {fuel : Nat} {cs : List Value} {x : DataW H × List MemPlace}
theorem in_grants {v : Value} (hx : DataW.trod enc Tryz.prog Z base spare held fuel 22 [v] = some x) : ∃ l, G.In Z v l := by
 rcases G.read_grants hx with ⟨a, cap, h⟩ | ⟨b, off, cap, rs, h, -, hl, hb, hR, hf⟩
 ·
  simp only [List.cons.injEq, and_true] at h; exact ⟨[], Or.inl ⟨rfl, a, cap, h⟩⟩
 ·
  simp only [List.cons.injEq, and_true] at h; exact ⟨rs, Or.inr ⟨b, off, cap, h, hl, hb, hR, hf⟩⟩
theorem in_places {v : Value} (hx : DataW.trod enc Tryz.prog Z base spare held fuel 23 [v] = some x) : ∃ l, In Z v l := by
 rcases read_places hx with ⟨a, cap, h⟩ | ⟨b, off, cap, rs, h, -, hl, hb, hR, hf⟩
 ·
  simp only [List.cons.injEq, and_true] at h; exact ⟨[], Or.inl ⟨rfl, a, cap, h⟩⟩
 ·
  simp only [List.cons.injEq, and_true] at h; exact ⟨rs, Or.inr ⟨b, off, cap, h, hl, hb, hR, hf⟩⟩
theorem read_land (hx : DataW.trod enc Tryz.prog Z base spare held fuel 25 cs = some x) :
  ∃ (t : Int) (gs : List G.GrantD) (ps : List PlaceD) (v1 v2 : Value), cs = [.int .i64 t, v1, v2] ∧ G.In Z v1 gs ∧ In Z v2 ps := by
 obtain ⟨xs, n, rfl, -, hl, hn, hf⟩ := DataW.trod_struct Tryz.underlying25 hx
 rw [cells_land] at hl
 obtain ⟨c0, c1, c2, rfl⟩ := list3 hl
 have hn' : xs.length = 3 := hn
 have f0 : DataW.trod enc Tryz.prog Z base spare held n 3 (List.take (Tryz.prog.cellsOf 3) [c0, c1, c2]) = xs[0]? := hf 0 _ rfl
 have f1 : DataW.trod enc Tryz.prog Z base spare held n 22 (List.take (Tryz.prog.cellsOf 22) [c1, c2]) = xs[1]? := hf 1 _ rfl
 have f2 : DataW.trod enc Tryz.prog Z base spare held n 23 (List.take (Tryz.prog.cellsOf 23) [c2]) = xs[2]? := hf 2 _ rfl
 simp only [cells_int, cells_gs, cells_ps, List.take_succ_cons, List.take_zero] at f0 f1 f2
 obtain ⟨y0, g0⟩ := some_of hn' (by decide) f0
 obtain ⟨y1, g1⟩ := some_of hn' (by decide) f1
 obtain ⟨y2, g2⟩ := some_of hn' (by decide) f2
 obtain ⟨t, e0, -, w0⟩ := DataW.trod_int Tryz.underlying3 g0
 obtain ⟨gs, h1⟩ := in_grants g1
 obtain ⟨ps, h2⟩ := in_places g2
 simp only [List.cons.injEq, and_true] at e0
 subst e0
 exact ⟨t, gs, ps, c1, c2, rfl, h1, h2⟩
end
end Go.Proofs.YtefkdohkjdopeaaGreatDoor.P
namespace Go.Proofs.YtefkdohkjdopeaaGreatDoor
open Go.ChangeShapes Go.WideShapes Go.ChangeAt Go.RowKit
theorem exists_list {α : Type} (P : Nat → α → Prop) : ∀ (n : Nat), (∀ i, i < n → ∃ r, P i r) → ∃ rs : List α, rs.length = n ∧ ∀ i r, rs[i]? = some r → P i r
 | 0, _ => ⟨[], rfl, fun i r h => by simp at h⟩
 | n + 1, h => by
  obtain ⟨rs, hl, hr⟩ := exists_list P n (fun i hi => h i (by omega))
  obtain ⟨r, hp⟩ := h n (by omega)
  refine ⟨rs ++ [r], by simp [hl], fun i q hq => ?_⟩
  rcases Nat.lt_or_ge i n with hi | hi
  ·
   rw [List.getElem?_append_left (by omega)] at hq; exact hr i q hq
  ·
   rw [List.getElem?_append_right (by omega)] at hq
   by_cases e : i = n
   ·
    subst e; simp [hl] at hq; subst hq; exact hp
   ·
    rw [List.getElem?_eq_none (by simp; omega)] at hq; cases hq
section
variable {H : Type} {enc : TypeId × Value → H} {W : World} {base : Nat} {spare : Nat → Bool} {held : Bool} {fuel : Nat} {cs : List Value} {x : DataW H × List MemPlace}
end
end Go.Proofs.YtefkdohkjdopeaaGreatDoor
namespace Go.Proofs.YtefkdohkjdopeaaGreatDoor
open Go.ChangeShapes Go.WideShapes Go.ChangeAt Go.RowKit
theorem cells_ws : Tryz.prog.cellsOf 26 = 1 := by kernel_rfl
section
variable {H : Type} {enc : TypeId × Value → H} {Z : World} {base : Nat} {spare : Nat → Bool} {held : Bool} {fuel : Nat} {cs : List Value} {x : DataW H × List MemPlace}
theorem in_wants {v : Value} (hx : DataW.trod enc Tryz.prog Z base spare held fuel 26 [v] = some x) : ∃ l, W.In Z v l := by
 rcases W.read_wants hx with ⟨a, cap, h⟩ | ⟨b, off, cap, rs, h, -, hl, hb, hR, hf⟩
 ·
  simp only [List.cons.injEq, and_true] at h; exact ⟨[], Or.inl ⟨rfl, a, cap, h⟩⟩
 ·
  simp only [List.cons.injEq, and_true] at h; exact ⟨rs, Or.inr ⟨b, off, cap, h, hl, hb, hR, hf⟩⟩
end
end Go.Proofs.YtefkdohkjdopeaaGreatDoor
namespace Go.Proofs.YtefkdohkjdopeaaGreatDoor
open Go.ChangeShapes Go.WideShapes Go.ChangeAt Go.RowKit
theorem cells_parcel : Tryz.prog.cellsOf 28 = 7 := by kernel_rfl
theorem list7p {α : Type} {l : List α} (h : l.length = 7) : ∃ a b c d e f g, l = [a, b, c, d, e, f, g] := by
 match l, h with
 | [a, b, c, d, e, f, g], _ => exact ⟨a, b, c, d, e, f, g, rfl⟩
section
variable {H : Type} {enc : TypeId × Value → H} {Z : World} {base : Nat} {spare : Nat → Bool} {held : Bool} {fuel : Nat} {cs : List Value} {x : DataW H × List MemPlace}
theorem read_parcel (hx : DataW.trod enc Tryz.prog Z base spare held fuel 28 cs = some x) :
  ∃ (p : ParcelD) (v5 : Value), cs = [.int .i64 p.k, .string p.b, .int .i64 p.s, v5, .string p.h, .string p.c, .int .i64 p.t] ∧ p.b.size ≤ maxLen ∧ p.h.size ≤ maxLen ∧ p.c.size ≤ maxLen ∧ W.In Z v5 p.ws := by
 obtain ⟨xs, n, rfl, -, hl, hn, hf⟩ := DataW.trod_struct Tryz.underlying28 hx
 rw [cells_parcel] at hl
 obtain ⟨c0, c1, c2, c3, c4, c5, c6, rfl⟩ := list7p hl
 have hn' : xs.length = 7 := hn
 have f0 : DataW.trod enc Tryz.prog Z base spare held n 3 (List.take (Tryz.prog.cellsOf 3) [c0, c1, c2, c3, c4, c5, c6]) = xs[0]? := hf 0 _ rfl
 have f1 : DataW.trod enc Tryz.prog Z base spare held n 9 (List.take (Tryz.prog.cellsOf 9) [c1, c2, c3, c4, c5, c6]) = xs[1]? := hf 1 _ rfl
 have f2 : DataW.trod enc Tryz.prog Z base spare held n 3 (List.take (Tryz.prog.cellsOf 3) [c2, c3, c4, c5, c6]) = xs[2]? := hf 2 _ rfl
 have f3 : DataW.trod enc Tryz.prog Z base spare held n 26 (List.take (Tryz.prog.cellsOf 26) [c3, c4, c5, c6]) = xs[3]? := hf 3 _ rfl
 have f4 : DataW.trod enc Tryz.prog Z base spare held n 9 (List.take (Tryz.prog.cellsOf 9) [c4, c5, c6]) = xs[4]? := hf 4 _ rfl
 have f5 : DataW.trod enc Tryz.prog Z base spare held n 9 (List.take (Tryz.prog.cellsOf 9) [c5, c6]) = xs[5]? := hf 5 _ rfl
 have f6 : DataW.trod enc Tryz.prog Z base spare held n 3 (List.take (Tryz.prog.cellsOf 3) [c6]) = xs[6]? := hf 6 _ rfl
 simp only [cells_int, cells_string, cells_ws, List.take_succ_cons, List.take_zero] at f0 f1 f2 f3 f4 f5 f6
 obtain ⟨y0, g0⟩ := some_of hn' (by decide) f0
 obtain ⟨y1, g1⟩ := some_of hn' (by decide) f1
 obtain ⟨y2, g2⟩ := some_of hn' (by decide) f2
 obtain ⟨y3, g3⟩ := some_of hn' (by decide) f3
 obtain ⟨y4, g4⟩ := some_of hn' (by decide) f4
 obtain ⟨y5, g5⟩ := some_of hn' (by decide) f5
 obtain ⟨y6, g6⟩ := some_of hn' (by decide) f6
 obtain ⟨k, e0, -, w0⟩ := DataW.trod_int Tryz.underlying3 g0
 obtain ⟨b, e1, -, w1⟩ := DataW.trod_string Tryz.underlying9 g1
 obtain ⟨s, e2, -, w2⟩ := DataW.trod_int Tryz.underlying3 g2
 obtain ⟨ws, h3⟩ := in_wants g3
 obtain ⟨h, e4, -, w4⟩ := DataW.trod_string Tryz.underlying9 g4
 obtain ⟨c, e5, -, w5⟩ := DataW.trod_string Tryz.underlying9 g5
 obtain ⟨t, e6, -, w6⟩ := DataW.trod_int Tryz.underlying3 g6
 simp only [List.cons.injEq, and_true] at e0 e1 e2 e4 e5 e6
 subst e0 e1 e2 e4 e5 e6
 exact ⟨⟨k, b, s, ws, h, c, t⟩, c3, rfl, w1, w4, w5, h3⟩
end
end Go.Proofs.YtefkdohkjdopeaaGreatDoor
