import Derived.Test.YtiogkdafmgdbgaaGreatRows
import Derived.WalkKit
import Derived.WalkSpells
import Derived.WalkLawsBesides
import Derived.Below
import Derived.Outline
import Derived.Deep.MidRow
import Derived.ProofKit
import Derived.OpenShut
import Derived.ChangeOld
import Derived.Laws.MakeOwn
/- The contracts of what the exact laws are made of: sizes, copies of a want and of a run. -/
namespace Go.Proofs.YtiogkdafmgdbgaaGreat
open Go.RowKit

/-- Old cells and old marks, behind a call that only lays new blocks. -/
theorem bcell {W w1 : World} (hb : Below W.heap.size W w1) : (∀ b o, b < W.heap.size → w1.cell? ⟨b, o, none⟩ = W.cell? ⟨b, o, none⟩) ∧ (∀ b o, b < W.heap.size → w1.frozen? ⟨b, o, none⟩ = W.frozen? ⟨b, o, none⟩) :=
  ⟨fun b o h => hb.cell (p := ⟨b, o, none⟩) h, fun b o h => hb.frozen (p := ⟨b, o, none⟩) h⟩

theorem bl_alloc {w w' : World} (h : Below w.heap.size w w') (o : Obj) : Below w.heap.size w (w'.alloc o) := h.alloc h.size o
theorem bl_drew {w w' : World} (h : Below w.heap.size w w') : Below w.heap.size w w'.drew := h.drew
theorem bl_trans {w w1 w2 : World} (h : Below w.heap.size w w1) (k : Below w1.heap.size w1 w2) : Below w.heap.size w w2 := h.trans (k.mono h.size)
theorem bl_set {w w' : World} (h : Below w.heap.size w w') {p : Addr} (hp : w.heap.size ≤ p.block) (u : Value) : Below w.heap.size w (w'.setCell p u) := h.setCell hp u

/-- The box of a call's own parameter, behind later blocks. -/
theorem box_keep {w w1 : World} {o : Obj} (h : Below (w.alloc o).heap.size (w.alloc o) w1) : ∀ k, w1.cell? ⟨w.heap.size, k, none⟩ = (w.alloc o).cell? ⟨w.heap.size, k, none⟩ :=
  fun k => h.cell (p := ⟨w.heap.size, k, none⟩) (by simp)

theorem szWant_yes (c h : ByteArray) (v p s d g left : Int) (h0 : 0 ≤ left) (h1 : left ≤ 1048576) (k : (c.size : Int) + h.size ≤ left) (w : World) :
    Calls Tryz.prog 43 #[.agg #[.string c, .int .i64 v, .string h, .int .i64 p, .int .i64 s, .int .i64 d, .int .i64 g], .int .i64 left] w fun e w' => e = .returned (.int .i64 (left - c.size - h.size)) ∧ Below w.heap.size w w' := by
  go_enter Tryz.func43, Tryz.ntmps43
  go_wp2
  go_ret
  exact ⟨rfl, (Below.refl _ _).alloc (Nat.le_refl _) _⟩

theorem szWant_no (c h : ByteArray) (v p s d g left : Int) (h0 : 0 ≤ left) (h1 : left ≤ 1048576) (hc : c.size ≤ maxLen) (hh : h.size ≤ maxLen) (k : ¬ (c.size : Int) + h.size ≤ left) (w : World) :
    Calls Tryz.prog 43 #[.agg #[.string c, .int .i64 v, .string h, .int .i64 p, .int .i64 s, .int .i64 d, .int .i64 g], .int .i64 left] w fun e w' => e = .returned (.int .i64 (-1)) ∧ Below w.heap.size w w' := by
  unfold maxLen at hc hh
  by_cases k1 : (c.size : Int) ≤ left
  · go_enter Tryz.func43, Tryz.ntmps43
    go_wp2
    go_ret
    exact ⟨rfl, (Below.refl _ _).alloc (Nat.le_refl _) _⟩
  · go_enter Tryz.func43, Tryz.ntmps43
    go_wp2
    go_ret
    exact ⟨rfl, (Below.refl _ _).alloc (Nat.le_refl _) _⟩

theorem toWant_any (c h : ByteArray) (v p s d g : Int) (w : World) :
    Calls Tryz.prog 51 #[.agg #[.string c, .int .i64 v, .string h, .int .i64 p, .int .i64 s, .int .i64 d, .int .i64 g]] w fun e w' =>
      e = .returned (.agg #[.string c, .int .i64 v, .string h, .int .i64 p, .int .i64 s, .int .i64 d, .int .i64 g]) ∧ w' = ((w.alloc (.cells #[.string c, .int .i64 v, .string h, .int .i64 p, .int .i64 s, .int .i64 d, .int .i64 g] 75)).alloc (.cells #[.string c, .int .i64 v, .string h, .int .i64 p, .int .i64 s, .int .i64 d, .int .i64 g] 57)).alloc (.cells #[.string c, .int .i64 v, .string h, .int .i64 p, .int .i64 s, .int .i64 d, .int .i64 g] 57) := by
  go_enter Tryz.func51, Tryz.ntmps51
  go_wp2
  exact bodyPost_ret (v := .agg #[.string c, .int .i64 v, .string h, .int .i64 p, .int .i64 s, .int .i64 d, .int .i64 g]) (by simp [results, Tryz.results51, go_sem]) rfl ⟨rfl, rfl⟩

theorem toRun_any (c h : ByteArray) (v p s d g a b i u : Int) (w : World) :
    Calls Tryz.prog 52 #[.agg #[.string c, .int .i64 v, .string h, .int .i64 p, .int .i64 s, .int .i64 d, .int .i64 g, .int .i64 a, .int .i64 b, .int .i64 i, .int .i64 u]] w fun e w' =>
      e = .returned (.agg #[.string c, .int .i64 v, .string h, .int .i64 p, .int .i64 s, .int .i64 d, .int .i64 g, .int .i64 a, .int .i64 b, .int .i64 i, .int .i64 u]) ∧ Below w.heap.size w w' := by
  go_enter Tryz.func52, Tryz.ntmps52
  go_wp2_with (go_at_call 51; refine (toWant_any c h v p s d g _).mono ?_; rintro e w' ⟨rfl, rfl⟩)
  exact bodyPost_ret (v := .agg #[.string c, .int .i64 v, .string h, .int .i64 p, .int .i64 s, .int .i64 d, .int .i64 g, .int .i64 a, .int .i64 b, .int .i64 i, .int .i64 u]) (by simp [results, Tryz.results52, go_sem]) rfl ⟨rfl, bl_alloc (bl_alloc (bl_alloc (bl_alloc (bl_alloc (bl_alloc (Below.refl _ _) _) _) _) _) _) _⟩

theorem szRun_yes (c h : ByteArray) (v p s d g a b i u left : Int) (h0 : 0 ≤ left) (h1 : left ≤ 1048576) (k : (c.size : Int) + h.size ≤ left) (w : World) :
    Calls Tryz.prog 44 #[.agg #[.string c, .int .i64 v, .string h, .int .i64 p, .int .i64 s, .int .i64 d, .int .i64 g, .int .i64 a, .int .i64 b, .int .i64 i, .int .i64 u], .int .i64 left] w fun e w' => e = .returned (.int .i64 (left - c.size - h.size)) ∧ Below w.heap.size w w' := by
  go_enter Tryz.func44, Tryz.ntmps44
  go_wp2_with (go_at_call 43; refine (szWant_yes c h v p s d g left h0 h1 k _).mono ?_; rintro e w' ⟨rfl, hb⟩)
  go_ret
  exact ⟨rfl, bl_trans (bl_alloc (Below.refl _ _) _) hb⟩

theorem szRun_no (c h : ByteArray) (v p s d g a b i u left : Int) (h0 : 0 ≤ left) (h1 : left ≤ 1048576) (hc : c.size ≤ maxLen) (hh : h.size ≤ maxLen) (k : ¬ (c.size : Int) + h.size ≤ left) (w : World) :
    Calls Tryz.prog 44 #[.agg #[.string c, .int .i64 v, .string h, .int .i64 p, .int .i64 s, .int .i64 d, .int .i64 g, .int .i64 a, .int .i64 b, .int .i64 i, .int .i64 u], .int .i64 left] w fun e w' => e = .returned (.int .i64 (-1)) ∧ Below w.heap.size w w' := by
  go_enter Tryz.func44, Tryz.ntmps44
  go_wp2_with (go_at_call 43; refine (szWant_no c h v p s d g left h0 h1 hc hh k _).mono ?_; rintro e w' ⟨rfl, hb⟩)
  go_ret
  exact ⟨rfl, bl_trans (bl_alloc (Below.refl _ _) _) hb⟩

end Go.Proofs.YtiogkdafmgdbgaaGreat
/- Lists of runs in memory. -/
namespace Go.Proofs.YtiogkdafmgdbgaaGreat
open Go.RowKit
set_option linter.unusedVariables false

structure RunD where
  c : ByteArray
  h : ByteArray
  v : Int
  p : Int
  s : Int
  d : Int
  g : Int
  a : Int
  b : Int
  i : Int
  u : Int
def RunD.cells (r : RunD) : List Value := [.string r.c, .int .i64 r.v, .string r.h, .int .i64 r.p, .int .i64 r.s, .int .i64 r.d, .int .i64 r.g, .int .i64 r.a, .int .i64 r.b, .int .i64 r.i, .int .i64 r.u]
/-- What a run's parts may be. -/
def RunD.fits (r : RunD) : Prop := r.c.size ≤ maxLen ∧ r.h.size ≤ maxLen ∧ r.b ≤ 9223372036854775807 ∧ -9223372036854775808 ≤ r.i
/-- The runs rs lie in block b from off on. -/
def RowsAt (w : World) (b off : Nat) (rs : List RunD) : Prop := ∀ k r, rs[k]? = some r → w.rangeAt b (off + k * 11) r.cells

theorem RowsAt.keep {w w' : World} {b off : Nat} {rs : List RunD} (h : RowsAt w b off rs) (hb : b < w.heap.size) (hB : Below w.heap.size w w') : RowsAt w' b off rs :=
  fun k r hk j v hj => (hB.cell (p := ⟨b, off + k * 11 + j, none⟩) hb).trans (h k r hk j v hj)
theorem RowsAt.at {w : World} {b off : Nat} {rs : List RunD} (h : RowsAt w b off rs) {k : Nat} {r : RunD} (hk : rs[k]? = some r) :
    w.cell? ⟨b, off + k * 11, none⟩ = some (.string r.c) ∧ w.cell? ⟨b, off + k * 11 + 1, none⟩ = some (.int .i64 r.v) ∧ w.cell? ⟨b, off + k * 11 + 2, none⟩ = some (.string r.h) ∧ w.cell? ⟨b, off + k * 11 + 3, none⟩ = some (.int .i64 r.p) ∧ w.cell? ⟨b, off + k * 11 + 4, none⟩ = some (.int .i64 r.s) ∧ w.cell? ⟨b, off + k * 11 + 5, none⟩ = some (.int .i64 r.d) ∧ w.cell? ⟨b, off + k * 11 + 6, none⟩ = some (.int .i64 r.g) ∧ w.cell? ⟨b, off + k * 11 + 7, none⟩ = some (.int .i64 r.a) ∧ w.cell? ⟨b, off + k * 11 + 8, none⟩ = some (.int .i64 r.b) ∧ w.cell? ⟨b, off + k * 11 + 9, none⟩ = some (.int .i64 r.i) ∧ w.cell? ⟨b, off + k * 11 + 10, none⟩ = some (.int .i64 r.u) :=
  ⟨h k r hk 0 _ rfl, h k r hk 1 _ rfl, h k r hk 2 _ rfl, h k r hk 3 _ rfl, h k r hk 4 _ rfl, h k r hk 5 _ rfl, h k r hk 6 _ rfl, h k r hk 7 _ rfl, h k r hk 8 _ rfl, h k r hk 9 _ rfl, h k r hk 10 _ rfl⟩

set_option maxHeartbeats 1000000 in
theorem szRunS (b off cap : Nat) (rs : List RunD) (left : Int) (w : World) (hR : RowsAt w b off rs) (hb : b < w.heap.size) (hf : ∀ r ∈ rs, r.fits) (h0 : 0 ≤ left) (h1 : left ≤ 1048576) (hl : rs.length ≤ maxLen) :
    Calls Tryz.prog 16 #[.slice (some ⟨b, off, none⟩) rs.length cap, .int .i64 left] w fun e w' => (e = .returned (.int .i64 (-1)) ∨ ∃ m : Int, e = .returned (.int .i64 m) ∧ 0 ≤ m ∧ (rs.length : Int) ≤ left) ∧ Below w.heap.size w w' := by
  unfold maxLen at hl
  by_cases hn : (rs.length : Int) ≤ left
  · go_enter Tryz.func16, Tryz.ntmps16
    go_wp2
    go_loopw [1, 5] (fun l i wx => ∃ (k : Nat) (lv : Int), k ≤ rs.length ∧ i = .int .i64 k ∧ l = .int .i64 lv ∧ 0 ≤ lv ∧ lv ≤ 1048576 ∧ Below w.heap.size w wx) (fun _ i _ => rs.length - (intOf i).toNat)
    case atStart => exact ⟨0, _, Nat.zero_le _, rfl, rfl, by omega, by omega, Below.refl _ _⟩
    case round =>
      obtain ⟨k, lv, hk, rfl, rfl, l0, l1, hB⟩ := hrel
      by_cases hlt : k < rs.length
      · obtain ⟨r, hr⟩ : ∃ r, rs[k]? = some r := ⟨rs[k], List.getElem?_eq_getElem hlt⟩
        obtain ⟨c0, c1, c2, c3, c4, c5, c6, c7, c8, c9, c10⟩ := (hR.keep hb hB).at hr
        have hfr : r.fits := hf r (List.mem_of_getElem? hr)
        clear hr
        by_cases hsz : (r.c.size : Int) + r.h.size ≤ lv
        · go_wp2_with fail
          refine (szRun_yes r.c r.h r.v r.p r.s r.d r.g r.a r.b r.i r.u lv l0 l1 hsz _).mono ?_
          rintro e w1 ⟨rfl, hb1⟩
          go_wp2
          exact ⟨⟨k + 1, _, by omega, by go_num, rfl, by omega, by omega, bl_trans hB hb1⟩, by simp [intOf]; omega⟩
        · go_wp2_with fail
          refine (szRun_no r.c r.h r.v r.p r.s r.d r.g r.a r.b r.i r.u lv l0 l1 hfr.1 hfr.2.1 (by omega) _).mono ?_
          rintro e w1 ⟨rfl, hb1⟩
          go_wp2
          go_ret
          exact ⟨Or.inl rfl, bl_trans hB hb1⟩
      · go_wp2
        go_ret
        exact ⟨Or.inr ⟨_, rfl, l0, hn⟩, hB⟩
  · go_enter Tryz.func16, Tryz.ntmps16
    go_wp2
    go_ret
    exact ⟨Or.inl rfl, Below.refl _ _⟩
end Go.Proofs.YtiogkdafmgdbgaaGreat
/- What the reading of a want and of a run says of the cells. -/
namespace Go.Proofs.YtiogkdafmgdbgaaGreat
open Go.ChangeShapes Go.WideShapes Go.ChangeAt Go.RowKit

theorem cells_want : Tryz.prog.cellsOf 75 = 7 := by kernel_rfl
theorem cells_run : Tryz.prog.cellsOf 78 = 11 := by kernel_rfl
theorem cells_int : Tryz.prog.cellsOf 3 = 1 := by kernel_rfl
theorem cells_string : Tryz.prog.cellsOf 9 = 1 := by kernel_rfl

/-- A number that an int holds. -/
def I64 (n : Int) : Prop := -9223372036854775808 ≤ n ∧ n ≤ 9223372036854775807
theorem I64_of {n : Int} (h : (Lit.int .i64 n).wf = true) : I64 n := by
  simpa [Lit.wf, IntKind.min, IntKind.max, IntKind.signed, IntKind.bits, I64] using h

theorem some_of {α : Type} {l : List α} {n i : Nat} {x : Option α} (hl : l.length = n) (hi : i < n) (h : x = l[i]?) : ∃ y, x = some y := by
  subst hl; exact ⟨l[i], by rw [h]; exact List.getElem?_eq_getElem hi⟩

theorem list7 {α : Type} {l : List α} (h : l.length = 7) : ∃ a b c d e f g, l = [a, b, c, d, e, f, g] := by
  match l, h with
  | [a, b, c, d, e, f, g], _ => exact ⟨a, b, c, d, e, f, g, rfl⟩
theorem list11 {α : Type} {l : List α} (h : l.length = 11) : ∃ a b c d e f g h i j k, l = [a, b, c, d, e, f, g, h, i, j, k] := by
  match l, h with
  | [a, b, c, d, e, f, g, h, i, j, k], _ => exact ⟨a, b, c, d, e, f, g, h, i, j, k, rfl⟩

section
variable {H : Type} {enc : TypeId × Value → H} {W : World} {base : Nat} {spare : Nat → Bool} {held : Bool} {fuel : Nat} {cs : List Value} {x : DataW H × List MemPlace}

theorem read_want (hx : DataW.trod enc Tryz.prog W base spare held fuel 75 cs = some x) :
    ∃ (c : ByteArray) (v : Int) (h : ByteArray) (p s d g : Int), cs = [.string c, .int .i64 v, .string h, .int .i64 p, .int .i64 s, .int .i64 d, .int .i64 g] ∧ c.size ≤ maxLen ∧ h.size ≤ maxLen ∧ I64 v ∧ I64 p ∧ I64 s ∧ I64 d ∧ I64 g := by
  obtain ⟨xs, n, rfl, -, hl, hn, hf⟩ := DataW.trod_struct Tryz.underlying75 hx
  rw [cells_want] at hl
  obtain ⟨c0, c1, c2, c3, c4, c5, c6, rfl⟩ := list7 hl
  have hn' : xs.length = 7 := hn
  have f0 : DataW.trod enc Tryz.prog W base spare held n 9 (List.take (Tryz.prog.cellsOf 9) [c0, c1, c2, c3, c4, c5, c6]) = xs[0]? := hf 0 _ rfl
  have f1 : DataW.trod enc Tryz.prog W base spare held n 3 (List.take (Tryz.prog.cellsOf 3) [c1, c2, c3, c4, c5, c6]) = xs[1]? := hf 1 _ rfl
  have f2 : DataW.trod enc Tryz.prog W base spare held n 9 (List.take (Tryz.prog.cellsOf 9) [c2, c3, c4, c5, c6]) = xs[2]? := hf 2 _ rfl
  have f3 : DataW.trod enc Tryz.prog W base spare held n 3 (List.take (Tryz.prog.cellsOf 3) [c3, c4, c5, c6]) = xs[3]? := hf 3 _ rfl
  have f4 : DataW.trod enc Tryz.prog W base spare held n 3 (List.take (Tryz.prog.cellsOf 3) [c4, c5, c6]) = xs[4]? := hf 4 _ rfl
  have f5 : DataW.trod enc Tryz.prog W base spare held n 3 (List.take (Tryz.prog.cellsOf 3) [c5, c6]) = xs[5]? := hf 5 _ rfl
  have f6 : DataW.trod enc Tryz.prog W base spare held n 3 (List.take (Tryz.prog.cellsOf 3) [c6]) = xs[6]? := hf 6 _ rfl
  simp only [cells_int, cells_string, List.take_succ_cons, List.take_zero] at f0 f1 f2 f3 f4 f5 f6
  obtain ⟨y0, g0⟩ := some_of hn' (by decide) f0
  obtain ⟨y1, g1⟩ := some_of hn' (by decide) f1
  obtain ⟨y2, g2⟩ := some_of hn' (by decide) f2
  obtain ⟨y3, g3⟩ := some_of hn' (by decide) f3
  obtain ⟨y4, g4⟩ := some_of hn' (by decide) f4
  obtain ⟨y5, g5⟩ := some_of hn' (by decide) f5
  obtain ⟨y6, g6⟩ := some_of hn' (by decide) f6
  obtain ⟨c, e0, -, w0⟩ := DataW.trod_string Tryz.underlying9 g0
  obtain ⟨v, e1, -, w1⟩ := DataW.trod_int Tryz.underlying3 g1
  obtain ⟨h, e2, -, w2⟩ := DataW.trod_string Tryz.underlying9 g2
  obtain ⟨p, e3, -, w3⟩ := DataW.trod_int Tryz.underlying3 g3
  obtain ⟨s, e4, -, w4⟩ := DataW.trod_int Tryz.underlying3 g4
  obtain ⟨d, e5, -, w5⟩ := DataW.trod_int Tryz.underlying3 g5
  obtain ⟨g, e6, -, w6⟩ := DataW.trod_int Tryz.underlying3 g6
  simp only [List.cons.injEq, and_true] at e0 e1 e2 e3 e4 e5 e6
  subst e0 e1 e2 e3 e4 e5 e6
  exact ⟨c, v, h, p, s, d, g, rfl, w0, w2, I64_of w1, I64_of w3, I64_of w4, I64_of w5, I64_of w6⟩

theorem read_run (hx : DataW.trod enc Tryz.prog W base spare held fuel 78 cs = some x) :
    ∃ (c : ByteArray) (v : Int) (h : ByteArray) (p s d g a b i u : Int), cs = [.string c, .int .i64 v, .string h, .int .i64 p, .int .i64 s, .int .i64 d, .int .i64 g, .int .i64 a, .int .i64 b, .int .i64 i, .int .i64 u] ∧ c.size ≤ maxLen ∧ h.size ≤ maxLen ∧ I64 v ∧ I64 p ∧ I64 s ∧ I64 d ∧ I64 g ∧ I64 a ∧ I64 b ∧ I64 i ∧ I64 u := by
  obtain ⟨xs, n, rfl, -, hl, hn, hf⟩ := DataW.trod_struct Tryz.underlying78 hx
  rw [cells_run] at hl
  obtain ⟨c0, c1, c2, c3, c4, c5, c6, c7, c8, c9, c10, rfl⟩ := list11 hl
  have hn' : xs.length = 5 := hn
  have f0 : DataW.trod enc Tryz.prog W base spare held n 75 (List.take (Tryz.prog.cellsOf 75) [c0, c1, c2, c3, c4, c5, c6, c7, c8, c9, c10]) = xs[0]? := hf 0 _ rfl
  have f1 : DataW.trod enc Tryz.prog W base spare held n 3 (List.take (Tryz.prog.cellsOf 3) [c7, c8, c9, c10]) = xs[1]? := hf 1 _ rfl
  have f2 : DataW.trod enc Tryz.prog W base spare held n 3 (List.take (Tryz.prog.cellsOf 3) [c8, c9, c10]) = xs[2]? := hf 2 _ rfl
  have f3 : DataW.trod enc Tryz.prog W base spare held n 3 (List.take (Tryz.prog.cellsOf 3) [c9, c10]) = xs[3]? := hf 3 _ rfl
  have f4 : DataW.trod enc Tryz.prog W base spare held n 3 (List.take (Tryz.prog.cellsOf 3) [c10]) = xs[4]? := hf 4 _ rfl
  simp only [cells_int, cells_want, List.take_succ_cons, List.take_zero] at f0 f1 f2 f3 f4
  obtain ⟨y0, g0⟩ := some_of hn' (by decide) f0
  obtain ⟨y1, g1⟩ := some_of hn' (by decide) f1
  obtain ⟨y2, g2⟩ := some_of hn' (by decide) f2
  obtain ⟨y3, g3⟩ := some_of hn' (by decide) f3
  obtain ⟨y4, g4⟩ := some_of hn' (by decide) f4
  obtain ⟨c, v, h, p, s, d, g, e0, w0⟩ := read_want g0
  obtain ⟨a, e1, -, w1⟩ := DataW.trod_int Tryz.underlying3 g1
  obtain ⟨b, e2, -, w2⟩ := DataW.trod_int Tryz.underlying3 g2
  obtain ⟨i, e3, -, w3⟩ := DataW.trod_int Tryz.underlying3 g3
  obtain ⟨u, e4, -, w4⟩ := DataW.trod_int Tryz.underlying3 g4
  simp only [List.cons.injEq, and_true] at e0 e1 e2 e3 e4
  obtain ⟨e00, e01, e02, e03, e04, e05, e06⟩ := e0
  subst e00 e01 e02 e03 e04 e05 e06 e1 e2 e3 e4
  obtain ⟨k0, k1, k2, k3, k4, k5, k6⟩ := w0
  exact ⟨c, v, h, p, s, d, g, a, b, i, u, rfl, k0, k1, k2, k3, k4, k5, k6, I64_of w1, I64_of w2, I64_of w3, I64_of w4⟩
end
end Go.Proofs.YtiogkdafmgdbgaaGreat
/- What the reading of a list of runs says of memory. -/
namespace Go.Proofs.YtiogkdafmgdbgaaGreat
open Go.ChangeShapes Go.WideShapes Go.ChangeAt Go.RowKit

theorem exists_list {α : Type} (P : Nat → α → Prop) : ∀ (n : Nat), (∀ i, i < n → ∃ r, P i r) → ∃ rs : List α, rs.length = n ∧ ∀ i r, rs[i]? = some r → P i r
  | 0, _ => ⟨[], rfl, fun i r h => by simp at h⟩
  | n + 1, h => by
    obtain ⟨rs, hl, hr⟩ := exists_list P n (fun i hi => h i (by omega))
    obtain ⟨r, hp⟩ := h n (by omega)
    refine ⟨rs ++ [r], by simp [hl], fun i q hq => ?_⟩
    rcases Nat.lt_or_ge i n with hi | hi
    · rw [List.getElem?_append_left (by omega)] at hq; exact hr i q hq
    · rw [List.getElem?_append_right (by omega)] at hq
      by_cases e : i = n
      · subst e; simp [hl] at hq; subst hq; exact hp
      · rw [List.getElem?_eq_none (by simp; omega)] at hq; cases hq

section
variable {H : Type} {enc : TypeId × Value → H} {W : World} {base : Nat} {spare : Nat → Bool} {held : Bool} {fuel : Nat} {cs : List Value} {x : DataW H × List MemPlace}

/-- A list of runs that came in: it is empty, or lies in a block of old memory. -/
theorem read_runs (hx : DataW.trod enc Tryz.prog W base spare held fuel 23 cs = some x) :
    (∃ (a : Option Addr) (cap : Nat), cs = [.slice a 0 cap]) ∨
    ∃ (b off cap : Nat) (rs : List RunD), cs = [.slice (some ⟨b, off, none⟩) rs.length cap] ∧ 0 < rs.length ∧ rs.length ≤ maxLen ∧ b < W.heap.size ∧ RowsAt W b off rs ∧ ∀ r ∈ rs, r.fits := by
  rcases DataW.trod_slice Tryz.underlying23 hx with ⟨hcs, -⟩ | ⟨a, len, cap, elems, rest, n, -, hcs, -, hb, hlc, hcm, hel, hat, -⟩
  · exact Or.inl ⟨none, 0, hcs⟩
  by_cases h0 : len = 0
  · subst h0; exact Or.inl ⟨some a, cap, hcs⟩
  refine Or.inr ?_
  rw [cells_run] at hat
  have hall : ∀ i, i < len → ∃ r : RunD, W.cells? base (a.add (i * 11)) 11 = some r.cells ∧ r.fits := by
    intro i hi
    have h1 := hat i hi
    rw [List.getElem?_eq_getElem (by omega)] at h1
    obtain ⟨ws, hw, ht⟩ := Option.bind_eq_some_iff.1 h1
    obtain ⟨c, v, h, p, s, d, g, st, lf, fl, un, rfl, w0, w1, i0, i1, i2, i3, i4, i5, i6, i7, i8⟩ := read_run ht
    exact ⟨⟨c, h, v, p, s, d, g, st, lf, fl, un⟩, hw, w0, w1, i6.2, i7.1⟩
  obtain ⟨rs, hlen, hrs⟩ := exists_list _ len hall
  have hcell : ∀ i r, rs[i]? = some r → ∀ j v, r.cells[j]? = some v → W.cell? ((a.add (i * 11)).add j) = some v := by
    intro i r hr j v hj
    obtain ⟨hw, -⟩ := hrs i r hr
    have hlt : j < 11 := by
      rcases Nat.lt_or_ge j 11 with h' | h'
      · exact h'
      · rw [List.getElem?_eq_none (by simpa [RunD.cells] using h')] at hj; cases hj
    have h2 := (World.cells?_some hw).2.2 j hlt
    rw [h2, hj]
  obtain ⟨r0, hr0⟩ : ∃ r, rs[0]? = some r := ⟨rs[0]'(by omega), List.getElem?_eq_getElem (by omega)⟩
  have hc0 := hcell 0 r0 hr0 0 (.string r0.c) rfl
  obtain ⟨b, off, spot⟩ := a
  have hspot : spot = none := by
    have := World.cell?_spot hc0
    simpa [Addr.add] using this
  subst hspot
  have hblk : b < W.heap.size := World.cells?_block (hrs 0 r0 hr0).1 (by omega)
  refine ⟨b, off, cap, rs, by rw [hlen]; exact hcs, by omega, by omega, hblk, fun i r hr j v hj => ?_, fun r hr => ?_⟩
  · have := hcell i r hr j v hj
    rw [Addr.add_mid, Addr.add_mid] at this
    exact this
  · obtain ⟨i, hi⟩ := List.getElem?_of_mem hr
    exact (hrs i r hi).2
end
end Go.Proofs.YtiogkdafmgdbgaaGreat
/- Lists of wants in memory. -/
namespace Go.Proofs.YtiogkdafmgdbgaaGreat.W
open Go.RowKit
set_option linter.unusedVariables false

theorem toWant_b (c h : ByteArray) (v p s d g : Int) (w : World) :
    Calls Tryz.prog 51 #[.agg #[.string c, .int .i64 v, .string h, .int .i64 p, .int .i64 s, .int .i64 d, .int .i64 g]] w fun e w' => e = .returned (.agg #[.string c, .int .i64 v, .string h, .int .i64 p, .int .i64 s, .int .i64 d, .int .i64 g]) ∧ Below w.heap.size w w' := by
  refine (toWant_any c h v p s d g w).mono ?_
  rintro e w' ⟨rfl, rfl⟩
  exact ⟨rfl, by repeat (first | exact Below.refl _ _ | refine bl_alloc ?_ _)⟩

structure WantD where
  c : ByteArray
  h : ByteArray
  v : Int
  p : Int
  s : Int
  d : Int
  g : Int
def WantD.cells (r : WantD) : List Value := [.string r.c, .int .i64 r.v, .string r.h, .int .i64 r.p, .int .i64 r.s, .int .i64 r.d, .int .i64 r.g]
/-- What a run's parts may be. -/
def WantD.fits (r : WantD) : Prop := r.c.size ≤ maxLen ∧ r.h.size ≤ maxLen
/-- The wants rs lie in block b from off on. -/
def RowsAt (w : World) (b off : Nat) (rs : List WantD) : Prop := ∀ k r, rs[k]? = some r → w.rangeAt b (off + k * 7) r.cells

theorem RowsAt.keep {w w' : World} {b off : Nat} {rs : List WantD} (h : RowsAt w b off rs) (hb : b < w.heap.size) (hB : Below w.heap.size w w') : RowsAt w' b off rs :=
  fun k r hk j v hj => (hB.cell (p := ⟨b, off + k * 7 + j, none⟩) hb).trans (h k r hk j v hj)
theorem RowsAt.at {w : World} {b off : Nat} {rs : List WantD} (h : RowsAt w b off rs) {k : Nat} {r : WantD} (hk : rs[k]? = some r) :
    w.cell? ⟨b, off + k * 7, none⟩ = some (.string r.c) ∧ w.cell? ⟨b, off + k * 7 + 1, none⟩ = some (.int .i64 r.v) ∧ w.cell? ⟨b, off + k * 7 + 2, none⟩ = some (.string r.h) ∧ w.cell? ⟨b, off + k * 7 + 3, none⟩ = some (.int .i64 r.p) ∧ w.cell? ⟨b, off + k * 7 + 4, none⟩ = some (.int .i64 r.s) ∧ w.cell? ⟨b, off + k * 7 + 5, none⟩ = some (.int .i64 r.d) ∧ w.cell? ⟨b, off + k * 7 + 6, none⟩ = some (.int .i64 r.g) :=
  ⟨h k r hk 0 _ rfl, h k r hk 1 _ rfl, h k r hk 2 _ rfl, h k r hk 3 _ rfl, h k r hk 4 _ rfl, h k r hk 5 _ rfl, h k r hk 6 _ rfl⟩

set_option maxHeartbeats 1000000 in
theorem szWantS (b off cap : Nat) (rs : List WantD) (left : Int) (w : World) (hR : RowsAt w b off rs) (hb : b < w.heap.size) (hf : ∀ r ∈ rs, r.fits) (h0 : 0 ≤ left) (h1 : left ≤ 1048576) (hl : rs.length ≤ maxLen) :
    Calls Tryz.prog 15 #[.slice (some ⟨b, off, none⟩) rs.length cap, .int .i64 left] w fun e w' => (e = .returned (.int .i64 (-1)) ∨ ∃ m : Int, e = .returned (.int .i64 m) ∧ 0 ≤ m ∧ (rs.length : Int) ≤ left) ∧ Below w.heap.size w w' := by
  unfold maxLen at hl
  by_cases hn : (rs.length : Int) ≤ left
  · go_enter Tryz.func15, Tryz.ntmps15
    go_wp2
    go_loopw [1, 5] (fun l i wx => ∃ (k : Nat) (lv : Int), k ≤ rs.length ∧ i = .int .i64 k ∧ l = .int .i64 lv ∧ 0 ≤ lv ∧ lv ≤ 1048576 ∧ Below w.heap.size w wx) (fun _ i _ => rs.length - (intOf i).toNat)
    case atStart => exact ⟨0, _, Nat.zero_le _, rfl, rfl, by omega, by omega, Below.refl _ _⟩
    case round =>
      obtain ⟨k, lv, hk, rfl, rfl, l0, l1, hB⟩ := hrel
      by_cases hlt : k < rs.length
      · obtain ⟨r, hr⟩ : ∃ r, rs[k]? = some r := ⟨rs[k], List.getElem?_eq_getElem hlt⟩
        obtain ⟨c0, c1, c2, c3, c4, c5, c6⟩ := (hR.keep hb hB).at hr
        have hfr : r.fits := hf r (List.mem_of_getElem? hr)
        clear hr
        by_cases hsz : (r.c.size : Int) + r.h.size ≤ lv
        · go_wp2_with fail
          refine (szWant_yes r.c r.h r.v r.p r.s r.d r.g lv l0 l1 hsz _).mono ?_
          rintro e w1 ⟨rfl, hb1⟩
          go_wp2
          exact ⟨⟨k + 1, _, by omega, by go_num, rfl, by omega, by omega, bl_trans hB hb1⟩, by simp [intOf]; omega⟩
        · go_wp2_with fail
          refine (szWant_no r.c r.h r.v r.p r.s r.d r.g lv l0 l1 hfr.1 hfr.2 (by omega) _).mono ?_
          rintro e w1 ⟨rfl, hb1⟩
          go_wp2
          go_ret
          exact ⟨Or.inl rfl, bl_trans hB hb1⟩
      · go_wp2
        go_ret
        exact ⟨Or.inr ⟨_, rfl, l0, hn⟩, hB⟩
  · go_enter Tryz.func15, Tryz.ntmps15
    go_wp2
    go_ret
    exact ⟨Or.inl rfl, Below.refl _ _⟩
end Go.Proofs.YtiogkdafmgdbgaaGreat.W
/- What the reading of a list of wants says of memory. -/
namespace Go.Proofs.YtiogkdafmgdbgaaGreat.W
open Go.ChangeShapes Go.WideShapes Go.ChangeAt Go.RowKit

theorem exists_list {α : Type} (P : Nat → α → Prop) : ∀ (n : Nat), (∀ i, i < n → ∃ r, P i r) → ∃ rs : List α, rs.length = n ∧ ∀ i r, rs[i]? = some r → P i r
  | 0, _ => ⟨[], rfl, fun i r h => by simp at h⟩
  | n + 1, h => by
    obtain ⟨rs, hl, hr⟩ := exists_list P n (fun i hi => h i (by omega))
    obtain ⟨r, hp⟩ := h n (by omega)
    refine ⟨rs ++ [r], by simp [hl], fun i q hq => ?_⟩
    rcases Nat.lt_or_ge i n with hi | hi
    · rw [List.getElem?_append_left (by omega)] at hq; exact hr i q hq
    · rw [List.getElem?_append_right (by omega)] at hq
      by_cases e : i = n
      · subst e; simp [hl] at hq; subst hq; exact hp
      · rw [List.getElem?_eq_none (by simp; omega)] at hq; cases hq

section
variable {H : Type} {enc : TypeId × Value → H} {W : World} {base : Nat} {spare : Nat → Bool} {held : Bool} {fuel : Nat} {cs : List Value} {x : DataW H × List MemPlace}

/-- A list of wants that came in: it is empty, or lies in a block of old memory. -/
theorem read_wants (hx : DataW.trod enc Tryz.prog W base spare held fuel 22 cs = some x) :
    (∃ (a : Option Addr) (cap : Nat), cs = [.slice a 0 cap]) ∨
    ∃ (b off cap : Nat) (rs : List WantD), cs = [.slice (some ⟨b, off, none⟩) rs.length cap] ∧ 0 < rs.length ∧ rs.length ≤ maxLen ∧ b < W.heap.size ∧ RowsAt W b off rs ∧ ∀ r ∈ rs, r.fits := by
  rcases DataW.trod_slice Tryz.underlying22 hx with ⟨hcs, -⟩ | ⟨a, len, cap, elems, rest, n, -, hcs, -, hb, hlc, hcm, hel, hat, -⟩
  · exact Or.inl ⟨none, 0, hcs⟩
  by_cases h0 : len = 0
  · subst h0; exact Or.inl ⟨some a, cap, hcs⟩
  refine Or.inr ?_
  rw [cells_want] at hat
  have hall : ∀ i, i < len → ∃ r : WantD, W.cells? base (a.add (i * 7)) 7 = some r.cells ∧ r.fits := by
    intro i hi
    have h1 := hat i hi
    rw [List.getElem?_eq_getElem (by omega)] at h1
    obtain ⟨ws, hw, ht⟩ := Option.bind_eq_some_iff.1 h1
    obtain ⟨c, v, h, p, s, d, g, rfl, w0, w1, -⟩ := read_want ht
    exact ⟨⟨c, h, v, p, s, d, g⟩, hw, w0, w1⟩
  obtain ⟨rs, hlen, hrs⟩ := exists_list _ len hall
  have hcell : ∀ i r, rs[i]? = some r → ∀ j v, r.cells[j]? = some v → W.cell? ((a.add (i * 7)).add j) = some v := by
    intro i r hr j v hj
    obtain ⟨hw, -⟩ := hrs i r hr
    have hlt : j < 7 := by
      rcases Nat.lt_or_ge j 7 with h' | h'
      · exact h'
      · rw [List.getElem?_eq_none (by simpa [WantD.cells] using h')] at hj; cases hj
    have h2 := (World.cells?_some hw).2.2 j hlt
    rw [h2, hj]
  obtain ⟨r0, hr0⟩ : ∃ r, rs[0]? = some r := ⟨rs[0]'(by omega), List.getElem?_eq_getElem (by omega)⟩
  have hc0 := hcell 0 r0 hr0 0 (.string r0.c) rfl
  obtain ⟨b, off, spot⟩ := a
  have hspot : spot = none := by
    have := World.cell?_spot hc0
    simpa [Addr.add] using this
  subst hspot
  have hblk : b < W.heap.size := World.cells?_block (hrs 0 r0 hr0).1 (by omega)
  refine ⟨b, off, cap, rs, by rw [hlen]; exact hcs, by omega, by omega, hblk, fun i r hr j v hj => ?_, fun r hr => ?_⟩
  · have := hcell i r hr j v hj
    rw [Addr.add_mid, Addr.add_mid] at this
    exact this
  · obtain ⟨i, hi⟩ := List.getElem?_of_mem hr
    exact (hrs i r hi).2
end
end Go.Proofs.YtiogkdafmgdbgaaGreat.W
/- Lists of asks in memory. -/
namespace Go.Proofs.YtiogkdafmgdbgaaGreat.A
open Go.RowKit
set_option linter.unusedVariables false

theorem szAsk_yes (h c : ByteArray) (f t left : Int) (h0 : 0 ≤ left) (h1 : left ≤ 1048576) (k : (h.size : Int) + c.size ≤ left) (w : World) :
    Calls Tryz.prog 45 #[.agg #[.string h, .string c, .int .i64 f, .int .i64 t], .int .i64 left] w fun e w' => e = .returned (.int .i64 (left - h.size - c.size)) ∧ Below w.heap.size w w' := by
  go_enter Tryz.func45, Tryz.ntmps45
  go_wp2
  go_ret
  exact ⟨rfl, (Below.refl _ _).alloc (Nat.le_refl _) _⟩
theorem szAsk_no (h c : ByteArray) (f t left : Int) (h0 : 0 ≤ left) (h1 : left ≤ 1048576) (hh : h.size ≤ maxLen) (hc : c.size ≤ maxLen) (k : ¬ (h.size : Int) + c.size ≤ left) (w : World) :
    Calls Tryz.prog 45 #[.agg #[.string h, .string c, .int .i64 f, .int .i64 t], .int .i64 left] w fun e w' => e = .returned (.int .i64 (-1)) ∧ Below w.heap.size w w' := by
  unfold maxLen at hc hh
  by_cases k1 : (h.size : Int) ≤ left
  · go_enter Tryz.func45, Tryz.ntmps45
    go_wp2
    go_ret
    exact ⟨rfl, (Below.refl _ _).alloc (Nat.le_refl _) _⟩
  · go_enter Tryz.func45, Tryz.ntmps45
    go_wp2
    go_ret
    exact ⟨rfl, (Below.refl _ _).alloc (Nat.le_refl _) _⟩
theorem toAsk_b (h c : ByteArray) (f t : Int) (w : World) :
    Calls Tryz.prog 53 #[.agg #[.string h, .string c, .int .i64 f, .int .i64 t]] w fun e w' => e = .returned (.agg #[.string h, .string c, .int .i64 f, .int .i64 t]) ∧ Below w.heap.size w w' := by
  go_enter Tryz.func53, Tryz.ntmps53
  go_wp2
  exact bodyPost_ret (v := .agg #[.string h, .string c, .int .i64 f, .int .i64 t]) (by simp [results, Tryz.results53, go_sem]) rfl ⟨rfl, by repeat (first | exact Below.refl _ _ | refine bl_alloc ?_ _)⟩

structure AskD where
  h : ByteArray
  c : ByteArray
  f : Int
  t : Int
def AskD.cells (r : AskD) : List Value := [.string r.h, .string r.c, .int .i64 r.f, .int .i64 r.t]
/-- What a run's parts may be. -/
def AskD.fits (r : AskD) : Prop := r.h.size ≤ maxLen ∧ r.c.size ≤ maxLen
/-- The asks rs lie in block b from off on. -/
def RowsAt (w : World) (b off : Nat) (rs : List AskD) : Prop := ∀ k r, rs[k]? = some r → w.rangeAt b (off + k * 4) r.cells

theorem RowsAt.keep {w w' : World} {b off : Nat} {rs : List AskD} (h : RowsAt w b off rs) (hb : b < w.heap.size) (hB : Below w.heap.size w w') : RowsAt w' b off rs :=
  fun k r hk j v hj => (hB.cell (p := ⟨b, off + k * 4 + j, none⟩) hb).trans (h k r hk j v hj)
theorem RowsAt.at {w : World} {b off : Nat} {rs : List AskD} (h : RowsAt w b off rs) {k : Nat} {r : AskD} (hk : rs[k]? = some r) :
    w.cell? ⟨b, off + k * 4, none⟩ = some (.string r.h) ∧ w.cell? ⟨b, off + k * 4 + 1, none⟩ = some (.string r.c) ∧ w.cell? ⟨b, off + k * 4 + 2, none⟩ = some (.int .i64 r.f) ∧ w.cell? ⟨b, off + k * 4 + 3, none⟩ = some (.int .i64 r.t) :=
  ⟨h k r hk 0 _ rfl, h k r hk 1 _ rfl, h k r hk 2 _ rfl, h k r hk 3 _ rfl⟩

set_option maxHeartbeats 1000000 in
theorem szAskS (b off cap : Nat) (rs : List AskD) (left : Int) (w : World) (hR : RowsAt w b off rs) (hb : b < w.heap.size) (hf : ∀ r ∈ rs, r.fits) (h0 : 0 ≤ left) (h1 : left ≤ 1048576) (hl : rs.length ≤ maxLen) :
    Calls Tryz.prog 17 #[.slice (some ⟨b, off, none⟩) rs.length cap, .int .i64 left] w fun e w' => (e = .returned (.int .i64 (-1)) ∨ ∃ m : Int, e = .returned (.int .i64 m) ∧ 0 ≤ m ∧ (rs.length : Int) ≤ left) ∧ Below w.heap.size w w' := by
  unfold maxLen at hl
  by_cases hn : (rs.length : Int) ≤ left
  · go_enter Tryz.func17, Tryz.ntmps17
    go_wp2
    go_loopw [1, 5] (fun l i wx => ∃ (k : Nat) (lv : Int), k ≤ rs.length ∧ i = .int .i64 k ∧ l = .int .i64 lv ∧ 0 ≤ lv ∧ lv ≤ 1048576 ∧ Below w.heap.size w wx) (fun _ i _ => rs.length - (intOf i).toNat)
    case atStart => exact ⟨0, _, Nat.zero_le _, rfl, rfl, by omega, by omega, Below.refl _ _⟩
    case round =>
      obtain ⟨k, lv, hk, rfl, rfl, l0, l1, hB⟩ := hrel
      by_cases hlt : k < rs.length
      · obtain ⟨r, hr⟩ : ∃ r, rs[k]? = some r := ⟨rs[k], List.getElem?_eq_getElem hlt⟩
        obtain ⟨c0, c1, c2, c3⟩ := (hR.keep hb hB).at hr
        have hfr : r.fits := hf r (List.mem_of_getElem? hr)
        clear hr
        by_cases hsz : (r.h.size : Int) + r.c.size ≤ lv
        · go_wp2_with fail
          refine (szAsk_yes r.h r.c r.f r.t lv l0 l1 hsz _).mono ?_
          rintro e w1 ⟨rfl, hb1⟩
          go_wp2
          exact ⟨⟨k + 1, _, by omega, by go_num, rfl, by omega, by omega, bl_trans hB hb1⟩, by simp [intOf]; omega⟩
        · go_wp2_with fail
          refine (szAsk_no r.h r.c r.f r.t lv l0 l1 hfr.1 hfr.2 (by omega) _).mono ?_
          rintro e w1 ⟨rfl, hb1⟩
          go_wp2
          go_ret
          exact ⟨Or.inl rfl, bl_trans hB hb1⟩
      · go_wp2
        go_ret
        exact ⟨Or.inr ⟨_, rfl, l0, hn⟩, hB⟩
  · go_enter Tryz.func17, Tryz.ntmps17
    go_wp2
    go_ret
    exact ⟨Or.inl rfl, Below.refl _ _⟩
end Go.Proofs.YtiogkdafmgdbgaaGreat.A
/- What the reading of an ask says of the cells. -/
namespace Go.Proofs.YtiogkdafmgdbgaaGreat
open Go.ChangeShapes Go.WideShapes Go.ChangeAt Go.RowKit

theorem cells_ask : Tryz.prog.cellsOf 80 = 4 := by kernel_rfl
theorem list4 {α : Type} {l : List α} (h : l.length = 4) : ∃ a b c d, l = [a, b, c, d] := by
  match l, h with
  | [a, b, c, d], _ => exact ⟨a, b, c, d, rfl⟩

section
variable {H : Type} {enc : TypeId × Value → H} {W : World} {base : Nat} {spare : Nat → Bool} {held : Bool} {fuel : Nat} {cs : List Value} {x : DataW H × List MemPlace}
theorem read_ask (hx : DataW.trod enc Tryz.prog W base spare held fuel 80 cs = some x) :
    ∃ (h c : ByteArray) (f t : Int), cs = [.string h, .string c, .int .i64 f, .int .i64 t] ∧ h.size ≤ maxLen ∧ c.size ≤ maxLen := by
  obtain ⟨xs, n, rfl, -, hl, hn, hf⟩ := DataW.trod_struct Tryz.underlying80 hx
  rw [cells_ask] at hl
  obtain ⟨c0, c1, c2, c3, rfl⟩ := list4 hl
  have hn' : xs.length = 4 := hn
  have f0 : DataW.trod enc Tryz.prog W base spare held n 9 (List.take (Tryz.prog.cellsOf 9) [c0, c1, c2, c3]) = xs[0]? := hf 0 _ rfl
  have f1 : DataW.trod enc Tryz.prog W base spare held n 9 (List.take (Tryz.prog.cellsOf 9) [c1, c2, c3]) = xs[1]? := hf 1 _ rfl
  have f2 : DataW.trod enc Tryz.prog W base spare held n 3 (List.take (Tryz.prog.cellsOf 3) [c2, c3]) = xs[2]? := hf 2 _ rfl
  have f3 : DataW.trod enc Tryz.prog W base spare held n 3 (List.take (Tryz.prog.cellsOf 3) [c3]) = xs[3]? := hf 3 _ rfl
  simp only [cells_int, cells_string, List.take_succ_cons, List.take_zero] at f0 f1 f2 f3
  obtain ⟨y0, g0⟩ := some_of hn' (by decide) f0
  obtain ⟨y1, g1⟩ := some_of hn' (by decide) f1
  obtain ⟨y2, g2⟩ := some_of hn' (by decide) f2
  obtain ⟨y3, g3⟩ := some_of hn' (by decide) f3
  obtain ⟨h, e0, -, w0⟩ := DataW.trod_string Tryz.underlying9 g0
  obtain ⟨c, e1, -, w1⟩ := DataW.trod_string Tryz.underlying9 g1
  obtain ⟨f, e2, -, w2⟩ := DataW.trod_int Tryz.underlying3 g2
  obtain ⟨t, e3, -, w3⟩ := DataW.trod_int Tryz.underlying3 g3
  simp only [List.cons.injEq, and_true] at e0 e1 e2 e3
  subst e0 e1 e2 e3
  exact ⟨h, c, f, t, rfl, w0, w1⟩
end
end Go.Proofs.YtiogkdafmgdbgaaGreat
/- What the reading of a list of asks says of memory. -/
namespace Go.Proofs.YtiogkdafmgdbgaaGreat.A
open Go.ChangeShapes Go.WideShapes Go.ChangeAt Go.RowKit

theorem exists_list {α : Type} (P : Nat → α → Prop) : ∀ (n : Nat), (∀ i, i < n → ∃ r, P i r) → ∃ rs : List α, rs.length = n ∧ ∀ i r, rs[i]? = some r → P i r
  | 0, _ => ⟨[], rfl, fun i r h => by simp at h⟩
  | n + 1, h => by
    obtain ⟨rs, hl, hr⟩ := exists_list P n (fun i hi => h i (by omega))
    obtain ⟨r, hp⟩ := h n (by omega)
    refine ⟨rs ++ [r], by simp [hl], fun i q hq => ?_⟩
    rcases Nat.lt_or_ge i n with hi | hi
    · rw [List.getElem?_append_left (by omega)] at hq; exact hr i q hq
    · rw [List.getElem?_append_right (by omega)] at hq
      by_cases e : i = n
      · subst e; simp [hl] at hq; subst hq; exact hp
      · rw [List.getElem?_eq_none (by simp; omega)] at hq; cases hq

section
variable {H : Type} {enc : TypeId × Value → H} {W : World} {base : Nat} {spare : Nat → Bool} {held : Bool} {fuel : Nat} {cs : List Value} {x : DataW H × List MemPlace}

/-- A list of asks that came in: it is empty, or lies in a block of old memory. -/
theorem read_asks (hx : DataW.trod enc Tryz.prog W base spare held fuel 24 cs = some x) :
    (∃ (a : Option Addr) (cap : Nat), cs = [.slice a 0 cap]) ∨
    ∃ (b off cap : Nat) (rs : List AskD), cs = [.slice (some ⟨b, off, none⟩) rs.length cap] ∧ 0 < rs.length ∧ rs.length ≤ maxLen ∧ b < W.heap.size ∧ RowsAt W b off rs ∧ ∀ r ∈ rs, r.fits := by
  rcases DataW.trod_slice Tryz.underlying24 hx with ⟨hcs, -⟩ | ⟨a, len, cap, elems, rest, n, -, hcs, -, hb, hlc, hcm, hel, hat, -⟩
  · exact Or.inl ⟨none, 0, hcs⟩
  by_cases h0 : len = 0
  · subst h0; exact Or.inl ⟨some a, cap, hcs⟩
  refine Or.inr ?_
  rw [cells_ask] at hat
  have hall : ∀ i, i < len → ∃ r : AskD, W.cells? base (a.add (i * 4)) 4 = some r.cells ∧ r.fits := by
    intro i hi
    have h1 := hat i hi
    rw [List.getElem?_eq_getElem (by omega)] at h1
    obtain ⟨ws, hw, ht⟩ := Option.bind_eq_some_iff.1 h1
    obtain ⟨h, c, f, t, rfl, w0, w1⟩ := read_ask ht
    exact ⟨⟨h, c, f, t⟩, hw, w0, w1⟩
  obtain ⟨rs, hlen, hrs⟩ := exists_list _ len hall
  have hcell : ∀ i r, rs[i]? = some r → ∀ j v, r.cells[j]? = some v → W.cell? ((a.add (i * 4)).add j) = some v := by
    intro i r hr j v hj
    obtain ⟨hw, -⟩ := hrs i r hr
    have hlt : j < 4 := by
      rcases Nat.lt_or_ge j 4 with h' | h'
      · exact h'
      · rw [List.getElem?_eq_none (by simpa [AskD.cells] using h')] at hj; cases hj
    have h2 := (World.cells?_some hw).2.2 j hlt
    rw [h2, hj]
  obtain ⟨r0, hr0⟩ : ∃ r, rs[0]? = some r := ⟨rs[0]'(by omega), List.getElem?_eq_getElem (by omega)⟩
  have hc0 := hcell 0 r0 hr0 0 (.string r0.h) rfl
  obtain ⟨b, off, spot⟩ := a
  have hspot : spot = none := by
    have := World.cell?_spot hc0
    simpa [Addr.add] using this
  subst hspot
  have hblk : b < W.heap.size := World.cells?_block (hrs 0 r0 hr0).1 (by omega)
  refine ⟨b, off, cap, rs, by rw [hlen]; exact hcs, by omega, by omega, hblk, fun i r hr j v hj => ?_, fun r hr => ?_⟩
  · have := hcell i r hr j v hj
    rw [Addr.add_mid, Addr.add_mid] at this
    exact this
  · obtain ⟨i, hi⟩ := List.getElem?_of_mem hr
    exact (hrs i r hi).2
end
end Go.Proofs.YtiogkdafmgdbgaaGreat.A
/- A list of runs is copied. -/
namespace Go.Proofs.YtiogkdafmgdbgaaGreat
open Go.RowKit
set_option linter.unusedVariables false

theorem make_runs (n : Nat) (hn : n ≤ 1048576) : ∃ C : Array Value, C.size = n * 11 ∧ ∀ w : World, Sem.run Tryz.prog (Instr.makeSlice 32 (.int .i64 (n : Int)) (.int .i64 (n : Int))) w = .ok (.slice (some ⟨w.heap.size, 0, none⟩) n n) (w.alloc (.cells C 59)) := by
  have hq : (Tryz.prog.info? 59).map (fun i => (i.size, i.bytes, i.zero)) = some (11, 104, some (.agg #[.string ⟨#[]⟩, .int .i64 0, .string ⟨#[]⟩, .int .i64 0, .int .i64 0, .int .i64 0, .int .i64 0, .int .i64 0, .int .i64 0, .int .i64 0, .int .i64 0])) := by kernel_rfl
  cases hi : Tryz.prog.info? 59 with
  | none => rw [hi] at hq; simp at hq
  | some i =>
    rw [hi] at hq
    simp only [Option.map_some, Option.some.injEq, Prod.mk.injEq] at hq
    obtain ⟨h1, h2, h3⟩ := hq
    refine ⟨madeCells (Value.cells (.agg #[.string ⟨#[]⟩, .int .i64 0, .string ⟨#[]⟩, .int .i64 0, .int .i64 0, .int .i64 0, .int .i64 0, .int .i64 0, .int .i64 0, .int .i64 0, .int .i64 0])) (n * i.size), (size_madeCells _ _).trans (by rw [h1]), fun w => ?_⟩
    have := run_make (P := Tryz.prog) w 32 59 i _ Tryz.underlying32 hi h3 .i64 .i64 n n (by omega) (by omega) (by rw [h2]; omega) (by omega)
    simpa using this

theorem bl_cells {A : World} {k : Nat} (hk : A.heap.size ≤ k) : ∀ (vs : List Value) (o : Nat) (w' : World), Below A.heap.size A w' → Below A.heap.size A (w'.setCells k o vs)
  | [], _, _, h => h
  | v :: r, o, w', h => bl_cells hk r (o + 1) _ (bl_set h (by exact hk) v)
theorem size_cells {k : Nat} : ∀ (vs : List Value) (o : Nat) (w' : World), (w'.setCells k o vs).heap.size = w'.heap.size
  | [], _, _ => rfl
  | v :: r, o, w' => (size_cells r (o + 1) _).trans (by simp [World.setCell])
theorem there_keep {x y : World} {k o n : Nat} (h : x.there k o n) (hk : k < x.heap.size) (hb : Below x.heap.size x y) : y.there k o n :=
  fun j hj => ⟨by rw [hb.cell (p := ⟨k, o + j, none⟩) hk]; exact (h j hj).1, by rw [hb.frozen (p := ⟨k, o + j, none⟩) hk]; exact (h j hj).2⟩
theorem there_part {x : World} {g n k : Nat} (h : x.there g 0 (n * 11)) (hk : k < n) : x.there g (k * 11) 11 :=
  fun j hj => by have := h (k * 11 + j) (by omega); simpa using this
theorem there_new {w : World} {C : Array Value} {t : TypeId} {n : Nat} (hC : C.size = n * 11) : (w.alloc (.cells C t)).there w.heap.size 0 (n * 11) :=
  fun j hj => ⟨by simp [go_sem]; omega, by simp [go_sem]⟩
theorem rows_step {x : World} {g k : Nat} {rs : List RunD} {r : RunD} (hr : rs[k]? = some r) (h : RowsAt x g 0 (rs.take k)) (ht : x.there g (k * 11) 11) : RowsAt (x.setCells g (k * 11) r.cells) g 0 (rs.take (k + 1)) := by
  intro j q hj
  rw [List.getElem?_take] at hj
  split at hj
  case isFalse => cases hj
  rename_i hlt
  by_cases e : j = k
  · subst e
    rw [hr] at hj
    cases hj
    have := World.rangeAt_setCells_same x g (j * 11) r.cells ht
    simpa using this
  · have hj' : (rs.take k)[j]? = some q := by rw [List.getElem?_take, if_pos (by omega)]; exact hj
    exact World.rangeAt_setCells_apart (h j q hj') g (k * 11) r.cells (Or.inr (Or.inl (by show 0 + j * 11 + 11 ≤ k * 11; omega)))

set_option maxHeartbeats 1000000 in
theorem toRunS (b off cap : Nat) (rs : List RunD) (w : World) (hR : RowsAt w b off rs) (hb : b < w.heap.size) (hl : rs.length ≤ 1048576) :
    Calls Tryz.prog 25 #[.slice (some ⟨b, off, none⟩) rs.length cap] w fun e w' => e = .returned (.slice (some ⟨w.heap.size, 0, none⟩) rs.length rs.length) ∧ RowsAt w' w.heap.size 0 rs ∧ w'.there w.heap.size 0 (rs.length * 11) ∧ w.heap.size < w'.heap.size ∧ Below w.heap.size w w' := by
  obtain ⟨C, hC, hmk⟩ := make_runs rs.length hl
  have hinfo : (Tryz.prog.info? 59).map (·.size) = some 11 := by kernel_rfl
  go_enter Tryz.func25, Tryz.ntmps25
  go_wp2
  go_loopw [4] (fun i wx => ∃ (k : Nat), k ≤ rs.length ∧ i = .int .i64 k ∧ RowsAt wx w.heap.size 0 (rs.take k) ∧ wx.there w.heap.size 0 (rs.length * 11) ∧ w.heap.size < wx.heap.size ∧ Below w.heap.size w wx) (fun i _ => rs.length - (intOf i).toNat)
  case atStart => exact ⟨0, Nat.zero_le _, rfl, fun k r h => by simp at h, there_new hC, by simp, bl_alloc (Below.refl _ _) _⟩
  case round =>
    obtain ⟨k, hk, rfl, hrows, hth, hgz, hB⟩ := hrel
    clear hmk
    by_cases hlt : k < rs.length
    · obtain ⟨r, hr⟩ : ∃ r, rs[k]? = some r := ⟨rs[k], List.getElem?_eq_getElem hlt⟩
      obtain ⟨c0, c1, c2, c3, c4, c5, c6, c7, c8, c9, c10⟩ := (hR.keep hb hB).at hr
      have Hr : Hid _ := hr
      clear hr
      go_wp2_with fail
      refine (toRun_any r.c r.h r.v r.p r.s r.d r.g r.a r.b r.i r.u _).mono ?_
      rintro e w1 ⟨rfl, hb1⟩
      clear c0 c1 c2 c3 c4 c5 c6 c7 c8 c9 c10
      have hth1 := there_keep hth hgz hb1
      have hrows1 := hrows.keep hgz hb1
      have hB1 := bl_trans hB hb1
      have hgz1 : w.heap.size < w1.heap.size := Nat.lt_of_lt_of_le hgz hb1.size
      clear hth hrows hB hb1
      go_wp2_with (refine wpList_store_mid (by rfl) 59 _ _ (by rfl) w.heap.size (k * 11) #[.string r.c, .int .i64 r.v, .string r.h, .int .i64 r.p, .int .i64 r.s, .int .i64 r.d, .int .i64 r.g, .int .i64 r.a, .int .i64 r.b, .int .i64 r.i, .int .i64 r.u] (by rfl) (by rfl) (by exact there_part hth1 hlt) hinfo (by simp [Value.oneCell']) ?_)
      exact ⟨⟨k + 1, by omega, by go_num, rows_step Hr.out hrows1 (there_part hth1 hlt), World.there_setCells hth1 _ _ _, by rw [size_cells]; exact hgz1, bl_cells (Nat.le_refl _) _ _ _ hB1⟩, by simp [intOf]; omega⟩
    · go_wp2
      go_ret
      have e : rs.take k = rs := List.take_of_length_le (by omega)
      rw [e] at hrows
      exact ⟨rfl, hrows, hth, hgz, hB⟩
end Go.Proofs.YtiogkdafmgdbgaaGreat
/- A list of wants is copied. -/
namespace Go.Proofs.YtiogkdafmgdbgaaGreat.W
open Go.RowKit
set_option linter.unusedVariables false

theorem make_wants (n : Nat) (hn : n ≤ 1048576) : ∃ C : Array Value, C.size = n * 7 ∧ ∀ w : World, Sem.run Tryz.prog (Instr.makeSlice 31 (.int .i64 (n : Int)) (.int .i64 (n : Int))) w = .ok (.slice (some ⟨w.heap.size, 0, none⟩) n n) (w.alloc (.cells C 57)) := by
  have hq : (Tryz.prog.info? 57).map (fun i => (i.size, i.bytes, i.zero)) = some (7, 72, some (.agg #[.string ⟨#[]⟩, .int .i64 0, .string ⟨#[]⟩, .int .i64 0, .int .i64 0, .int .i64 0, .int .i64 0])) := by kernel_rfl
  cases hi : Tryz.prog.info? 57 with
  | none => rw [hi] at hq; simp at hq
  | some i =>
    rw [hi] at hq
    simp only [Option.map_some, Option.some.injEq, Prod.mk.injEq] at hq
    obtain ⟨h1, h2, h3⟩ := hq
    refine ⟨madeCells (Value.cells (.agg #[.string ⟨#[]⟩, .int .i64 0, .string ⟨#[]⟩, .int .i64 0, .int .i64 0, .int .i64 0, .int .i64 0])) (n * i.size), (size_madeCells _ _).trans (by rw [h1]), fun w => ?_⟩
    have := run_make (P := Tryz.prog) w 31 57 i _ Tryz.underlying31 hi h3 .i64 .i64 n n (by omega) (by omega) (by rw [h2]; omega) (by omega)
    simpa using this

theorem bl_cells {A : World} {k : Nat} (hk : A.heap.size ≤ k) : ∀ (vs : List Value) (o : Nat) (w' : World), Below A.heap.size A w' → Below A.heap.size A (w'.setCells k o vs)
  | [], _, _, h => h
  | v :: r, o, w', h => bl_cells hk r (o + 1) _ (bl_set h (by exact hk) v)
theorem size_cells {k : Nat} : ∀ (vs : List Value) (o : Nat) (w' : World), (w'.setCells k o vs).heap.size = w'.heap.size
  | [], _, _ => rfl
  | v :: r, o, w' => (size_cells r (o + 1) _).trans (by simp [World.setCell])
theorem there_keep {x y : World} {k o n : Nat} (h : x.there k o n) (hk : k < x.heap.size) (hb : Below x.heap.size x y) : y.there k o n :=
  fun j hj => ⟨by rw [hb.cell (p := ⟨k, o + j, none⟩) hk]; exact (h j hj).1, by rw [hb.frozen (p := ⟨k, o + j, none⟩) hk]; exact (h j hj).2⟩
theorem there_part {x : World} {g n k : Nat} (h : x.there g 0 (n * 7)) (hk : k < n) : x.there g (k * 7) 7 :=
  fun j hj => by have := h (k * 7 + j) (by omega); simpa using this
theorem there_new {w : World} {C : Array Value} {t : TypeId} {n : Nat} (hC : C.size = n * 7) : (w.alloc (.cells C t)).there w.heap.size 0 (n * 7) :=
  fun j hj => ⟨by simp [go_sem]; omega, by simp [go_sem]⟩
theorem rows_step {x : World} {g k : Nat} {rs : List WantD} {r : WantD} (hr : rs[k]? = some r) (h : RowsAt x g 0 (rs.take k)) (ht : x.there g (k * 7) 7) : RowsAt (x.setCells g (k * 7) r.cells) g 0 (rs.take (k + 1)) := by
  intro j q hj
  rw [List.getElem?_take] at hj
  split at hj
  case isFalse => cases hj
  rename_i hlt
  by_cases e : j = k
  · subst e
    rw [hr] at hj
    cases hj
    have := World.rangeAt_setCells_same x g (j * 7) r.cells ht
    simpa using this
  · have hj' : (rs.take k)[j]? = some q := by rw [List.getElem?_take, if_pos (by omega)]; exact hj
    exact World.rangeAt_setCells_apart (h j q hj') g (k * 7) r.cells (Or.inr (Or.inl (by show 0 + j * 7 + 7 ≤ k * 7; omega)))

set_option maxHeartbeats 1000000 in
theorem toWantS (b off cap : Nat) (rs : List WantD) (w : World) (hR : RowsAt w b off rs) (hb : b < w.heap.size) (hl : rs.length ≤ 1048576) :
    Calls Tryz.prog 24 #[.slice (some ⟨b, off, none⟩) rs.length cap] w fun e w' => e = .returned (.slice (some ⟨w.heap.size, 0, none⟩) rs.length rs.length) ∧ RowsAt w' w.heap.size 0 rs ∧ w'.there w.heap.size 0 (rs.length * 7) ∧ w.heap.size < w'.heap.size ∧ Below w.heap.size w w' := by
  obtain ⟨C, hC, hmk⟩ := make_wants rs.length hl
  have hinfo : (Tryz.prog.info? 57).map (·.size) = some 7 := by kernel_rfl
  go_enter Tryz.func24, Tryz.ntmps24
  go_wp2
  go_loopw [4] (fun i wx => ∃ (k : Nat), k ≤ rs.length ∧ i = .int .i64 k ∧ RowsAt wx w.heap.size 0 (rs.take k) ∧ wx.there w.heap.size 0 (rs.length * 7) ∧ w.heap.size < wx.heap.size ∧ Below w.heap.size w wx) (fun i _ => rs.length - (intOf i).toNat)
  case atStart => exact ⟨0, Nat.zero_le _, rfl, fun k r h => by simp at h, there_new hC, by simp, bl_alloc (Below.refl _ _) _⟩
  case round =>
    obtain ⟨k, hk, rfl, hrows, hth, hgz, hB⟩ := hrel
    clear hmk
    by_cases hlt : k < rs.length
    · obtain ⟨r, hr⟩ : ∃ r, rs[k]? = some r := ⟨rs[k], List.getElem?_eq_getElem hlt⟩
      obtain ⟨c0, c1, c2, c3, c4, c5, c6⟩ := (hR.keep hb hB).at hr
      have Hr : Hid _ := hr
      clear hr
      go_wp2_with fail
      refine (toWant_b r.c r.h r.v r.p r.s r.d r.g _).mono ?_
      rintro e w1 ⟨rfl, hb1⟩
      clear c0 c1 c2 c3 c4 c5 c6
      have hth1 := there_keep hth hgz hb1
      have hrows1 := hrows.keep hgz hb1
      have hB1 := bl_trans hB hb1
      have hgz1 : w.heap.size < w1.heap.size := Nat.lt_of_lt_of_le hgz hb1.size
      clear hth hrows hB hb1
      go_wp2_with (refine wpList_store_mid (by rfl) 57 _ _ (by rfl) w.heap.size (k * 7) #[.string r.c, .int .i64 r.v, .string r.h, .int .i64 r.p, .int .i64 r.s, .int .i64 r.d, .int .i64 r.g] (by rfl) (by rfl) (by exact there_part hth1 hlt) hinfo (by simp [Value.oneCell']) ?_)
      exact ⟨⟨k + 1, by omega, by go_num, rows_step Hr.out hrows1 (there_part hth1 hlt), World.there_setCells hth1 _ _ _, by rw [size_cells]; exact hgz1, bl_cells (Nat.le_refl _) _ _ _ hB1⟩, by simp [intOf]; omega⟩
    · go_wp2
      go_ret
      have e : rs.take k = rs := List.take_of_length_le (by omega)
      rw [e] at hrows
      exact ⟨rfl, hrows, hth, hgz, hB⟩
end Go.Proofs.YtiogkdafmgdbgaaGreat.W
/- A list of asks is copied. -/
namespace Go.Proofs.YtiogkdafmgdbgaaGreat.A
open Go.RowKit
set_option linter.unusedVariables false

theorem make_asks (n : Nat) (hn : n ≤ 1048576) : ∃ C : Array Value, C.size = n * 4 ∧ ∀ w : World, Sem.run Tryz.prog (Instr.makeSlice 33 (.int .i64 (n : Int)) (.int .i64 (n : Int))) w = .ok (.slice (some ⟨w.heap.size, 0, none⟩) n n) (w.alloc (.cells C 55)) := by
  have hq : (Tryz.prog.info? 55).map (fun i => (i.size, i.bytes, i.zero)) = some (4, 48, some (.agg #[.string ⟨#[]⟩, .string ⟨#[]⟩, .int .i64 0, .int .i64 0])) := by kernel_rfl
  cases hi : Tryz.prog.info? 55 with
  | none => rw [hi] at hq; simp at hq
  | some i =>
    rw [hi] at hq
    simp only [Option.map_some, Option.some.injEq, Prod.mk.injEq] at hq
    obtain ⟨h1, h2, h3⟩ := hq
    refine ⟨madeCells (Value.cells (.agg #[.string ⟨#[]⟩, .string ⟨#[]⟩, .int .i64 0, .int .i64 0])) (n * i.size), (size_madeCells _ _).trans (by rw [h1]), fun w => ?_⟩
    have := run_make (P := Tryz.prog) w 33 55 i _ Tryz.underlying33 hi h3 .i64 .i64 n n (by omega) (by omega) (by rw [h2]; omega) (by omega)
    simpa using this

theorem bl_cells {A : World} {k : Nat} (hk : A.heap.size ≤ k) : ∀ (vs : List Value) (o : Nat) (w' : World), Below A.heap.size A w' → Below A.heap.size A (w'.setCells k o vs)
  | [], _, _, h => h
  | v :: r, o, w', h => bl_cells hk r (o + 1) _ (bl_set h (by exact hk) v)
theorem size_cells {k : Nat} : ∀ (vs : List Value) (o : Nat) (w' : World), (w'.setCells k o vs).heap.size = w'.heap.size
  | [], _, _ => rfl
  | v :: r, o, w' => (size_cells r (o + 1) _).trans (by simp [World.setCell])
theorem there_keep {x y : World} {k o n : Nat} (h : x.there k o n) (hk : k < x.heap.size) (hb : Below x.heap.size x y) : y.there k o n :=
  fun j hj => ⟨by rw [hb.cell (p := ⟨k, o + j, none⟩) hk]; exact (h j hj).1, by rw [hb.frozen (p := ⟨k, o + j, none⟩) hk]; exact (h j hj).2⟩
theorem there_part {x : World} {g n k : Nat} (h : x.there g 0 (n * 4)) (hk : k < n) : x.there g (k * 4) 4 :=
  fun j hj => by have := h (k * 4 + j) (by omega); simpa using this
theorem there_new {w : World} {C : Array Value} {t : TypeId} {n : Nat} (hC : C.size = n * 4) : (w.alloc (.cells C t)).there w.heap.size 0 (n * 4) :=
  fun j hj => ⟨by simp [go_sem]; omega, by simp [go_sem]⟩
theorem rows_step {x : World} {g k : Nat} {rs : List AskD} {r : AskD} (hr : rs[k]? = some r) (h : RowsAt x g 0 (rs.take k)) (ht : x.there g (k * 4) 4) : RowsAt (x.setCells g (k * 4) r.cells) g 0 (rs.take (k + 1)) := by
  intro j q hj
  rw [List.getElem?_take] at hj
  split at hj
  case isFalse => cases hj
  rename_i hlt
  by_cases e : j = k
  · subst e
    rw [hr] at hj
    cases hj
    have := World.rangeAt_setCells_same x g (j * 4) r.cells ht
    simpa using this
  · have hj' : (rs.take k)[j]? = some q := by rw [List.getElem?_take, if_pos (by omega)]; exact hj
    exact World.rangeAt_setCells_apart (h j q hj') g (k * 4) r.cells (Or.inr (Or.inl (by show 0 + j * 4 + 4 ≤ k * 4; omega)))

set_option maxHeartbeats 1000000 in
theorem toAskS (b off cap : Nat) (rs : List AskD) (w : World) (hR : RowsAt w b off rs) (hb : b < w.heap.size) (hl : rs.length ≤ 1048576) :
    Calls Tryz.prog 26 #[.slice (some ⟨b, off, none⟩) rs.length cap] w fun e w' => e = .returned (.slice (some ⟨w.heap.size, 0, none⟩) rs.length rs.length) ∧ RowsAt w' w.heap.size 0 rs ∧ w'.there w.heap.size 0 (rs.length * 4) ∧ w.heap.size < w'.heap.size ∧ Below w.heap.size w w' := by
  obtain ⟨C, hC, hmk⟩ := make_asks rs.length hl
  have hinfo : (Tryz.prog.info? 55).map (·.size) = some 4 := by kernel_rfl
  go_enter Tryz.func26, Tryz.ntmps26
  go_wp2
  go_loopw [4] (fun i wx => ∃ (k : Nat), k ≤ rs.length ∧ i = .int .i64 k ∧ RowsAt wx w.heap.size 0 (rs.take k) ∧ wx.there w.heap.size 0 (rs.length * 4) ∧ w.heap.size < wx.heap.size ∧ Below w.heap.size w wx) (fun i _ => rs.length - (intOf i).toNat)
  case atStart => exact ⟨0, Nat.zero_le _, rfl, fun k r h => by simp at h, there_new hC, by simp, bl_alloc (Below.refl _ _) _⟩
  case round =>
    obtain ⟨k, hk, rfl, hrows, hth, hgz, hB⟩ := hrel
    clear hmk
    by_cases hlt : k < rs.length
    · obtain ⟨r, hr⟩ : ∃ r, rs[k]? = some r := ⟨rs[k], List.getElem?_eq_getElem hlt⟩
      obtain ⟨c0, c1, c2, c3⟩ := (hR.keep hb hB).at hr
      have Hr : Hid _ := hr
      clear hr
      go_wp2_with fail
      refine (toAsk_b r.h r.c r.f r.t _).mono ?_
      rintro e w1 ⟨rfl, hb1⟩
      clear c0 c1 c2 c3
      have hth1 := there_keep hth hgz hb1
      have hrows1 := hrows.keep hgz hb1
      have hB1 := bl_trans hB hb1
      have hgz1 : w.heap.size < w1.heap.size := Nat.lt_of_lt_of_le hgz hb1.size
      clear hth hrows hB hb1
      go_wp2_with (refine wpList_store_mid (by rfl) 55 _ _ (by rfl) w.heap.size (k * 4) #[.string r.h, .string r.c, .int .i64 r.f, .int .i64 r.t] (by rfl) (by rfl) (by exact there_part hth1 hlt) hinfo (by simp [Value.oneCell']) ?_)
      exact ⟨⟨k + 1, by omega, by go_num, rows_step Hr.out hrows1 (there_part hth1 hlt), World.there_setCells hth1 _ _ _, by rw [size_cells]; exact hgz1, bl_cells (Nat.le_refl _) _ _ _ hB1⟩, by simp [intOf]; omega⟩
    · go_wp2
      go_ret
      have e : rs.take k = rs := List.take_of_length_le (by omega)
      rw [e] at hrows
      exact ⟨rfl, hrows, hth, hgz, hB⟩
end Go.Proofs.YtiogkdafmgdbgaaGreat.A
