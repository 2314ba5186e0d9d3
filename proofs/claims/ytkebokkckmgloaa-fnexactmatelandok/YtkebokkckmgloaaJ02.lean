import Derived.Test.YtkebokkckmgloaaJ01
import Derived.ProofKit
import Derived.OpenShut
import Derived.ChangeOld
import Derived.Deep.MidRow
import Derived.Laws.MakeOwn
import Derived.Deep.RegionHeld3
import Derived.Laws.Pointers
import Derived.StillTactics
/- Lists of places. -/
namespace Go.Proofs.Ytkebokkckmgloaa.P
open Go.RowKit
set_option linter.unusedVariables false

/-- A place of the book: its list of wants is a slice. -/
structure PlaceD where
  b : ByteArray
  s : Int
  a : Option Addr
  c : Nat
  ws : List W.WantD
def PlaceD.cells (r : PlaceD) : List Value := [.string r.b, .int .i64 r.s, .slice r.a r.ws.length r.c]
/-- What a place says. -/
def PlaceD.says (r : PlaceD) : ByteArray × Int × List W.WantD := (r.b, r.s, r.ws)
def Like (ps qs : List PlaceD) : Prop := ps.map PlaceD.says = qs.map PlaceD.says
theorem Like.len {ps qs : List PlaceD} (h : Like ps qs) : ps.length = qs.length := by simpa using congrArg List.length h
theorem Like.at {ps qs : List PlaceD} (h : Like ps qs) {k : Nat} {p q : PlaceD} (hp : ps[k]? = some p) (hq : qs[k]? = some q) : p.b = q.b ∧ p.s = q.s ∧ p.ws = q.ws := by
  have h1 : (ps.map PlaceD.says)[k]? = (qs.map PlaceD.says)[k]? := by rw [h]
  rw [List.getElem?_map, List.getElem?_map, hp, hq] at h1
  simpa [PlaceD.says] using h1
theorem Like.get {ps qs : List PlaceD} (h : Like ps qs) {k : Nat} {p : PlaceD} (hp : ps[k]? = some p) : ∃ q, qs[k]? = some q ∧ p.b = q.b ∧ p.s = q.s ∧ p.ws = q.ws := by
  have hk : k < qs.length := by rw [← h.len]; exact (List.getElem?_eq_some_iff.1 hp).1
  exact ⟨qs[k], List.getElem?_eq_getElem hk, h.at hp (List.getElem?_eq_getElem hk)⟩
theorem Like.symm {ps qs : List PlaceD} (h : Like ps qs) : Like qs ps := Eq.symm h
theorem Like.trans {ps qs rs : List PlaceD} (h : Like ps qs) (h' : Like qs rs) : Like ps rs := Eq.trans h h'
/-- The places rs lie in block b from off on. -/
def RowsAt (w : World) (b off : Nat) (rs : List PlaceD) : Prop := ∀ k r, rs[k]? = some r → w.rangeAt b (off + k * 3) r.cells
theorem RowsAt.keep {w w' : World} {b off : Nat} {rs : List PlaceD} (h : RowsAt w b off rs) (hb : b < w.heap.size) (hB : Below w.heap.size w w') : RowsAt w' b off rs :=
  fun k r hk j v hj => (hB.cell (p := ⟨b, off + k * 3 + j, none⟩) hb).trans (h k r hk j v hj)
theorem RowsAt.at {w : World} {b off : Nat} {rs : List PlaceD} (h : RowsAt w b off rs) {k : Nat} {r : PlaceD} (hk : rs[k]? = some r) :
    w.cell? ⟨b, off + k * 3, none⟩ = some (.string r.b) ∧ w.cell? ⟨b, off + k * 3 + 1, none⟩ = some (.int .i64 r.s) ∧ w.cell? ⟨b, off + k * 3 + 2, none⟩ = some (.slice r.a r.ws.length r.c) :=
  ⟨h k r hk 0 _ rfl, h k r hk 1 _ rfl, h k r hk 2 _ rfl⟩
/-- What came in. -/
def PlaceD.inn (w : World) (r : PlaceD) : Prop := r.b.size ≤ maxLen ∧ W.In w (.slice r.a r.ws.length r.c) r.ws
theorem PlaceD.inn.keep {w w' : World} {r : PlaceD} (h : r.inn w) (hB : Below w.heap.size w w') : r.inn w' := ⟨h.1, h.2.keep hB⟩
/-- The wants lie in a block of the call's own, behind block B. -/
def PlaceD.blk (B : Nat) (w : World) (r : PlaceD) : Prop := ∃ g, r.a = some ⟨g, 0, none⟩ ∧ r.c = r.ws.length ∧ B < g ∧ g < w.heap.size ∧ W.RowsAt w g 0 r.ws
theorem PlaceD.blk.keep {B : Nat} {w w' : World} {r : PlaceD} (h : r.blk B w) (hB : Below w.heap.size w w') : r.blk B w' := by
  obtain ⟨g, h1, hc, h2, h3, h4⟩ := h
  exact ⟨g, h1, hc, h2, Nat.lt_of_lt_of_le h3 hB.size, h4.keep h3 hB⟩
theorem PlaceD.blk.low {B B' : Nat} {w : World} {r : PlaceD} (h : r.blk B w) (hB : B' ≤ B) : r.blk B' w := by
  obtain ⟨g, h1, hc, h2, h3, h4⟩ := h
  exact ⟨g, h1, hc, by omega, h3, h4⟩
def Lns (rs : List PlaceD) : Prop := ∀ r ∈ rs, r.ws.length ≤ 1048576

set_option maxHeartbeats 1000000 in
theorem szPlace (r : PlaceD) (left : Int) (w : World) (hi : r.inn w) (h0 : 0 ≤ left) (h1 : left ≤ 1048576) :
    Calls Try.prog 154 #[.agg #[.string r.b, .int .i64 r.s, .slice r.a r.ws.length r.c], .int .i64 left] w fun e w' => (e = .returned (.int .i64 (-1)) ∨ ∃ m : Int, e = .returned (.int .i64 m) ∧ 0 ≤ m ∧ m ≤ 1048576 ∧ r.ws.length ≤ 1048576) ∧ Below w.heap.size w w' := by
  have Hi : Hid (r.inn w) := hi
  have hn := hi.1
  unfold maxLen at hn
  clear hi
  by_cases k1 : (r.b.size : Int) ≤ left
  · go_enter Try.func154, Try.ntmps154
    go_wp2_with fail
    refine (W.sz_in (Hi.out.2.keep (bl_alloc (Below.refl _ _) _)) (left - (r.b.size : Int)) (by omega) (by omega)).mono ?_
    rintro e w1 ⟨hx, c⟩
    have C : Hid (Below w.heap.size w w1) := bl_trans (bl_alloc (Below.refl _ _) _) c
    clear c
    rcases hx with rfl | ⟨m, rfl, m0, m1, hl⟩
    · go_wp2
      go_ret
      exact ⟨Or.inl rfl, C.out⟩
    · go_wp2
      go_ret
      exact ⟨Or.inr ⟨m, rfl, m0, m1, hl⟩, C.out⟩
  · go_enter Try.func154, Try.ntmps154
    go_wp2
    go_ret
    exact ⟨Or.inl rfl, bl_alloc (Below.refl _ _) _⟩

set_option maxHeartbeats 1000000 in
theorem szPlaceS (b off cap : Nat) (rs : List PlaceD) (left : Int) (w : World) (hR : RowsAt w b off rs) (hb : b < w.heap.size) (hf : ∀ r ∈ rs, r.inn w) (h0 : 0 ≤ left) (h1 : left ≤ 1048576) (hl : rs.length ≤ maxLen) :
    Calls Try.prog 109 #[.slice (some ⟨b, off, none⟩) rs.length cap, .int .i64 left] w fun e w' => (e = .returned (.int .i64 (-1)) ∨ ∃ m : Int, e = .returned (.int .i64 m) ∧ 0 ≤ m ∧ m ≤ 1048576 ∧ (rs.length : Int) ≤ left ∧ Lns rs) ∧ Below w.heap.size w w' := by
  unfold maxLen at hl
  have HF : Hid _ := hf
  clear hf
  by_cases hn : (rs.length : Int) ≤ left
  · go_enter Try.func109, Try.ntmps109
    go_wp2
    go_loopw [1, 5] (fun l i wx => ∃ (k : Nat) (lv : Int), k ≤ rs.length ∧ i = .int .i64 k ∧ l = .int .i64 lv ∧ 0 ≤ lv ∧ lv ≤ 1048576 ∧ Hid (∀ j r, j < k → rs[j]? = some r → r.ws.length ≤ 1048576) ∧ Below w.heap.size w wx) (fun _ i _ => rs.length - (intOf i).toNat)
    case atStart => exact ⟨0, _, Nat.zero_le _, rfl, rfl, by omega, by omega, (fun j r hj _ => by omega), Below.refl _ _⟩
    case round =>
      obtain ⟨k, lv, hk, rfl, rfl, l0, l1, Ha, hB⟩ := hrel
      by_cases hlt : k < rs.length
      · obtain ⟨r, hr⟩ : ∃ r, rs[k]? = some r := ⟨rs[k], List.getElem?_eq_getElem hlt⟩
        obtain ⟨c0, c1, c2⟩ := (hR.keep hb hB).at hr
        have Hr : Hid _ := hr
        clear hr
        go_wp2_with fail
        refine (szPlace r lv _ ((HF.out r (List.mem_of_getElem? Hr.out)).keep hB) l0 l1).mono ?_
        rintro e w1 ⟨hx, hb1⟩
        have Hb : Hid (Below w.heap.size w w1) := bl_trans hB hb1
        clear hB hb1
        rcases hx with rfl | ⟨m, rfl, m0, m1, hw⟩
        · go_wp2
          go_ret
          exact ⟨Or.inl rfl, Hb.out⟩
        · go_wp2
          exact ⟨⟨k + 1, _, by omega, by go_num, rfl, by omega, by omega, (fun j q hj hq => by
            by_cases e : j = k
            · subst e; have hh := Hr.out; rw [hh] at hq; cases hq; exact hw
            · exact Ha.out j q (by omega) hq), Hb.out⟩, by simp [intOf]; omega⟩
      · go_wp2
        go_ret
        exact ⟨Or.inr ⟨_, rfl, l0, l1, hn, fun r hr => by
          obtain ⟨j, hj⟩ := List.getElem?_of_mem hr
          have hjl : j < rs.length := (List.getElem?_eq_some_iff.1 hj).1
          exact Ha.out j r (by omega) hj⟩, hB⟩
  · go_enter Try.func109, Try.ntmps109
    go_wp2
    go_ret
    exact ⟨Or.inl rfl, Below.refl _ _⟩
theorem sz_nil (a : Option Addr) (cap : Nat) (left : Int) (w : World) (h0 : 0 ≤ left) (h1 : left ≤ 1048576) :
    Calls Try.prog 109 #[.slice a 0 cap, .int .i64 left] w fun e w' => e = .returned (.int .i64 left) ∧ w' = w := by
  go_enter Try.func109, Try.ntmps109
  go_wp2
  refine wp_loop_rounds 1 ?_
  rw [rounds_succ]
  go_wp2
  go_ret
  exact ⟨rfl, rfl⟩
/-- A list that came in. -/
def In (w : World) (v : Value) (l : List PlaceD) : Prop := (l = [] ∧ ∃ a cap, v = .slice a 0 cap) ∨ ∃ b off cap, v = .slice (some ⟨b, off, none⟩) l.length cap ∧ l.length ≤ maxLen ∧ b < w.heap.size ∧ RowsAt w b off l ∧ ∀ r ∈ l, r.inn w
theorem In.keep {w w' : World} {v : Value} {l : List PlaceD} (h : In w v l) (hb : Below w.heap.size w w') : In w' v l := by
  rcases h with h | ⟨b, off, cap, h1, h2, h3, h4, h5⟩
  · exact Or.inl h
  · exact Or.inr ⟨b, off, cap, h1, h2, Nat.lt_of_lt_of_le h3 hb.size, h4.keep h3 hb, fun r hr => (h5 r hr).keep hb⟩
theorem sz_in {w : World} {v : Value} {l : List PlaceD} (h : In w v l) (left : Int) (h0 : 0 ≤ left) (h1 : left ≤ 1048576) :
    Calls Try.prog 109 #[v, .int .i64 left] w fun e w' => (e = .returned (.int .i64 (-1)) ∨ ∃ m : Int, e = .returned (.int .i64 m) ∧ 0 ≤ m ∧ m ≤ 1048576 ∧ l.length ≤ 1048576 ∧ Lns l) ∧ Below w.heap.size w w' := by
  rcases h with ⟨rfl, a, cap, rfl⟩ | ⟨b, off, cap, rfl, k2, k3, k4, k5⟩
  · refine (sz_nil a cap left w h0 h1).mono ?_
    rintro e w' ⟨rfl, rfl⟩
    exact ⟨Or.inr ⟨left, rfl, h0, h1, by simp, fun r hr => by cases hr⟩, Below.refl _ _⟩
  · refine (szPlaceS b off cap l left w k4 k3 k5 h0 h1 k2).mono ?_
    rintro e w' ⟨rfl | ⟨m, rfl, m0, m1, hn, hL⟩, hb⟩
    · exact ⟨Or.inl rfl, hb⟩
    · exact ⟨Or.inr ⟨m, rfl, m0, m1, by omega, hL⟩, hb⟩
end Go.Proofs.Ytkebokkckmgloaa.P
/- What the reading of a want and of a run says of the cells. -/
namespace Go.Proofs.Ytkebokkckmgloaa
open Go.ChangeShapes Go.WideShapes Go.ChangeAt Go.RowKit

theorem cells_want : Try.prog.cellsOf 51 = 7 := by kernel_rfl
theorem cells_run : Try.prog.cellsOf 53 = 11 := by kernel_rfl
theorem cells_int : Try.prog.cellsOf 3 = 1 := by kernel_rfl
theorem cells_string : Try.prog.cellsOf 9 = 1 := by kernel_rfl

/-- A number that an int holds. -/
def I64 (n : Int) : Prop := -9223372036854775808 ≤ n ∧ n ≤ 9223372036854775807
theorem I64_of {n : Int} (h : (Lit.int .i64 n).wf = true) : I64 n := by
  simpa [Lit.wf, IntKind.min, IntKind.max, IntKind.signed, IntKind.bits, I64] using h

theorem some_of {α : Type} {l : List α} {n i : Nat} {x : Option α} (hl : l.length = n) (hi : i < n) (h : x = l[i]?) : ∃ y, x = some y := by
  subst hl; exact ⟨l[i], by rw [h]; exact List.getElem?_eq_getElem hi⟩

theorem list7 {α : Type} {l : List α} (h : l.length = 7) : ∃ a b c d e f g, l = [a, b, c, d, e, f, g] := by
  match l, h with
  | [a, b, c, d, e, f, g], _ => exact ⟨a, b, c, d, e, f, g, rfl⟩
theorem list11 {α : Type} {l : List α} (h : l.length = 11) : ∃ a b c d e f g h i j k, l = [a, b, c, d, e, f, g, h, i, j, k] := by
  match l, h with
  | [a, b, c, d, e, f, g, h, i, j, k], _ => exact ⟨a, b, c, d, e, f, g, h, i, j, k, rfl⟩

section
variable {H : Type} {enc : TypeId × Value → H} {W : World} {base : Nat} {spare : Nat → Bool} {held : Bool} {fuel : Nat} {cs : List Value} {x : DataW H × List MemPlace}

theorem read_want (hx : DataW.trod enc Try.prog W base spare held fuel 51 cs = some x) :
    ∃ (c : ByteArray) (v : Int) (h : ByteArray) (p s d g : Int), cs = [.string c, .int .i64 v, .string h, .int .i64 p, .int .i64 s, .int .i64 d, .int .i64 g] ∧ c.size ≤ maxLen ∧ h.size ≤ maxLen ∧ I64 v ∧ I64 p ∧ I64 s ∧ I64 d ∧ I64 g := by
  obtain ⟨xs, n, rfl, -, hl, hn, hf⟩ := DataW.trod_struct Try.underlying51 hx
  rw [cells_want] at hl
  obtain ⟨c0, c1, c2, c3, c4, c5, c6, rfl⟩ := list7 hl
  have hn' : xs.length = 7 := hn
  have f0 : DataW.trod enc Try.prog W base spare held n 9 (List.take (Try.prog.cellsOf 9) [c0, c1, c2, c3, c4, c5, c6]) = xs[0]? := hf 0 _ rfl
  have f1 : DataW.trod enc Try.prog W base spare held n 3 (List.take (Try.prog.cellsOf 3) [c1, c2, c3, c4, c5, c6]) = xs[1]? := hf 1 _ rfl
  have f2 : DataW.trod enc Try.prog W base spare held n 9 (List.take (Try.prog.cellsOf 9) [c2, c3, c4, c5, c6]) = xs[2]? := hf 2 _ rfl
  have f3 : DataW.trod enc Try.prog W base spare held n 3 (List.take (Try.prog.cellsOf 3) [c3, c4, c5, c6]) = xs[3]? := hf 3 _ rfl
  have f4 : DataW.trod enc Try.prog W base spare held n 3 (List.take (Try.prog.cellsOf 3) [c4, c5, c6]) = xs[4]? := hf 4 _ rfl
  have f5 : DataW.trod enc Try.prog W base spare held n 3 (List.take (Try.prog.cellsOf 3) [c5, c6]) = xs[5]? := hf 5 _ rfl
  have f6 : DataW.trod enc Try.prog W base spare held n 3 (List.take (Try.prog.cellsOf 3) [c6]) = xs[6]? := hf 6 _ rfl
  simp only [cells_int, cells_string, List.take_succ_cons, List.take_zero] at f0 f1 f2 f3 f4 f5 f6
  obtain ⟨y0, g0⟩ := some_of hn' (by decide) f0
  obtain ⟨y1, g1⟩ := some_of hn' (by decide) f1
  obtain ⟨y2, g2⟩ := some_of hn' (by decide) f2
  obtain ⟨y3, g3⟩ := some_of hn' (by decide) f3
  obtain ⟨y4, g4⟩ := some_of hn' (by decide) f4
  obtain ⟨y5, g5⟩ := some_of hn' (by decide) f5
  obtain ⟨y6, g6⟩ := some_of hn' (by decide) f6
  obtain ⟨c, e0, -, w0⟩ := DataW.trod_string Try.underlying9 g0
  obtain ⟨v, e1, -, w1⟩ := DataW.trod_int Try.underlying3 g1
  obtain ⟨h, e2, -, w2⟩ := DataW.trod_string Try.underlying9 g2
  obtain ⟨p, e3, -, w3⟩ := DataW.trod_int Try.underlying3 g3
  obtain ⟨s, e4, -, w4⟩ := DataW.trod_int Try.underlying3 g4
  obtain ⟨d, e5, -, w5⟩ := DataW.trod_int Try.underlying3 g5
  obtain ⟨g, e6, -, w6⟩ := DataW.trod_int Try.underlying3 g6
  simp only [List.cons.injEq, and_true] at e0 e1 e2 e3 e4 e5 e6
  subst e0 e1 e2 e3 e4 e5 e6
  exact ⟨c, v, h, p, s, d, g, rfl, w0, w2, I64_of w1, I64_of w3, I64_of w4, I64_of w5, I64_of w6⟩

theorem read_run (hx : DataW.trod enc Try.prog W base spare held fuel 53 cs = some x) :
    ∃ (c : ByteArray) (v : Int) (h : ByteArray) (p s d g a b i u : Int), cs = [.string c, .int .i64 v, .string h, .int .i64 p, .int .i64 s, .int .i64 d, .int .i64 g, .int .i64 a, .int .i64 b, .int .i64 i, .int .i64 u] ∧ c.size ≤ maxLen ∧ h.size ≤ maxLen ∧ I64 v ∧ I64 p ∧ I64 s ∧ I64 d ∧ I64 g ∧ I64 a ∧ I64 b ∧ I64 i ∧ I64 u := by
  obtain ⟨xs, n, rfl, -, hl, hn, hf⟩ := DataW.trod_struct Try.underlying53 hx
  rw [cells_run] at hl
  obtain ⟨c0, c1, c2, c3, c4, c5, c6, c7, c8, c9, c10, rfl⟩ := list11 hl
  have hn' : xs.length = 5 := hn
  have f0 : DataW.trod enc Try.prog W base spare held n 51 (List.take (Try.prog.cellsOf 51) [c0, c1, c2, c3, c4, c5, c6, c7, c8, c9, c10]) = xs[0]? := hf 0 _ rfl
  have f1 : DataW.trod enc Try.prog W base spare held n 3 (List.take (Try.prog.cellsOf 3) [c7, c8, c9, c10]) = xs[1]? := hf 1 _ rfl
  have f2 : DataW.trod enc Try.prog W base spare held n 3 (List.take (Try.prog.cellsOf 3) [c8, c9, c10]) = xs[2]? := hf 2 _ rfl
  have f3 : DataW.trod enc Try.prog W base spare held n 3 (List.take (Try.prog.cellsOf 3) [c9, c10]) = xs[3]? := hf 3 _ rfl
  have f4 : DataW.trod enc Try.prog W base spare held n 3 (List.take (Try.prog.cellsOf 3) [c10]) = xs[4]? := hf 4 _ rfl
  simp only [cells_int, cells_want, List.take_succ_cons, List.take_zero] at f0 f1 f2 f3 f4
  obtain ⟨y0, g0⟩ := some_of hn' (by decide) f0
  obtain ⟨y1, g1⟩ := some_of hn' (by decide) f1
  obtain ⟨y2, g2⟩ := some_of hn' (by decide) f2
  obtain ⟨y3, g3⟩ := some_of hn' (by decide) f3
  obtain ⟨y4, g4⟩ := some_of hn' (by decide) f4
  obtain ⟨c, v, h, p, s, d, g, e0, w0⟩ := read_want g0
  obtain ⟨a, e1, -, w1⟩ := DataW.trod_int Try.underlying3 g1
  obtain ⟨b, e2, -, w2⟩ := DataW.trod_int Try.underlying3 g2
  obtain ⟨i, e3, -, w3⟩ := DataW.trod_int Try.underlying3 g3
  obtain ⟨u, e4, -, w4⟩ := DataW.trod_int Try.underlying3 g4
  simp only [List.cons.injEq, and_true] at e0 e1 e2 e3 e4
  obtain ⟨e00, e01, e02, e03, e04, e05, e06⟩ := e0
  subst e00 e01 e02 e03 e04 e05 e06 e1 e2 e3 e4
  obtain ⟨k0, k1, k2, k3, k4, k5, k6⟩ := w0
  exact ⟨c, v, h, p, s, d, g, a, b, i, u, rfl, k0, k1, k2, k3, k4, k5, k6, I64_of w1, I64_of w2, I64_of w3, I64_of w4⟩
end
end Go.Proofs.Ytkebokkckmgloaa
/- What the reading of a list of wants says of memory. -/
namespace Go.Proofs.Ytkebokkckmgloaa.W
open Go.ChangeShapes Go.WideShapes Go.ChangeAt Go.RowKit

theorem exists_list {α : Type} (P : Nat → α → Prop) : ∀ (n : Nat), (∀ i, i < n → ∃ r, P i r) → ∃ rs : List α, rs.length = n ∧ ∀ i r, rs[i]? = some r → P i r
  | 0, _ => ⟨[], rfl, fun i r h => by simp at h⟩
  | n + 1, h => by
    obtain ⟨rs, hl, hr⟩ := exists_list P n (fun i hi => h i (by omega))
    obtain ⟨r, hp⟩ := h n (by omega)
    refine ⟨rs ++ [r], by simp [hl], fun i q hq => ?_⟩
    rcases Nat.lt_or_ge i n with hi | hi
    · rw [List.getElem?_append_left (by omega)] at hq; exact hr i q hq
    · rw [List.getElem?_append_right (by omega)] at hq
      by_cases e : i = n
      · subst e; simp [hl] at hq; subst hq; exact hp
      · rw [List.getElem?_eq_none (by simp; omega)] at hq; cases hq

section
variable {H : Type} {enc : TypeId × Value → H} {W : World} {base : Nat} {spare : Nat → Bool} {held : Bool} {fuel : Nat} {cs : List Value} {x : DataW H × List MemPlace}

/-- A list of wants that came in: it is empty, or lies in a block of old memory. -/
theorem read_wants (hx : DataW.trod enc Try.prog W base spare held fuel 45 cs = some x) :
    (∃ (a : Option Addr) (cap : Nat), cs = [.slice a 0 cap]) ∨
    ∃ (b off cap : Nat) (rs : List WantD), cs = [.slice (some ⟨b, off, none⟩) rs.length cap] ∧ 0 < rs.length ∧ rs.length ≤ maxLen ∧ b < W.heap.size ∧ RowsAt W b off rs ∧ ∀ r ∈ rs, r.fits := by
  rcases DataW.trod_slice Try.underlying45 hx with ⟨hcs, -⟩ | ⟨a, len, cap, elems, rest, n, -, hcs, -, hb, hlc, hcm, hel, hat, -⟩
  · exact Or.inl ⟨none, 0, hcs⟩
  by_cases h0 : len = 0
  · subst h0; exact Or.inl ⟨some a, cap, hcs⟩
  refine Or.inr ?_
  rw [cells_want] at hat
  have hall : ∀ i, i < len → ∃ r : WantD, W.cells? base (a.add (i * 7)) 7 = some r.cells ∧ r.fits := by
    intro i hi
    have h1 := hat i hi
    rw [List.getElem?_eq_getElem (by omega)] at h1
    obtain ⟨ws, hw, ht⟩ := Option.bind_eq_some_iff.1 h1
    obtain ⟨c, v, h, p, s, d, g, rfl, w0, w1, -⟩ := read_want ht
    exact ⟨⟨c, h, v, p, s, d, g⟩, hw, w0, w1⟩
  obtain ⟨rs, hlen, hrs⟩ := exists_list _ len hall
  have hcell : ∀ i r, rs[i]? = some r → ∀ j v, r.cells[j]? = some v → W.cell? ((a.add (i * 7)).add j) = some v := by
    intro i r hr j v hj
    obtain ⟨hw, -⟩ := hrs i r hr
    have hlt : j < 7 := by
      rcases Nat.lt_or_ge j 7 with h' | h'
      · exact h'
      · rw [List.getElem?_eq_none (by simpa [WantD.cells] using h')] at hj; cases hj
    have h2 := (World.cells?_some hw).2.2 j hlt
    rw [h2, hj]
  obtain ⟨r0, hr0⟩ : ∃ r, rs[0]? = some r := ⟨rs[0]'(by omega), List.getElem?_eq_getElem (by omega)⟩
  have hc0 := hcell 0 r0 hr0 0 (.string r0.c) rfl
  obtain ⟨b, off, spot⟩ := a
  have hspot : spot = none := by
    have := World.cell?_spot hc0
    simpa [Addr.add] using this
  subst hspot
  have hblk : b < W.heap.size := World.cells?_block (hrs 0 r0 hr0).1 (by omega)
  refine ⟨b, off, cap, rs, by rw [hlen]; exact hcs, by omega, by omega, hblk, fun i r hr j v hj => ?_, fun r hr => ?_⟩
  · have := hcell i r hr j v hj
    rw [Addr.add_mid, Addr.add_mid] at this
    exact this
  · obtain ⟨i, hi⟩ := List.getElem?_of_mem hr
    exact (hrs i r hi).2
end
end Go.Proofs.Ytkebokkckmgloaa.W
/- What the reading of a list of places says of memory. -/
namespace Go.Proofs.Ytkebokkckmgloaa.P
open Go.ChangeShapes Go.WideShapes Go.ChangeAt Go.RowKit

theorem cells_place : Try.prog.cellsOf 174 = 3 := by kernel_rfl
theorem cells_pws : Try.prog.cellsOf 45 = 1 := by kernel_rfl
theorem list3 {α : Type} {l : List α} (h : l.length = 3) : ∃ a b c, l = [a, b, c] := by
  match l, h with
  | [a, b, c], _ => exact ⟨a, b, c, rfl⟩
section
variable {H : Type} {enc : TypeId × Value → H} {Z : World} {base : Nat} {spare : Nat → Bool} {held : Bool} {fuel : Nat} {cs : List Value} {x : DataW H × List MemPlace}
theorem in_pwants {v : Value} (hx : DataW.trod enc Try.prog Z base spare held fuel 45 [v] = some x) : ∃ a c l, v = .slice a l.length c ∧ W.In Z v l := by
  rcases W.read_wants hx with ⟨a, cap, h⟩ | ⟨b, off, cap, rs, h, -, hl, hb, hR, hf⟩
  · simp only [List.cons.injEq, and_true] at h; exact ⟨a, cap, [], h, Or.inl ⟨rfl, a, cap, h⟩⟩
  · simp only [List.cons.injEq, and_true] at h; exact ⟨_, cap, rs, h, Or.inr ⟨b, off, cap, h, hl, hb, hR, hf⟩⟩
theorem read_place (hx : DataW.trod enc Try.prog Z base spare held fuel 174 cs = some x) :
    ∃ (b : ByteArray) (s : Int) (a : Option Addr) (c : Nat) (ws : List W.WantD), cs = [.string b, .int .i64 s, .slice a ws.length c] ∧ b.size ≤ maxLen ∧ W.In Z (.slice a ws.length c) ws := by
  obtain ⟨xs, n, rfl, -, hl, hn, hf⟩ := DataW.trod_struct Try.underlying174 hx
  rw [cells_place] at hl
  obtain ⟨c0, c1, c2, rfl⟩ := list3 hl
  have hn' : xs.length = 3 := hn
  have f0 : DataW.trod enc Try.prog Z base spare held n 9 (List.take (Try.prog.cellsOf 9) [c0, c1, c2]) = xs[0]? := hf 0 _ rfl
  have f1 : DataW.trod enc Try.prog Z base spare held n 3 (List.take (Try.prog.cellsOf 3) [c1, c2]) = xs[1]? := hf 1 _ rfl
  have f2 : DataW.trod enc Try.prog Z base spare held n 45 (List.take (Try.prog.cellsOf 45) [c2]) = xs[2]? := hf 2 _ rfl
  simp only [cells_int, cells_string, cells_pws, List.take_succ_cons, List.take_zero] at f0 f1 f2
  obtain ⟨y0, g0⟩ := some_of hn' (by decide) f0
  obtain ⟨y1, g1⟩ := some_of hn' (by decide) f1
  obtain ⟨y2, g2⟩ := some_of hn' (by decide) f2
  obtain ⟨b, e0, -, w0⟩ := DataW.trod_string Try.underlying9 g0
  obtain ⟨s, e1, -, w1⟩ := DataW.trod_int Try.underlying3 g1
  obtain ⟨a, c, ws, e2, h2⟩ := in_pwants g2
  simp only [List.cons.injEq, and_true] at e0 e1
  subst e0 e1 e2
  exact ⟨b, s, a, c, ws, rfl, w0, h2⟩

/-- A list of places that came in: it is empty, or lies in a block of old memory. -/
theorem read_places (hx : DataW.trod enc Try.prog Z base spare held fuel 77 cs = some x) :
    (∃ (a : Option Addr) (cap : Nat), cs = [.slice a 0 cap]) ∨
    ∃ (b off cap : Nat) (rs : List PlaceD), cs = [.slice (some ⟨b, off, none⟩) rs.length cap] ∧ 0 < rs.length ∧ rs.length ≤ maxLen ∧ b < Z.heap.size ∧ RowsAt Z b off rs ∧ ∀ r ∈ rs, r.inn Z := by
  rcases DataW.trod_slice Try.underlying77 hx with ⟨hcs, -⟩ | ⟨a, len, cap, elems, rest, n, -, hcs, -, hb, hlc, hcm, hel, hat, -⟩
  · exact Or.inl ⟨none, 0, hcs⟩
  by_cases h0 : len = 0
  · subst h0; exact Or.inl ⟨some a, cap, hcs⟩
  refine Or.inr ?_
  rw [cells_place] at hat
  have hall : ∀ i, i < len → ∃ r : PlaceD, Z.cells? base (a.add (i * 3)) 3 = some r.cells ∧ r.inn Z := by
    intro i hi
    have h1 := hat i hi
    rw [List.getElem?_eq_getElem (by omega)] at h1
    obtain ⟨wz, hw, ht⟩ := Option.bind_eq_some_iff.1 h1
    obtain ⟨b', s', a', c', ws', rfl, w0, w1⟩ := read_place ht
    exact ⟨⟨b', s', a', c', ws'⟩, hw, w0, w1⟩
  obtain ⟨rs, hlen, hrs⟩ := W.exists_list _ len hall
  have hcell : ∀ i r, rs[i]? = some r → ∀ j v, r.cells[j]? = some v → Z.cell? ((a.add (i * 3)).add j) = some v := by
    intro i r hr j v hj
    obtain ⟨hw, -⟩ := hrs i r hr
    have hlt : j < 3 := by
      rcases Nat.lt_or_ge j 3 with h' | h'
      · exact h'
      · rw [List.getElem?_eq_none (by simpa [PlaceD.cells] using h')] at hj; cases hj
    have h2 := (World.cells?_some hw).2.2 j hlt
    rw [h2, hj]
  obtain ⟨r0, hr0⟩ : ∃ r, rs[0]? = some r := ⟨rs[0]'(by omega), List.getElem?_eq_getElem (by omega)⟩
  have hc0 := hcell 0 r0 hr0 0 (.string r0.b) rfl
  obtain ⟨b, off, spot⟩ := a
  have hspot : spot = none := by
    have := World.cell?_spot hc0
    simpa [Addr.add] using this
  subst hspot
  have hblk : b < Z.heap.size := World.cells?_block (hrs 0 r0 hr0).1 (by omega)
  refine ⟨b, off, cap, rs, by rw [hlen]; exact hcs, by omega, by omega, hblk, fun i r hr j v hj => ?_, fun r hr => ?_⟩
  · have := hcell i r hr j v hj
    rw [Addr.add_mid, Addr.add_mid] at this
    exact this
  · obtain ⟨i, hi⟩ := List.getElem?_of_mem hr
    exact (hrs i r hi).2
end
end Go.Proofs.Ytkebokkckmgloaa.P
/- Lists of grants in memory. -/
namespace Go.Proofs.Ytkebokkckmgloaa.G
open Go.RowKit
set_option linter.unusedVariables false

theorem szGrant_yes (h b c : ByteArray) (t u left : Int) (h0 : 0 ≤ left) (h1 : left ≤ 1048576) (k : (h.size : Int) + b.size + c.size ≤ left) (w : World) :
    Calls Try.prog 153 #[.agg #[.string h, .string b, .string c, .int .i64 t, .int .i64 u], .int .i64 left] w fun e w' => e = .returned (.int .i64 (left - h.size - b.size - c.size)) ∧ Below w.heap.size w w' := by
  go_enter Try.func153, Try.ntmps153
  go_wp2
  go_ret
  exact ⟨rfl, (Below.refl _ _).alloc (Nat.le_refl _) _⟩
theorem szGrant_no (h b c : ByteArray) (t u left : Int) (h0 : 0 ≤ left) (h1 : left ≤ 1048576) (hh : h.size ≤ maxLen) (hb : b.size ≤ maxLen) (hc : c.size ≤ maxLen) (k : ¬ (h.size : Int) + b.size + c.size ≤ left) (w : World) :
    Calls Try.prog 153 #[.agg #[.string h, .string b, .string c, .int .i64 t, .int .i64 u], .int .i64 left] w fun e w' => e = .returned (.int .i64 (-1)) ∧ Below w.heap.size w w' := by
  unfold maxLen at hc hh hb
  by_cases k1 : (h.size : Int) ≤ left
  · by_cases k2 : (h.size : Int) + b.size ≤ left
    · go_enter Try.func153, Try.ntmps153
      go_wp2
      go_ret
      exact ⟨rfl, (Below.refl _ _).alloc (Nat.le_refl _) _⟩
    · go_enter Try.func153, Try.ntmps153
      go_wp2
      go_ret
      exact ⟨rfl, (Below.refl _ _).alloc (Nat.le_refl _) _⟩
  · go_enter Try.func153, Try.ntmps153
    go_wp2
    go_ret
    exact ⟨rfl, (Below.refl _ _).alloc (Nat.le_refl _) _⟩
theorem toGrant_b (h b c : ByteArray) (t u : Int) (w : World) :
    Calls Try.prog 155 #[.agg #[.string h, .string b, .string c, .int .i64 t, .int .i64 u]] w fun e w' => e = .returned (.agg #[.string h, .string b, .string c, .int .i64 t, .int .i64 u]) ∧ Below w.heap.size w w' := by
  go_enter Try.func155, Try.ntmps155
  go_wp2
  exact bodyPost_ret (v := .agg #[.string h, .string b, .string c, .int .i64 t, .int .i64 u]) (by simp [results, Try.results155, go_sem]) rfl ⟨rfl, by repeat (first | exact Below.refl _ _ | refine bl_alloc ?_ _)⟩

structure GrantD where
  h : ByteArray
  b : ByteArray
  c : ByteArray
  t : Int
  u : Int
def GrantD.cells (r : GrantD) : List Value := [.string r.h, .string r.b, .string r.c, .int .i64 r.t, .int .i64 r.u]
/-- What a run's parts may be. -/
def GrantD.fits (r : GrantD) : Prop := r.h.size ≤ maxLen ∧ r.b.size ≤ maxLen ∧ r.c.size ≤ maxLen
/-- The grants rs lie in block b from off on. -/
def RowsAt (w : World) (b off : Nat) (rs : List GrantD) : Prop := ∀ k r, rs[k]? = some r → w.rangeAt b (off + k * 5) r.cells

theorem RowsAt.keep {w w' : World} {b off : Nat} {rs : List GrantD} (h : RowsAt w b off rs) (hb : b < w.heap.size) (hB : Below w.heap.size w w') : RowsAt w' b off rs :=
  fun k r hk j v hj => (hB.cell (p := ⟨b, off + k * 5 + j, none⟩) hb).trans (h k r hk j v hj)
theorem RowsAt.at {w : World} {b off : Nat} {rs : List GrantD} (h : RowsAt w b off rs) {k : Nat} {r : GrantD} (hk : rs[k]? = some r) :
    w.cell? ⟨b, off + k * 5, none⟩ = some (.string r.h) ∧ w.cell? ⟨b, off + k * 5 + 1, none⟩ = some (.string r.b) ∧ w.cell? ⟨b, off + k * 5 + 2, none⟩ = some (.string r.c) ∧ w.cell? ⟨b, off + k * 5 + 3, none⟩ = some (.int .i64 r.t) ∧ w.cell? ⟨b, off + k * 5 + 4, none⟩ = some (.int .i64 r.u) :=
  ⟨h k r hk 0 _ rfl, h k r hk 1 _ rfl, h k r hk 2 _ rfl, h k r hk 3 _ rfl, h k r hk 4 _ rfl⟩

set_option maxHeartbeats 1000000 in
theorem szGrantS (b off cap : Nat) (rs : List GrantD) (left : Int) (w : World) (hR : RowsAt w b off rs) (hb : b < w.heap.size) (hf : ∀ r ∈ rs, r.fits) (h0 : 0 ≤ left) (h1 : left ≤ 1048576) (hl : rs.length ≤ maxLen) :
    Calls Try.prog 108 #[.slice (some ⟨b, off, none⟩) rs.length cap, .int .i64 left] w fun e w' => (e = .returned (.int .i64 (-1)) ∨ ∃ m : Int, e = .returned (.int .i64 m) ∧ 0 ≤ m ∧ (rs.length : Int) ≤ left) ∧ Below w.heap.size w w' := by
  unfold maxLen at hl
  by_cases hn : (rs.length : Int) ≤ left
  · go_enter Try.func108, Try.ntmps108
    go_wp2
    go_loopw [1, 5] (fun l i wx => ∃ (k : Nat) (lv : Int), k ≤ rs.length ∧ i = .int .i64 k ∧ l = .int .i64 lv ∧ 0 ≤ lv ∧ lv ≤ 1048576 ∧ Below w.heap.size w wx) (fun _ i _ => rs.length - (intOf i).toNat)
    case atStart => exact ⟨0, _, Nat.zero_le _, rfl, rfl, by omega, by omega, Below.refl _ _⟩
    case round =>
      obtain ⟨k, lv, hk, rfl, rfl, l0, l1, hB⟩ := hrel
      by_cases hlt : k < rs.length
      · obtain ⟨r, hr⟩ : ∃ r, rs[k]? = some r := ⟨rs[k], List.getElem?_eq_getElem hlt⟩
        obtain ⟨c0, c1, c2, c3, c4⟩ := (hR.keep hb hB).at hr
        have hfr : r.fits := hf r (List.mem_of_getElem? hr)
        clear hr
        by_cases hsz : (r.h.size : Int) + r.b.size + r.c.size ≤ lv
        · go_wp2_with fail
          refine (szGrant_yes r.h r.b r.c r.t r.u lv l0 l1 hsz _).mono ?_
          rintro e w1 ⟨rfl, hb1⟩
          go_wp2
          exact ⟨⟨k + 1, _, by omega, by go_num, rfl, by omega, by omega, bl_trans hB hb1⟩, by simp [intOf]; omega⟩
        · go_wp2_with fail
          refine (szGrant_no r.h r.b r.c r.t r.u lv l0 l1 hfr.1 hfr.2.1 hfr.2.2 (by omega) _).mono ?_
          rintro e w1 ⟨rfl, hb1⟩
          go_wp2
          go_ret
          exact ⟨Or.inl rfl, bl_trans hB hb1⟩
      · go_wp2
        go_ret
        exact ⟨Or.inr ⟨_, rfl, l0, hn⟩, hB⟩
  · go_enter Try.func108, Try.ntmps108
    go_wp2
    go_ret
    exact ⟨Or.inl rfl, Below.refl _ _⟩
end Go.Proofs.Ytkebokkckmgloaa.G
/- What the reading of a grant says of the cells. -/
namespace Go.Proofs.Ytkebokkckmgloaa
open Go.ChangeShapes Go.WideShapes Go.ChangeAt Go.RowKit

theorem cells_grant : Try.prog.cellsOf 171 = 5 := by kernel_rfl
theorem list5 {α : Type} {l : List α} (h : l.length = 5) : ∃ a b c d e, l = [a, b, c, d, e] := by
  match l, h with
  | [a, b, c, d, e], _ => exact ⟨a, b, c, d, e, rfl⟩

section
variable {H : Type} {enc : TypeId × Value → H} {W : World} {base : Nat} {spare : Nat → Bool} {held : Bool} {fuel : Nat} {cs : List Value} {x : DataW H × List MemPlace}
theorem read_grant (hx : DataW.trod enc Try.prog W base spare held fuel 171 cs = some x) :
    ∃ (h b c : ByteArray) (t u : Int), cs = [.string h, .string b, .string c, .int .i64 t, .int .i64 u] ∧ h.size ≤ maxLen ∧ b.size ≤ maxLen ∧ c.size ≤ maxLen := by
  obtain ⟨xs, n, rfl, -, hl, hn, hf⟩ := DataW.trod_struct Try.underlying171 hx
  rw [cells_grant] at hl
  obtain ⟨c0, c1, c2, c3, c4, rfl⟩ := list5 hl
  have hn' : xs.length = 5 := hn
  have f0 : DataW.trod enc Try.prog W base spare held n 9 (List.take (Try.prog.cellsOf 9) [c0, c1, c2, c3, c4]) = xs[0]? := hf 0 _ rfl
  have f1 : DataW.trod enc Try.prog W base spare held n 9 (List.take (Try.prog.cellsOf 9) [c1, c2, c3, c4]) = xs[1]? := hf 1 _ rfl
  have f2 : DataW.trod enc Try.prog W base spare held n 9 (List.take (Try.prog.cellsOf 9) [c2, c3, c4]) = xs[2]? := hf 2 _ rfl
  have f3 : DataW.trod enc Try.prog W base spare held n 3 (List.take (Try.prog.cellsOf 3) [c3, c4]) = xs[3]? := hf 3 _ rfl
  have f4 : DataW.trod enc Try.prog W base spare held n 3 (List.take (Try.prog.cellsOf 3) [c4]) = xs[4]? := hf 4 _ rfl
  simp only [cells_int, cells_string, List.take_succ_cons, List.take_zero] at f0 f1 f2 f3 f4
  obtain ⟨y0, g0⟩ := some_of hn' (by decide) f0
  obtain ⟨y1, g1⟩ := some_of hn' (by decide) f1
  obtain ⟨y2, g2⟩ := some_of hn' (by decide) f2
  obtain ⟨y3, g3⟩ := some_of hn' (by decide) f3
  obtain ⟨y4, g4⟩ := some_of hn' (by decide) f4
  obtain ⟨h, e0, -, w0⟩ := DataW.trod_string Try.underlying9 g0
  obtain ⟨b, e1, -, w1⟩ := DataW.trod_string Try.underlying9 g1
  obtain ⟨c, e2, -, w2⟩ := DataW.trod_string Try.underlying9 g2
  obtain ⟨t, e3, -, w3⟩ := DataW.trod_int Try.underlying3 g3
  obtain ⟨u, e4, -, w4⟩ := DataW.trod_int Try.underlying3 g4
  simp only [List.cons.injEq, and_true] at e0 e1 e2 e3 e4
  subst e0 e1 e2 e3 e4
  exact ⟨h, b, c, t, u, rfl, w0, w1, w2⟩
end
end Go.Proofs.Ytkebokkckmgloaa
/- What the reading of a list of grants says of memory. -/
namespace Go.Proofs.Ytkebokkckmgloaa.G
open Go.ChangeShapes Go.WideShapes Go.ChangeAt Go.RowKit

theorem exists_list {α : Type} (P : Nat → α → Prop) : ∀ (n : Nat), (∀ i, i < n → ∃ r, P i r) → ∃ rs : List α, rs.length = n ∧ ∀ i r, rs[i]? = some r → P i r
  | 0, _ => ⟨[], rfl, fun i r h => by simp at h⟩
  | n + 1, h => by
    obtain ⟨rs, hl, hr⟩ := exists_list P n (fun i hi => h i (by omega))
    obtain ⟨r, hp⟩ := h n (by omega)
    refine ⟨rs ++ [r], by simp [hl], fun i q hq => ?_⟩
    rcases Nat.lt_or_ge i n with hi | hi
    · rw [List.getElem?_append_left (by omega)] at hq; exact hr i q hq
    · rw [List.getElem?_append_right (by omega)] at hq
      by_cases e : i = n
      · subst e; simp [hl] at hq; subst hq; exact hp
      · rw [List.getElem?_eq_none (by simp; omega)] at hq; cases hq

section
variable {H : Type} {enc : TypeId × Value → H} {W : World} {base : Nat} {spare : Nat → Bool} {held : Bool} {fuel : Nat} {cs : List Value} {x : DataW H × List MemPlace}

/-- A list of grants that came in: it is empty, or lies in a block of old memory. -/
theorem read_grants (hx : DataW.trod enc Try.prog W base spare held fuel 76 cs = some x) :
    (∃ (a : Option Addr) (cap : Nat), cs = [.slice a 0 cap]) ∨
    ∃ (b off cap : Nat) (rs : List GrantD), cs = [.slice (some ⟨b, off, none⟩) rs.length cap] ∧ 0 < rs.length ∧ rs.length ≤ maxLen ∧ b < W.heap.size ∧ RowsAt W b off rs ∧ ∀ r ∈ rs, r.fits := by
  rcases DataW.trod_slice Try.underlying76 hx with ⟨hcs, -⟩ | ⟨a, len, cap, elems, rest, n, -, hcs, -, hb, hlc, hcm, hel, hat, -⟩
  · exact Or.inl ⟨none, 0, hcs⟩
  by_cases h0 : len = 0
  · subst h0; exact Or.inl ⟨some a, cap, hcs⟩
  refine Or.inr ?_
  rw [cells_grant] at hat
  have hall : ∀ i, i < len → ∃ r : GrantD, W.cells? base (a.add (i * 5)) 5 = some r.cells ∧ r.fits := by
    intro i hi
    have h1 := hat i hi
    rw [List.getElem?_eq_getElem (by omega)] at h1
    obtain ⟨ws, hw, ht⟩ := Option.bind_eq_some_iff.1 h1
    obtain ⟨h, b', c, t, u, rfl, w0, w1, w2⟩ := read_grant ht
    exact ⟨⟨h, b', c, t, u⟩, hw, w0, w1, w2⟩
  obtain ⟨rs, hlen, hrs⟩ := exists_list _ len hall
  have hcell : ∀ i r, rs[i]? = some r → ∀ j v, r.cells[j]? = some v → W.cell? ((a.add (i * 5)).add j) = some v := by
    intro i r hr j v hj
    obtain ⟨hw, -⟩ := hrs i r hr
    have hlt : j < 5 := by
      rcases Nat.lt_or_ge j 5 with h' | h'
      · exact h'
      · rw [List.getElem?_eq_none (by simpa [GrantD.cells] using h')] at hj; cases hj
    have h2 := (World.cells?_some hw).2.2 j hlt
    rw [h2, hj]
  obtain ⟨r0, hr0⟩ : ∃ r, rs[0]? = some r := ⟨rs[0]'(by omega), List.getElem?_eq_getElem (by omega)⟩
  have hc0 := hcell 0 r0 hr0 0 (.string r0.h) rfl
  obtain ⟨b, off, spot⟩ := a
  have hspot : spot = none := by
    have := World.cell?_spot hc0
    simpa [Addr.add] using this
  subst hspot
  have hblk : b < W.heap.size := World.cells?_block (hrs 0 r0 hr0).1 (by omega)
  refine ⟨b, off, cap, rs, by rw [hlen]; exact hcs, by omega, by omega, hblk, fun i r hr j v hj => ?_, fun r hr => ?_⟩
  · have := hcell i r hr j v hj
    rw [Addr.add_mid, Addr.add_mid] at this
    exact this
  · obtain ⟨i, hi⟩ := List.getElem?_of_mem hr
    exact (hrs i r hi).2
end
end Go.Proofs.Ytkebokkckmgloaa.G
/- A list of grants is copied. -/
namespace Go.Proofs.Ytkebokkckmgloaa.G
open Go.RowKit
set_option linter.unusedVariables false

theorem make_grants (n : Nat) (hn : n ≤ 1048576) : ∃ C : Array Value, C.size = n * 5 ∧ ∀ w : World, Sem.run Try.prog (Instr.makeSlice 82 (.int .i64 (n : Int)) (.int .i64 (n : Int))) w = .ok (.slice (some ⟨w.heap.size, 0, none⟩) n n) (w.alloc (.cells C 137)) := by
  have hq : (Try.prog.info? 137).map (fun i => (i.size, i.bytes, i.zero)) = some (5, 64, some (.agg #[.string ⟨#[]⟩, .string ⟨#[]⟩, .string ⟨#[]⟩, .int .i64 0, .int .i64 0])) := by kernel_rfl
  cases hi : Try.prog.info? 137 with
  | none => rw [hi] at hq; simp at hq
  | some i =>
    rw [hi] at hq
    simp only [Option.map_some, Option.some.injEq, Prod.mk.injEq] at hq
    obtain ⟨h1, h2, h3⟩ := hq
    refine ⟨madeCells (Value.cells (.agg #[.string ⟨#[]⟩, .string ⟨#[]⟩, .string ⟨#[]⟩, .int .i64 0, .int .i64 0])) (n * i.size), (size_madeCells _ _).trans (by rw [h1]), fun w => ?_⟩
    have := run_make (P := Try.prog) w 82 137 i _ Try.underlying82 hi h3 .i64 .i64 n n (by omega) (by omega) (by rw [h2]; omega) (by omega)
    simpa using this

theorem bl_cells {A : World} {k : Nat} (hk : A.heap.size ≤ k) : ∀ (vs : List Value) (o : Nat) (w' : World), Below A.heap.size A w' → Below A.heap.size A (w'.setCells k o vs)
  | [], _, _, h => h
  | v :: r, o, w', h => bl_cells hk r (o + 1) _ (bl_set h (by exact hk) v)
theorem size_cells {k : Nat} : ∀ (vs : List Value) (o : Nat) (w' : World), (w'.setCells k o vs).heap.size = w'.heap.size
  | [], _, _ => rfl
  | v :: r, o, w' => (size_cells r (o + 1) _).trans (by simp [World.setCell])
theorem there_keep {x y : World} {k o n : Nat} (h : x.there k o n) (hk : k < x.heap.size) (hb : Below x.heap.size x y) : y.there k o n :=
  fun j hj => ⟨by rw [hb.cell (p := ⟨k, o + j, none⟩) hk]; exact (h j hj).1, by rw [hb.frozen (p := ⟨k, o + j, none⟩) hk]; exact (h j hj).2⟩
theorem there_part {x : World} {g n k : Nat} (h : x.there g 0 (n * 5)) (hk : k < n) : x.there g (k * 5) 5 :=
  fun j hj => by have := h (k * 5 + j) (by omega); simpa using this
theorem there_new {w : World} {C : Array Value} {t : TypeId} {n : Nat} (hC : C.size = n * 5) : (w.alloc (.cells C t)).there w.heap.size 0 (n * 5) :=
  fun j hj => ⟨by simp [go_sem]; omega, by simp [go_sem]⟩
theorem rows_step {x : World} {g k : Nat} {rs : List GrantD} {r : GrantD} (hr : rs[k]? = some r) (h : RowsAt x g 0 (rs.take k)) (ht : x.there g (k * 5) 5) : RowsAt (x.setCells g (k * 5) r.cells) g 0 (rs.take (k + 1)) := by
  intro j q hj
  rw [List.getElem?_take] at hj
  split at hj
  case isFalse => cases hj
  rename_i hlt
  by_cases e : j = k
  · subst e
    rw [hr] at hj
    cases hj
    have := World.rangeAt_setCells_same x g (j * 5) r.cells ht
    simpa using this
  · have hj' : (rs.take k)[j]? = some q := by rw [List.getElem?_take, if_pos (by omega)]; exact hj
    exact World.rangeAt_setCells_apart (h j q hj') g (k * 5) r.cells (Or.inr (Or.inl (by show 0 + j * 5 + 5 ≤ k * 5; omega)))

set_option maxHeartbeats 1000000 in
theorem toGrantS (b off cap : Nat) (rs : List GrantD) (w : World) (hR : RowsAt w b off rs) (hb : b < w.heap.size) (hl : rs.length ≤ 1048576) :
    Calls Try.prog 112 #[.slice (some ⟨b, off, none⟩) rs.length cap] w fun e w' => e = .returned (.slice (some ⟨w.heap.size, 0, none⟩) rs.length rs.length) ∧ RowsAt w' w.heap.size 0 rs ∧ w'.there w.heap.size 0 (rs.length * 5) ∧ w.heap.size < w'.heap.size ∧ Below w.heap.size w w' := by
  obtain ⟨C, hC, hmk⟩ := make_grants rs.length hl
  have hinfo : (Try.prog.info? 137).map (·.size) = some 5 := by kernel_rfl
  go_enter Try.func112, Try.ntmps112
  go_wp2
  go_loopw [4] (fun i wx => ∃ (k : Nat), k ≤ rs.length ∧ i = .int .i64 k ∧ RowsAt wx w.heap.size 0 (rs.take k) ∧ wx.there w.heap.size 0 (rs.length * 5) ∧ w.heap.size < wx.heap.size ∧ Below w.heap.size w wx) (fun i _ => rs.length - (intOf i).toNat)
  case atStart => exact ⟨0, Nat.zero_le _, rfl, fun k r h => by simp at h, there_new hC, by simp, bl_alloc (Below.refl _ _) _⟩
  case round =>
    obtain ⟨k, hk, rfl, hrows, hth, hgz, hB⟩ := hrel
    clear hmk
    by_cases hlt : k < rs.length
    · obtain ⟨r, hr⟩ : ∃ r, rs[k]? = some r := ⟨rs[k], List.getElem?_eq_getElem hlt⟩
      obtain ⟨c0, c1, c2, c3, c4⟩ := (hR.keep hb hB).at hr
      have Hr : Hid _ := hr
      clear hr
      go_wp2_with fail
      refine (toGrant_b r.h r.b r.c r.t r.u _).mono ?_
      rintro e w1 ⟨rfl, hb1⟩
      clear c0 c1 c2 c3 c4
      have hth1 := there_keep hth hgz hb1
      have hrows1 := hrows.keep hgz hb1
      have hB1 := bl_trans hB hb1
      have hgz1 : w.heap.size < w1.heap.size := Nat.lt_of_lt_of_le hgz hb1.size
      clear hth hrows hB hb1
      go_wp2_with (refine wpList_store_mid (by rfl) 137 _ _ (by rfl) w.heap.size (k * 5) #[.string r.h, .string r.b, .string r.c, .int .i64 r.t, .int .i64 r.u] (by rfl) (by rfl) (by exact there_part hth1 hlt) hinfo (by simp [Value.oneCell']) ?_)
      exact ⟨⟨k + 1, by omega, by go_num, rows_step Hr.out hrows1 (there_part hth1 hlt), World.there_setCells hth1 _ _ _, by rw [size_cells]; exact hgz1, bl_cells (Nat.le_refl _) _ _ _ hB1⟩, by simp [intOf]; omega⟩
    · go_wp2
      go_ret
      have e : rs.take k = rs := List.take_of_length_le (by omega)
      rw [e] at hrows
      exact ⟨rfl, hrows, hth, hgz, hB⟩
end Go.Proofs.Ytkebokkckmgloaa.G
/- Sizes of lists, and what is left. -/
namespace Go.Proofs.Ytkebokkckmgloaa.G
open Go.RowKit
set_option linter.unusedVariables false

set_option maxHeartbeats 1000000 in
theorem szGrantS_m (b off cap : Nat) (rs : List GrantD) (left : Int) (w : World) (hR : RowsAt w b off rs) (hb : b < w.heap.size) (hf : ∀ r ∈ rs, r.fits) (h0 : 0 ≤ left) (h1 : left ≤ 1048576) (hl : rs.length ≤ maxLen) :
    Calls Try.prog 108 #[.slice (some ⟨b, off, none⟩) rs.length cap, .int .i64 left] w fun e w' => (e = .returned (.int .i64 (-1)) ∨ ∃ m : Int, e = .returned (.int .i64 m) ∧ 0 ≤ m ∧ m ≤ 1048576 ∧ (rs.length : Int) ≤ left) ∧ Below w.heap.size w w' := by
  unfold maxLen at hl
  by_cases hn : (rs.length : Int) ≤ left
  · go_enter Try.func108, Try.ntmps108
    go_wp2
    go_loopw [1, 5] (fun l i wx => ∃ (k : Nat) (lv : Int), k ≤ rs.length ∧ i = .int .i64 k ∧ l = .int .i64 lv ∧ 0 ≤ lv ∧ lv ≤ 1048576 ∧ Below w.heap.size w wx) (fun _ i _ => rs.length - (intOf i).toNat)
    case atStart => exact ⟨0, _, Nat.zero_le _, rfl, rfl, by omega, by omega, Below.refl _ _⟩
    case round =>
      obtain ⟨k, lv, hk, rfl, rfl, l0, l1, hB⟩ := hrel
      by_cases hlt : k < rs.length
      · obtain ⟨r, hr⟩ : ∃ r, rs[k]? = some r := ⟨rs[k], List.getElem?_eq_getElem hlt⟩
        obtain ⟨c0, c1, c2, c3, c4⟩ := (hR.keep hb hB).at hr
        have hfr : r.fits := hf r (List.mem_of_getElem? hr)
        clear hr
        by_cases hsz : (r.h.size : Int) + r.b.size + r.c.size ≤ lv
        · go_wp2_with fail
          refine (szGrant_yes r.h r.b r.c r.t r.u lv l0 l1 hsz _).mono ?_
          rintro e w1 ⟨rfl, hb1⟩
          go_wp2
          exact ⟨⟨k + 1, _, by omega, by go_num, rfl, by omega, by omega, bl_trans hB hb1⟩, by simp [intOf]; omega⟩
        · go_wp2_with fail
          refine (szGrant_no r.h r.b r.c r.t r.u lv l0 l1 hfr.1 hfr.2.1 hfr.2.2 (by omega) _).mono ?_
          rintro e w1 ⟨rfl, hb1⟩
          go_wp2
          go_ret
          exact ⟨Or.inl rfl, bl_trans hB hb1⟩
      · go_wp2
        go_ret
        exact ⟨Or.inr ⟨_, rfl, l0, l1, hn⟩, hB⟩
  · go_enter Try.func108, Try.ntmps108
    go_wp2
    go_ret
    exact ⟨Or.inl rfl, Below.refl _ _⟩
theorem sz_nil (a : Option Addr) (cap : Nat) (left : Int) (w : World) (h0 : 0 ≤ left) (h1 : left ≤ 1048576) :
    Calls Try.prog 108 #[.slice a 0 cap, .int .i64 left] w fun e w' => e = .returned (.int .i64 left) ∧ w' = w := by
  go_enter Try.func108, Try.ntmps108
  go_wp2
  refine wp_loop_rounds 1 ?_
  rw [rounds_succ]
  go_wp2
  go_ret
  exact ⟨rfl, rfl⟩
theorem to_nil (a : Option Addr) (cap : Nat) (w : World) :
    Calls Try.prog 112 #[.slice a 0 cap] w fun e w' => e = .returned (.slice (some ⟨w.heap.size, 0, none⟩) 0 0) ∧ w.heap.size < w'.heap.size ∧ Below w.heap.size w w' := by
  obtain ⟨C, hC, hmk0⟩ := make_grants 0 (by omega)
  have hmk : ∀ w : World, Sem.run Try.prog (Instr.makeSlice 82 (.int .i64 0) (.int .i64 0)) w = .ok (.slice (some ⟨w.heap.size, 0, none⟩) 0 0) (w.alloc (.cells C 137)) := fun w => hmk0 w
  clear hmk0 hC
  go_enter Try.func112, Try.ntmps112
  go_wp2
  refine wp_loop_rounds 1 ?_
  rw [rounds_succ]
  go_wp2
  go_ret
  exact ⟨rfl, by simp, bl_alloc (Below.refl _ _) _⟩
/-- A list that came in. -/
def In (w : World) (v : Value) (l : List GrantD) : Prop := (l = [] ∧ ∃ a cap, v = .slice a 0 cap) ∨ ∃ b off cap, v = .slice (some ⟨b, off, none⟩) l.length cap ∧ l.length ≤ maxLen ∧ b < w.heap.size ∧ RowsAt w b off l ∧ ∀ r ∈ l, r.fits
theorem In.keep {w w' : World} {v : Value} {l : List GrantD} (h : In w v l) (hb : Below w.heap.size w w') : In w' v l := by
  rcases h with h | ⟨b, off, cap, h1, h2, h3, h4, h5⟩
  · exact Or.inl h
  · exact Or.inr ⟨b, off, cap, h1, h2, Nat.lt_of_lt_of_le h3 hb.size, h4.keep h3 hb, h5⟩
theorem In.fits {w : World} {v : Value} {l : List GrantD} (h : In w v l) : ∀ r ∈ l, r.fits := by
  rcases h with ⟨rfl, -⟩ | ⟨b, off, cap, h1, h2, h3, h4, h5⟩
  · intro r hr; cases hr
  · exact h5
theorem sz_in {w : World} {v : Value} {l : List GrantD} (h : In w v l) (left : Int) (h0 : 0 ≤ left) (h1 : left ≤ 1048576) :
    Calls Try.prog 108 #[v, .int .i64 left] w fun e w' => (e = .returned (.int .i64 (-1)) ∨ ∃ m : Int, e = .returned (.int .i64 m) ∧ 0 ≤ m ∧ m ≤ 1048576 ∧ l.length ≤ 1048576) ∧ Below w.heap.size w w' := by
  rcases h with ⟨rfl, a, cap, rfl⟩ | ⟨b, off, cap, rfl, k2, k3, k4, k5⟩
  · refine (sz_nil a cap left w h0 h1).mono ?_
    rintro e w' ⟨rfl, rfl⟩
    exact ⟨Or.inr ⟨left, rfl, h0, h1, by simp⟩, Below.refl _ _⟩
  · refine (szGrantS_m b off cap l left w k4 k3 k5 h0 h1 k2).mono ?_
    rintro e w' ⟨rfl | ⟨m, rfl, m0, m1, hn⟩, hb⟩
    · exact ⟨Or.inl rfl, hb⟩
    · exact ⟨Or.inr ⟨m, rfl, m0, m1, by omega⟩, hb⟩
theorem to_in {w : World} {v : Value} {l : List GrantD} (h : In w v l) (hl : l.length ≤ 1048576) :
    Calls Try.prog 112 #[v] w fun e w' => e = .returned (.slice (some ⟨w.heap.size, 0, none⟩) l.length l.length) ∧ RowsAt w' w.heap.size 0 l ∧ w.heap.size < w'.heap.size ∧ Below w.heap.size w w' := by
  rcases h with ⟨rfl, a, cap, rfl⟩ | ⟨b, off, cap, rfl, k2, k3, k4, k5⟩
  · refine (to_nil a cap w).mono ?_
    rintro e w' ⟨rfl, h1, h2⟩
    exact ⟨rfl, fun k r h => by simp at h, h1, h2⟩
  · refine (toGrantS b off cap l w k4 k3 hl).mono ?_
    rintro e w' ⟨rfl, h1, -, h2, h3⟩
    exact ⟨rfl, h1, h2, h3⟩
end Go.Proofs.Ytkebokkckmgloaa.G
/- Two lists of the same grants are told to be equal. -/
namespace Go.Proofs.Ytkebokkckmgloaa.G
open Go.RowKit
set_option linter.unusedVariables false

theorem eqGrant_b (h b c : ByteArray) (t u : Int) (w : World) :
    Calls Try.prog 166 #[.agg #[.string h, .string b, .string c, .int .i64 t, .int .i64 u], .agg #[.string h, .string b, .string c, .int .i64 t, .int .i64 u]] w fun e w' => e = .returned (.bool true) ∧ Below w.heap.size w w' := by
  go_enter Try.func166, Try.ntmps166
  go_wp2
  go_ret
  exact ⟨rfl, bl_alloc (bl_alloc (Below.refl _ _) _) _⟩
theorem keepR {x w' : World} {b1 o1 b2 o2 k : Nat} {rs : List GrantD} {r : GrantD} (hk : rs[k]? = some r) (h1 : RowsAt x b1 o1 rs) (h2 : RowsAt x b2 o2 rs) (l1 : b1 < x.heap.size) (l2 : b2 < x.heap.size) (hb : Below x.heap.size x w') :
    Below x.heap.size x w' ∧ (w'.cell? ⟨b1, o1 + k * 5, none⟩ = some (.string r.h) ∧ w'.cell? ⟨b1, o1 + k * 5 + 1, none⟩ = some (.string r.b) ∧ w'.cell? ⟨b1, o1 + k * 5 + 2, none⟩ = some (.string r.c) ∧ w'.cell? ⟨b1, o1 + k * 5 + 3, none⟩ = some (.int .i64 r.t) ∧ w'.cell? ⟨b1, o1 + k * 5 + 4, none⟩ = some (.int .i64 r.u)) ∧ (w'.cell? ⟨b2, o2 + k * 5, none⟩ = some (.string r.h) ∧ w'.cell? ⟨b2, o2 + k * 5 + 1, none⟩ = some (.string r.b) ∧ w'.cell? ⟨b2, o2 + k * 5 + 2, none⟩ = some (.string r.c) ∧ w'.cell? ⟨b2, o2 + k * 5 + 3, none⟩ = some (.int .i64 r.t) ∧ w'.cell? ⟨b2, o2 + k * 5 + 4, none⟩ = some (.int .i64 r.u)) :=
  ⟨hb, (h1.keep l1 hb).at hk, (h2.keep l2 hb).at hk⟩

set_option maxHeartbeats 1000000 in
theorem eqGrantS (b1 o1 n1 b2 o2 n2 : Nat) (rs : List GrantD) (w : World) (h1 : RowsAt w b1 o1 rs) (h2 : RowsAt w b2 o2 rs) (l1 : b1 < w.heap.size) (l2 : b2 < w.heap.size) (hl : rs.length ≤ 1048576) :
    Calls Try.prog 119 #[.slice (some ⟨b1, o1, none⟩) rs.length n1, .slice (some ⟨b2, o2, none⟩) rs.length n2] w fun e w' => e = .returned (.bool true) ∧ Below w.heap.size w w' := by
  go_enter Try.func119, Try.ntmps119
  go_wp2
  go_loopw [5] (fun i wx => ∃ (k : Nat), k ≤ rs.length ∧ i = .int .i64 k ∧ Below w.heap.size w wx) (fun i _ => rs.length - (intOf i).toNat)
  case atStart => exact ⟨0, Nat.zero_le _, rfl, Below.refl _ _⟩
  case round =>
    obtain ⟨k, hk, rfl, hB⟩ := hrel
    by_cases hlt : k < rs.length
    · obtain ⟨r, hr⟩ : ∃ r, rs[k]? = some r := ⟨rs[k], List.getElem?_eq_getElem hlt⟩
      have Hr : Hid _ := hr
      clear hr
      have g1 := h1.keep l1 hB
      have g2 := h2.keep l2 hB
      have z1 : b1 < wr.heap.size := Nat.lt_of_lt_of_le l1 hB.size
      have z2 : b2 < wr.heap.size := Nat.lt_of_lt_of_le l2 hB.size
      have i0 : (0 : Int) ≤ (k : Int) := by omega
      have i1 : (k : Int) < (rs.length : Int) := by omega
      go_wp2_with fail
      go_region_held3 (fun w' => Below wr.heap.size wr w' ∧ (w'.cell? ⟨b1, o1 + k * 5, none⟩ = some (.string r.h) ∧ w'.cell? ⟨b1, o1 + k * 5 + 1, none⟩ = some (.string r.b) ∧ w'.cell? ⟨b1, o1 + k * 5 + 2, none⟩ = some (.string r.c) ∧ w'.cell? ⟨b1, o1 + k * 5 + 3, none⟩ = some (.int .i64 r.t) ∧ w'.cell? ⟨b1, o1 + k * 5 + 4, none⟩ = some (.int .i64 r.u)) ∧ (w'.cell? ⟨b2, o2 + k * 5, none⟩ = some (.string r.h) ∧ w'.cell? ⟨b2, o2 + k * 5 + 1, none⟩ = some (.string r.b) ∧ w'.cell? ⟨b2, o2 + k * 5 + 2, none⟩ = some (.string r.c) ∧ w'.cell? ⟨b2, o2 + k * 5 + 3, none⟩ = some (.int .i64 r.t) ∧ w'.cell? ⟨b2, o2 + k * 5 + 4, none⟩ = some (.int .i64 r.u)))
        (first | exact keepR Hr.out g1 g2 z1 z2 (bl_drew (Below.refl _ _)) | exact keepR Hr.out g1 g2 z1 z2 (bl_trans (bl_drew (Below.refl _ _)) hb))
        (first | (go_at_call 166; refine (eqGrant_b r.h r.b r.c r.t r.u _).mono ?_; rintro e w' ⟨rfl, hb⟩))
      go_wp2
      exact ⟨⟨k + 1, by omega, by go_num, bl_trans hB (bl_trans (bl_drew (Below.refl _ _)) hb)⟩, by simp [intOf]; omega⟩
    · go_wp2
      go_ret
      exact ⟨rfl, hB⟩
end Go.Proofs.Ytkebokkckmgloaa.G
/- Rows that lie elsewhere stay. -/
namespace Go.Proofs.Ytkebokkckmgloaa.W
theorem RowsAt.exq {kr : Nat} {w w' : World} {b off : Nat} {rs : List WantD} (h : RowsAt w b off rs) (hb : b < w.heap.size) (hE : Ex kr w w') (hne : b ≠ kr) : RowsAt w' b off rs :=
  fun k r hk j v hj => (hE.cell (p := ⟨b, off + k * 7 + j, none⟩) hb hne).trans (h k r hk j v hj)
end Go.Proofs.Ytkebokkckmgloaa.W
namespace Go.Proofs.Ytkebokkckmgloaa.A
theorem RowsAt.exq {kr : Nat} {w w' : World} {b off : Nat} {rs : List AskD} (h : RowsAt w b off rs) (hb : b < w.heap.size) (hE : Ex kr w w') (hne : b ≠ kr) : RowsAt w' b off rs :=
  fun k r hk j v hj => (hE.cell (p := ⟨b, off + k * 4 + j, none⟩) hb hne).trans (h k r hk j v hj)
end Go.Proofs.Ytkebokkckmgloaa.A
namespace Go.Proofs.Ytkebokkckmgloaa
open Go.RowKit
set_option linter.unusedVariables false

theorem RowsAt.exq {kr : Nat} {w w' : World} {b off : Nat} {rs : List RunD} (h : RowsAt w b off rs) (hb : b < w.heap.size) (hE : Ex kr w w') (hne : b ≠ kr) : RowsAt w' b off rs :=
  fun k r hk j v hj => (hE.cell (p := ⟨b, off + k * 11 + j, none⟩) hb hne).trans (h k r hk j v hj)
end Go.Proofs.Ytkebokkckmgloaa
