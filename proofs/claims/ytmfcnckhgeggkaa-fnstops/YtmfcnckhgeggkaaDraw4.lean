/- A want is drawn. -/
import Derived.Test.YtmfcnckhgeggkaaInv
namespace Go.Proofs.Ytmfcnckhgeggkaa
open Go.RowKit
set_option linter.unusedVariables false

/-- A slice of n cells of the call's own, each as P says. -/
def Lst (P : Value → Prop) (B rb m : Nat) (w : World) (v : Value) : Prop := ∃ g, v = .slice (some ⟨g, 0, none⟩) m m ∧ B ≤ g ∧ g ≠ rb ∧ g < w.heap.size ∧ ∀ j, j < m → ∃ u, w.cell? ⟨g, j, none⟩ = some u ∧ P u
def Cell (P : Value → Prop) (B rb : Nat) (w : World) (v : Value) : Prop := ∃ g j u, v = .pointer (some ⟨g, j, none⟩) ∧ B ≤ g ∧ g ≠ rb ∧ g < w.heap.size ∧ w.cell? ⟨g, j, none⟩ = some u ∧ P u
def Num (lo hi : Int) (v : Value) : Prop := ∃ x, v = .int .i64 x ∧ lo ≤ x ∧ x ≤ hi
def Txt (v : Value) : Prop := ∃ s : ByteArray, v = .string s ∧ s.size ≤ 20
theorem Lst.keep {P : Value → Prop} {B rb m kr : Nat} {w w' : World} {v : Value} (h : Lst P B rb m w v) (he : Ex kr w w') (hk : kr < B) : Lst P B rb m w' v := by
  obtain ⟨g, rfl, h1, h2, h3, h4⟩ := h
  exact ⟨g, rfl, h1, h2, Nat.lt_of_lt_of_le h3 he.size, fun j hj => by rw [he.cell (p := ⟨g, j, none⟩) h3 (by show g ≠ kr; omega)]; exact h4 j hj⟩
theorem Cell.keep {P : Value → Prop} {B rb kr : Nat} {w w' : World} {v : Value} (h : Cell P B rb w v) (he : Ex kr w w') (hk : kr < B) : Cell P B rb w' v := by
  obtain ⟨g, j, u, rfl, h1, h2, h3, h4, h5⟩ := h
  exact ⟨g, j, u, rfl, h1, h2, Nat.lt_of_lt_of_le h3 he.size, by rw [he.cell (p := ⟨g, j, none⟩) h3 (by show g ≠ kr; omega)]; exact h4, h5⟩

theorem Rd.below {w w' : World} {kr : Nat} {a : Option Addr} {n cap : Nat} {zs : List Int} {p : Int} (h : Rd w kr a n cap zs p) (hb : Below w.heap.size w w') : Rd w' kr a n cap zs p :=
  ⟨(hb.cell (p := ⟨kr, 0, none⟩) h.lt).trans h.sl, (hb.cell (p := ⟨kr, 1, none⟩) h.lt).trans h.at_, (hb.frozen (p := ⟨kr, 1, none⟩) h.lt).trans h.open_, Nat.lt_of_lt_of_le h.lt hb.size, h.code.keep (Ex.of_below hb), h.p0, h.p1⟩
theorem Rd.other {W w w' : World} {kr rb : Nat} {a : Option Addr} {n cap : Nat} {zs : List Int} {p q : Int} (h0 : Rd W kr a n cap zs q) (h : Rd w kr a n cap zs p) (he : Ex rb w w') (hk : kr ≠ rb) (hW : Ex kr W w') : Rd w' kr a n cap zs p :=
  ⟨(he.cell (p := ⟨kr, 0, none⟩) h.lt hk).trans h.sl, (he.cell (p := ⟨kr, 1, none⟩) h.lt hk).trans h.at_, (he.frozen (p := ⟨kr, 1, none⟩) h.lt hk).trans h.open_, Nat.lt_of_lt_of_le h.lt he.size, h0.code.keep hW, h.p0, h.p1⟩
theorem Ex.other {kr rb : Nat} {W w w' : World} (h : Ex kr W w) (he : Ex rb w w') (hrb : W.heap.size ≤ rb) : Ex kr W w' :=
  ⟨he.os.trans h.os, he.tape.trans h.tape, he.output.trans h.output, Nat.le_trans h.size he.size, fun k hk hne => (he.block k (Nat.lt_of_lt_of_le hk h.size) (by omega)).trans (h.block k hk hne)⟩
theorem Lst.res {P : Value → Prop} {B rb m : Nat} {w w' : World} {v : Value} (h : Lst P B rb m w v) (he : Ex rb w w') : Lst P B rb m w' v := by
  obtain ⟨g, rfl, h1, h2, h3, h4⟩ := h
  exact ⟨g, rfl, h1, h2, Nat.lt_of_lt_of_le h3 he.size, fun j hj => by rw [he.cell (p := ⟨g, j, none⟩) h3 h2]; exact h4 j hj⟩
theorem Cell.res {P : Value → Prop} {B rb : Nat} {w w' : World} {v : Value} (h : Cell P B rb w v) (he : Ex rb w w') : Cell P B rb w' v := by
  obtain ⟨g, j, u, rfl, h1, h2, h3, h4, h5⟩ := h
  exact ⟨g, j, u, rfl, h1, h2, Nat.lt_of_lt_of_le h3 he.size, by rw [he.cell (p := ⟨g, j, none⟩) h3 h2]; exact h4, h5⟩

section
variable (kr rb : Nat) (W : World) (c : ByteArray) (a0 : Option Addr) (n cap : Nat) (zs : List Int) (p0 : Int)
/-- What the operation at place i leaves. -/
def Good (w : World) (i : Nat) (v : Value) : Prop :=
  match i with
  | 0 => v = .string c
  | 1 | 5 | 9 | 11 | 14 | 18 => v = .pointer (some ⟨kr, 0, none⟩)
  | 2 | 12 => Num 0 2 v
  | 3 => Num 1 3 v
  | 6 | 10 | 19 => Num 0 3 v
  | 15 => Num 0 5 v
  | 4 => Lst Txt W.heap.size rb 4 w v
  | 7 => Cell Txt W.heap.size rb w v
  | 8 => Txt v
  | 13 => Lst (Num 0 8) W.heap.size rb 6 w v
  | 16 => Cell (Num 0 8) W.heap.size rb w v
  | 17 => Num 0 8 v
  | 20 => ∃ (h : ByteArray) (v1 p s d g : Int), v = .agg #[.string c, .int .i64 v1, .string h, .int .i64 p, .int .i64 s, .int .i64 d, .int .i64 g] ∧ h.size ≤ 20 ∧ (0 ≤ v1 ∧ v1 ≤ 100) ∧ (0 ≤ p ∧ p ≤ 100) ∧ (0 ≤ s ∧ s ≤ 100) ∧ (0 ≤ d ∧ d ≤ 100) ∧ (0 ≤ g ∧ g ≤ 100)
  | _ => True
theorem Good.keep {w w' : World} {i : Nat} {v : Value} (h : Good kr rb W c w i v) (he : Ex kr w w') (hk : kr < W.heap.size) : Good kr rb W c w' i v := by
  by_cases e4 : i = 4
  · subst e4; exact Lst.keep (P := Txt) h he hk
  by_cases e7 : i = 7
  · subst e7; exact Cell.keep (P := Txt) h he hk
  by_cases e13 : i = 13
  · subst e13; exact Lst.keep (P := Num 0 8) h he hk
  by_cases e16 : i = 16
  · subst e16; exact Cell.keep (P := Num 0 8) h he hk
  have e : Good kr rb W c w i v = Good kr rb W c w' i v := by
    unfold Good
    split <;> first | rfl | (exfalso; omega)
  rw [← e]; exact h
theorem Good.res {w w' : World} {i : Nat} {v : Value} (h : Good kr rb W c w i v) (he : Ex rb w w') : Good kr rb W c w' i v := by
  by_cases e4 : i = 4
  · subst e4; exact Lst.res (P := Txt) h he
  by_cases e7 : i = 7
  · subst e7; exact Cell.res (P := Txt) h he
  by_cases e13 : i = 13
  · subst e13; exact Lst.res (P := Num 0 8) h he
  by_cases e16 : i = 16
  · subst e16; exact Cell.res (P := Num 0 8) h he
  have e : Good kr rb W c w i v = Good kr rb W c w' i v := by
    unfold Good
    split <;> first | rfl | (exfalso; omega)
  rw [← e]; exact h
/-- The world while the operations go on. -/
structure Wd (left : Nat) (w : World) : Prop where
  rd : ∃ p, Rd w kr a0 n cap zs p ∧ p + (left : Int) ≤ p0 + 22
  ex : Ex kr W w
  lt : rb < w.heap.size
  th : w.there rb 0 7
/-- What the result's block holds in the end. -/
def Fin (w : World) : Prop := ∃ (h : ByteArray) (v1 p s d g : Int), w.rangeAt rb 0 [.string c, .int .i64 v1, .string h, .int .i64 p, .int .i64 s, .int .i64 d, .int .i64 g] ∧ h.size ≤ 20 ∧ (0 ≤ v1 ∧ v1 ≤ 100) ∧ (0 ≤ p ∧ p ≤ 100) ∧ (0 ≤ s ∧ s ≤ 100) ∧ (0 ≤ d ∧ d ≤ 100) ∧ (0 ≤ g ∧ g ≤ 100)
structure Iw (listed : Array Bool) (a : Act) (w : World) : Prop where
  df : a.defers = []
  sz : a.tmps.size = 26
  s0 : a.tmps.getD 0 undef = .pointer (some ⟨kr, 0, none⟩)
  s1 : a.tmps.getD 1 undef = .string c
  s4 : a.tmps.getD 4 undef = .pointer (some ⟨rb, 0, none⟩)
  good : ∀ i, i < 21 → listed.getD i false = true → Good kr rb W c w i (a.tmps.getD (5 + i) undef)
  wd : Wd kr rb W a0 n cap zs p0 (openOf listed) w
  lz : listed.size = 22
  fin : listed.getD 21 false = true → Fin rb c w

theorem Iw.put {listed : Array Bool} {a : Act} {w w' : World} {i : Nat} {v : Value} (h : Iw kr rb W c a0 n cap zs p0 listed a w) (hi : i < 21) (ho : listed.getD i true = false) (hk : kr < W.heap.size) (hkr : kr ≠ rb)
    (hg : Good kr rb W c w' i v) (he : Ex kr w w') (hr : ∃ p, Rd w' kr a0 n cap zs p ∧ p + (openOf (listed.setIfInBounds i true) : Int) ≤ p0 + 22) :
    Iw kr rb W c a0 n cap zs p0 (listed.setIfInBounds i true) (a.put (some (5 + i)) v) w' := by
  have hsz : i < a.tmps.size := by rw [h.sz]; omega
  refine ⟨h.df, ?_, ?_, ?_, ?_, ?_, ⟨hr, h.wd.ex.trans he, Nat.lt_of_lt_of_le h.wd.lt he.size, there_ex h.wd.th h.wd.lt he (fun e => hkr e.symm)⟩, by simp [h.lz], ?_⟩
  · simp [Act.put, h.sz]
  · have := h.s0; simp only [Act.put, Array.getD_eq_getD_getElem?] at this ⊢; rw [Array.getElem?_setIfInBounds_ne (by omega)]; exact this
  · have := h.s1; simp only [Act.put, Array.getD_eq_getD_getElem?] at this ⊢; rw [Array.getElem?_setIfInBounds_ne (by omega)]; exact this
  · have := h.s4; simp only [Act.put, Array.getD_eq_getD_getElem?] at this ⊢; rw [Array.getElem?_setIfInBounds_ne (by omega)]; exact this
  · intro j hj hl
    by_cases e : j = i
    · subst e
      simp only [Act.put, Array.getD_eq_getD_getElem?]
      rw [Array.getElem?_setIfInBounds_self_of_lt (by rw [h.sz]; omega)]
      exact hg
    · have h1 := h.good j hj (by
        simp only [Array.getD_eq_getD_getElem?] at hl ⊢
        rwa [Array.getElem?_setIfInBounds_ne (fun x => e x.symm)] at hl)
      have h2 := h1.keep kr rb W c he hk
      simp only [Act.put, Array.getD_eq_getD_getElem?] at h2 ⊢
      rw [Array.getElem?_setIfInBounds_ne (by omega)]
      exact h2
  · intro hl
    have h1 := h.fin (by
      simp only [Array.getD_eq_getD_getElem?] at hl ⊢
      rwa [Array.getElem?_setIfInBounds_ne (by omega)] at hl)
    obtain ⟨hh, v1, p, s, d, g, hr, hb⟩ := h1
    exact ⟨hh, v1, p, s, d, g, fun j u hj => (he.cell (p := ⟨rb, 0 + j, none⟩) h.wd.lt (fun e => hkr e.symm)).trans (hr j u hj), hb⟩

theorem Iw.last {listed : Array Bool} {a : Act} {w : World} {u : Value} {vs : List Value} {q : Int} (h : Iw kr rb W c a0 n cap zs p0 listed a w) (ho : listed.getD 21 true = false) (hrb : W.heap.size ≤ rb) (hkr : kr ≠ rb) (h0 : Rd W kr a0 n cap zs q)
    (hf : Fin rb c (w.setCells rb 0 vs)) : Iw kr rb W c a0 n cap zs p0 (listed.setIfInBounds 21 true) (a.put none u) (w.setCells rb 0 vs) := by
  have he : Ex rb w (w.setCells rb 0 vs) := (Ex.refl rb w).cells vs 0
  have hW : Ex kr W (w.setCells rb 0 vs) := h.wd.ex.other he hrb
  obtain ⟨p, hr, hp⟩ := h.wd.rd
  have hop := openOf_set ho
  refine ⟨h.df, h.sz, h.s0, h.s1, h.s4, fun i hi hl => ?_, ⟨⟨p, h0.other hr he hkr hW, by omega⟩, hW, Nat.lt_of_lt_of_le h.wd.lt he.size, World.there_setCells h.wd.th _ _ _⟩, by simp [h.lz], fun _ => hf⟩
  refine Good.res kr rb W c (h.good i hi ?_) he
  simp only [Array.getD_eq_getD_getElem?] at hl ⊢
  rwa [Array.getElem?_setIfInBounds_ne (by omega)] at hl
end
end Go.Proofs.Ytmfcnckhgeggkaa
