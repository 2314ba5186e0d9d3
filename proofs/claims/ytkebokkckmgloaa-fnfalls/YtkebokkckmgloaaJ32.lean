import Derived.Test.YtkebokkckmgloaaJ31
/- A region by an invariant: its frame. -/
namespace Go.Proofs.Ytkebokkckmgloaa
open Go.RowKit
set_option linter.unusedVariables false

theorem rep_false (k i : Nat) : (Array.replicate k false).getD i false = false := by
  simp only [Array.getD_eq_getD_getElem?, Array.getElem?_replicate]
  split <;> rfl
theorem open_rep (k : Nat) : openOf (Array.replicate k false) ≤ k := by
  unfold openOf
  exact Nat.le_trans List.countP_le_length (by simp)
theorem Vr.same {A n : Nat} {D : Int → World → Prop} {E : World → Prop} {q : Int} {listed : Array Bool} {w : World} {i : Nat} (h : Vr A n D E q listed w) (ho : listed.getD i true = false) (hA : i ≠ A) (hn : i ≠ n) : Vr A n D E q (listed.setIfInBounds i true) w := by
  have hop := openOf_set ho
  refine ⟨fun h1 => ?_, fun h1 => ?_⟩
  · rw [set_ne (fun e => hA e.symm)] at h1
    obtain ⟨p, hD, hp⟩ := h.1 h1
    exact ⟨p, hD, by omega⟩
  · rw [set_ne (fun e => hn e.symm)] at h1
    exact h.2 h1
/-- The reader went on, or blocks were made. -/
theorem Vr.turn {A n : Nat} {D : Int → World → Prop} {E : World → Prop} {q p : Int} {listed : Array Bool} {w : World} {i : Nat} (ho : listed.getD i true = false) (hn : listed.getD n false = false) (hin : i ≠ n) (hD : D p w) (hp : p + 200 * (openOf listed : Int) ≤ q + 200 * ((n : Int) + 1) + 200) : Vr A n D E q (listed.setIfInBounds i true) w := by
  have hop := openOf_set ho
  exact Vr.mk hD (by omega) (by rw [set_ne (fun e => hin e.symm)]; exact hn)
theorem reg_inv {P : Program} {ops : Array Oper} {Q : Exit → Act → World → Prop} {a0 : Act} {w0 : World} (lo n A : Nat) (G : World → Nat → Value → Prop) (D : Int → World → Prop) (E : World → Prop) (q : Int)
    (hd : depsOk ops = true) (hops : ops.size = n + 1) (hsz : lo + n ≤ a0.tmps.size) (hD : D q w0)
    (done : ∀ l y, l.length = n → E y → Q .normal ⟨(a0.tmps.toList.take lo ++ (l ++ a0.tmps.toList.drop (lo + n))).toArray, a0.defers⟩ y)
    (step : ∀ listed x y i, Ir lo n A .any ops a0 G (Vr A n D E q) listed x y → i ∈ Region.ready .any ops listed → i < n + 1 → wpOp P ops Q i (Ir lo n A .any ops a0 G (Vr A n D E q) (listed.setIfInBounds i true)) x y) :
    wpAny P .any ops Q ops.size (Array.replicate ops.size false) a0 w0 := by
  refine wpAny_inv (Ir lo n A .any ops a0 G (Vr A n D E q)) (fun listed x y i hI hi => step listed x y i hI hi (by have := List.mem_range.1 (List.mem_filter.1 hi).1; omega)) ?_ _ _ _ _ (open_rep _) ?_
  · intro listed x y hI hr
    have hall := all_listed hd hr (by rw [hI.lz, hops])
    obtain ⟨l, hl, rfl⟩ := frame_of hI.df hI.sz hI.out hsz
    exact done l y hl (hI.v.2 (hall n (by omega)))
  · refine ⟨rfl, rfl, fun _ _ => rfl, by simp [hops], ?_, ?_, ?_⟩
    · intro i j _ h
      rw [rep_false] at h; cases h
    · intro i _ h
      rw [rep_false] at h; cases h
    · have h1 := open_rep ops.size
      exact Vr.mk hD (by omega) (rep_false _ _)
/-- A want that was spoilt. -/
def WantV (v : Value) : Prop := ∃ r : W.WantD, v = .agg r.cells.toArray ∧ r.fits
/-- A run that was spoilt. -/
def RunW (v : Value) : Prop := ∃ r : RunD, v = .agg r.cells.toArray ∧ r.fits
def G10 (kr bm B0 : Nat) (ck : Int) (w : World) : Nat → Value → Prop
  | 0, v => v = .pointer (some ⟨bm, 2, none⟩)
  | 1, v => v = .int .i64 ck
  | 2, v => AnyI v
  | 3, v => Lst AnyI B0 bm 4 w v
  | 4, v => v = .pointer (some ⟨kr, 0, none⟩)
  | 5, v => Num 0 3 v
  | 6, v => Cell AnyI B0 bm w v
  | 7, v => AnyI v
  | 8, v => v = .pointer (some ⟨bm, 2, none⟩)
  | _, _ => True
theorem G10.keep {kr bm B0 : Nat} {ck : Int} {w w' : World} (he : Ex kr w w') (hk : kr < B0) : ∀ i v, i ≠ 9 → G10 kr bm B0 ck w i v → G10 kr bm B0 ck w' i v
  | 0, _, _, h => h
  | 1, _, _, h => h
  | 2, _, _, h => h
  | 3, _, _, h => Lst.keep h he hk
  | 4, _, _, h => h
  | 5, _, _, h => h
  | 6, _, _, h => Cell.keep h he hk
  | 7, _, _, h => h
  | 8, _, _, h => h
  | _ + 9, _, _, h => h
def G17 (kr bm B0 : Nat) (s1 : Value) (g : Nat) (r0 : W.WantD) (w : World) : Nat → Value → Prop
  | 0, v => v = .pointer (some ⟨bm, 5, none⟩)
  | 1, v => v = s1
  | 2, v => v = .pointer (some ⟨kr, 0, none⟩)
  | 3, v => v = .pointer (some ⟨bm, 5, none⟩)
  | 4, v => v = s1
  | 5, v => v = .pointer (some ⟨g, 0, none⟩)
  | 6, v => v = .agg r0.cells.toArray
  | 7, v => WantV v
  | 8, v => v = .pointer (some ⟨g, 0, none⟩)
  | _, _ => True
theorem G17.keep {kr bm B0 : Nat} {s1 : Value} {g : Nat} {r0 : W.WantD} {w w' : World} (he : Ex kr w w') (hk : kr < B0) : ∀ i v, i ≠ 9 → G17 kr bm B0 s1 g r0 w i v → G17 kr bm B0 s1 g r0 w' i v
  | 0, _, _, h => h
  | 1, _, _, h => h
  | 2, _, _, h => h
  | 3, _, _, h => h
  | 4, _, _, h => h
  | 5, _, _, h => h
  | 6, _, _, h => h
  | 7, _, _, h => h
  | 8, _, _, h => h
  | _ + 9, _, _, h => h
def G21 (kr bm B0 : Nat) (s2 : Value) (g k : Nat) (r0 : RunD) (w : World) : Nat → Value → Prop
  | 0, v => v = .pointer (some ⟨bm, 6, none⟩)
  | 1, v => v = s2
  | 2, v => v = .int .i64 (k : Int)
  | 3, v => v = .pointer (some ⟨kr, 0, none⟩)
  | 4, v => v = .pointer (some ⟨bm, 6, none⟩)
  | 5, v => v = s2
  | 6, v => v = .int .i64 (k : Int)
  | 7, v => v = .pointer (some ⟨g, k * 11, none⟩)
  | 8, v => v = .agg r0.cells.toArray
  | 9, v => RunW v
  | 10, v => v = .pointer (some ⟨g, k * 11, none⟩)
  | _, _ => True
theorem G21.keep {kr bm B0 : Nat} {s2 : Value} {g k : Nat} {r0 : RunD} {w w' : World} (he : Ex kr w w') (hk : kr < B0) : ∀ i v, i ≠ 11 → G21 kr bm B0 s2 g k r0 w i v → G21 kr bm B0 s2 g k r0 w' i v
  | 0, _, _, h => h
  | 1, _, _, h => h
  | 2, _, _, h => h
  | 3, _, _, h => h
  | 4, _, _, h => h
  | 5, _, _, h => h
  | 6, _, _, h => h
  | 7, _, _, h => h
  | 8, _, _, h => h
  | 9, _, _, h => h
  | 10, _, _, h => h
  | _ + 11, _, _, h => h
def G23 (kr bm B0 : Nat) (s3 : Value) (B : Nat) (D : Int → World → Prop) (Q : Int) (l : List A.AskD) (w : World) : Nat → Value → Prop
  | 0, v => v = .pointer (some ⟨bm, 7, none⟩)
  | 1, v => v = s3
  | 2, v => Lst Txt B0 bm 4 w v
  | 3, v => v = .pointer (some ⟨kr, 0, none⟩)
  | 4, v => Num 0 3 v
  | 5, v => Cell Txt B0 bm w v
  | 6, v => Txt v
  | 7, v => Lst Txt B0 bm 2 w v
  | 8, v => v = .pointer (some ⟨kr, 0, none⟩)
  | 9, v => Num 0 1 v
  | 10, v => Cell Txt B0 bm w v
  | 11, v => Txt v
  | 12, v => v = .pointer (some ⟨kr, 0, none⟩)
  | 13, v => Num 0 2 v
  | 14, v => v = .pointer (some ⟨kr, 0, none⟩)
  | 15, v => Num 0 69 v
  | 16, v => AskV v
  | 17, v => AskN B0 w v
  | 18, v => AskP D B Q l s3 w v
  | 19, v => v = .pointer (some ⟨bm, 7, none⟩)
  | _, _ => True
theorem G23.keep {kr bm B0 : Nat} {s3 : Value} {B : Nat} {D : Int → World → Prop} {Q : Int} {l : List A.AskD} {w w' : World} (he : Ex kr w w') (hk : kr < B0) : ∀ i v, i ≠ 18 → G23 kr bm B0 s3 B D Q l w i v → G23 kr bm B0 s3 B D Q l w' i v
  | 0, _, _, h => h
  | 1, _, _, h => h
  | 2, _, _, h => Lst.keep h he hk
  | 3, _, _, h => h
  | 4, _, _, h => h
  | 5, _, _, h => Cell.keep h he hk
  | 6, _, _, h => h
  | 7, _, _, h => Lst.keep h he hk
  | 8, _, _, h => h
  | 9, _, _, h => h
  | 10, _, _, h => Cell.keep h he hk
  | 11, _, _, h => h
  | 12, _, _, h => h
  | 13, _, _, h => h
  | 14, _, _, h => h
  | 15, _, _, h => h
  | 16, _, _, h => h
  | 17, _, _, h => AskN.keep h he hk
  | 18, _, hne, _ => absurd rfl hne
  | 19, _, _, h => h
  | _ + 20, _, _, h => h
def G25 (kr bm B0 : Nat) (s4 : Value) (B : Nat) (D : Int → World → Prop) (Q : Int) (l : List A.AskD) (w : World) : Nat → Value → Prop
  | 0, v => v = .pointer (some ⟨bm, 8, none⟩)
  | 1, v => v = s4
  | 2, v => Lst Txt B0 bm 3 w v
  | 3, v => v = .pointer (some ⟨kr, 0, none⟩)
  | 4, v => Num 0 2 v
  | 5, v => Cell Txt B0 bm w v
  | 6, v => Txt v
  | 7, v => v = .pointer (some ⟨kr, 0, none⟩)
  | 8, v => Num 0 2 v
  | 9, v => AnyI v
  | 10, v => v = .pointer (some ⟨kr, 0, none⟩)
  | 11, v => Num 0 4 v
  | 12, v => AskV v
  | 13, v => AskN B0 w v
  | 14, v => AskP D B Q l s4 w v
  | 15, v => v = .pointer (some ⟨bm, 8, none⟩)
  | _, _ => True
theorem G25.keep {kr bm B0 : Nat} {s4 : Value} {B : Nat} {D : Int → World → Prop} {Q : Int} {l : List A.AskD} {w w' : World} (he : Ex kr w w') (hk : kr < B0) : ∀ i v, i ≠ 14 → G25 kr bm B0 s4 B D Q l w i v → G25 kr bm B0 s4 B D Q l w' i v
  | 0, _, _, h => h
  | 1, _, _, h => h
  | 2, _, _, h => Lst.keep h he hk
  | 3, _, _, h => h
  | 4, _, _, h => h
  | 5, _, _, h => Cell.keep h he hk
  | 6, _, _, h => h
  | 7, _, _, h => h
  | 8, _, _, h => h
  | 9, _, _, h => h
  | 10, _, _, h => h
  | 11, _, _, h => h
  | 12, _, _, h => h
  | 13, _, _, h => AskN.keep h he hk
  | 14, _, hne, _ => absurd rfl hne
  | 15, _, _, h => h
  | _ + 16, _, _, h => h
def G27 (kr bm B0 : Nat) (s2 : Value) (B : Nat) (D : Int → World → Prop) (Q : Int) (l : List RunD) (w : World) : Nat → Value → Prop
  | 0, v => v = .pointer (some ⟨bm, 6, none⟩)
  | 1, v => v = s2
  | 2, v => v = .agg #[.string { data := #[122, 122] }, .int .i64 1, .string { data := #[] }, .int .i64 0, .int .i64 0, .int .i64 0, .int .i64 0]
  | 3, v => v = .pointer (some ⟨kr, 0, none⟩)
  | 4, v => Num 0 5 v
  | 5, v => AnyI v
  | 6, v => RunV v
  | 7, v => RunN B0 w v
  | 8, v => RunP D B Q l s2 w v
  | 9, v => v = .pointer (some ⟨bm, 6, none⟩)
  | _, _ => True
theorem G27.keep {kr bm B0 : Nat} {s2 : Value} {B : Nat} {D : Int → World → Prop} {Q : Int} {l : List RunD} {w w' : World} (he : Ex kr w w') (hk : kr < B0) : ∀ i v, i ≠ 8 → G27 kr bm B0 s2 B D Q l w i v → G27 kr bm B0 s2 B D Q l w' i v
  | 0, _, _, h => h
  | 1, _, _, h => h
  | 2, _, _, h => h
  | 3, _, _, h => h
  | 4, _, _, h => h
  | 5, _, _, h => h
  | 6, _, _, h => h
  | 7, _, _, h => RunN.keep h he hk
  | 8, _, hne, _ => absurd rfl hne
  | 9, _, _, h => h
  | _ + 10, _, _, h => h
end Go.Proofs.Ytkebokkckmgloaa
/- A region by an invariant, its slots anywhere. -/
namespace Go.Proofs.Ytkebokkckmgloaa
open Go.RowKit
set_option linter.unusedVariables false

structure Ix (sl : Nat → Nat) (n se : Nat) (md : Region.Mode) (ops : Array Oper) (a0 : Act) (G : World → Nat → Value → Prop) (V : Array Bool → Value → World → Prop) (listed : Array Bool) (a : Act) (w : World) : Prop where
  df : a.defers = a0.defers
  sz : a.tmps.size = a0.tmps.size
  out : ∀ k, (∀ i, i < n → sl i ≠ k) → a.tmps.getD k undef = a0.tmps.getD k undef
  lz : listed.size = n + 1
  tr : ∀ i j, depOf md ops i j = true → listed.getD i false = true → listed.getD j false = true
  good : ∀ i, i < n → listed.getD i false = true → listed.getD n false = false → G w i (a.tmps.getD (sl i) undef)
  v : V listed (a.tmps.getD se undef) w
section
variable {sl : Nat → Nat} {n se : Nat} {md : Region.Mode} {ops : Array Oper} {a0 : Act} {G : World → Nat → Value → Prop} {V : Array Bool → Value → World → Prop} {listed : Array Bool} {a : Act} {w w' : World} {i : Nat} {v : Value}
theorem Ix.put (h : Ix sl n se md ops a0 G V listed a w) (hr : i ∈ Region.ready md ops listed) (hi : i < n) (hlt : sl i < a0.tmps.size) (hinj : ∀ j, j < n → sl j = sl i → j = i) (hg : G w' i v)
    (hk : ∀ j u, j < n → listed.getD j false = true → G w j u → G w' j u) (hv : ∀ u, V (listed.setIfInBounds i true) u w') :
    Ix sl n se md ops a0 G V (listed.setIfInBounds i true) (a.put (some (sl i)) v) w' := by
  have hsz := h.sz
  have hlz := h.lz
  refine ⟨h.df, by simpa [Act.put] using hsz, ?_, by simpa using hlz, tr_set hr (by omega) h.tr, ?_, hv _⟩
  · intro k hko
    rw [← h.out k hko]
    simp only [Act.put, Array.getD_eq_getD_getElem?]
    rw [Array.getElem?_setIfInBounds_ne (hko i hi)]
  · intro j hj hl hc
    by_cases e : j = i
    · subst e
      simp only [Act.put, Array.getD_eq_getD_getElem?]
      rw [Array.getElem?_setIfInBounds_self_of_lt (by omega)]
      exact hg
    · rw [set_ne e] at hl
      rw [set_ne (by omega)] at hc
      have h1 := hk j _ hj hl (h.good j hj hl hc)
      simp only [Act.put, Array.getD_eq_getD_getElem?] at h1 ⊢
      rw [Array.getElem?_setIfInBounds_ne (fun e' => e (hinj j hj e'.symm))]
      exact h1
theorem Ix.last (h : Ix sl n se md ops a0 G V listed a w) (hr : n ∈ Region.ready md ops listed) {u : Value} (hv : V (listed.setIfInBounds n true) (a.tmps.getD se undef) w') :
    Ix sl n se md ops a0 G V (listed.setIfInBounds n true) (a.put none u) w' := by
  have hlz := h.lz
  refine ⟨h.df, h.sz, h.out, by simpa using hlz, tr_set hr (by omega) h.tr, ?_, hv⟩
  intro j hj hl hc
  rw [set_same (by omega)] at hc
  cases hc
end
def Vx (n : Nat) (D : Int → World → Prop) (E : Value → World → Prop) (q : Int) (listed : Array Bool) (u : Value) (w : World) : Prop :=
  (listed.getD n false = false → ∃ p, D p w ∧ p + (openOf listed : Int) ≤ q + ((n : Int) + 1)) ∧ (listed.getD n false = true → E u w)
section
variable {n : Nat} {D : Int → World → Prop} {E : Value → World → Prop} {q p : Int} {listed : Array Bool} {w : World} {i : Nat} {u : Value}
theorem Vx.turn (ho : listed.getD i true = false) (hn : listed.getD n false = false) (hin : i ≠ n) (hD : D p w) (hp : p + (openOf listed : Int) ≤ q + ((n : Int) + 1) + 1) : ∀ u, Vx n D E q (listed.setIfInBounds i true) u w := by
  have hop := openOf_set ho
  intro u
  refine ⟨fun _ => ⟨p, hD, by omega⟩, fun h => ?_⟩
  rw [set_ne (fun e => hin e.symm), hn] at h
  cases h
theorem Vx.fin (hn : listed.getD n false = true) (hE : E u w) : Vx n D E q listed u w := ⟨fun h => (by rw [hn] at h; cases h), fun _ => hE⟩
end
theorem reg_invX {P : Program} {ops : Array Oper} {Q : Exit → Act → World → Prop} {a0 : Act} {w0 : World} (sl : Nat → Nat) (n se : Nat) (G : World → Nat → Value → Prop) (D : Int → World → Prop) (E : Value → World → Prop) (q : Int)
    (hd : depsOk ops = true) (hops : ops.size = n + 1) (hD : D q w0)
    (done : ∀ a y, a.defers = a0.defers → a.tmps.size = a0.tmps.size → (∀ k, (∀ i, i < n → sl i ≠ k) → a.tmps.getD k undef = a0.tmps.getD k undef) → E (a.tmps.getD se undef) y → Q .normal a y)
    (step : ∀ listed x y i, Ix sl n se .any ops a0 G (Vx n D E q) listed x y → i ∈ Region.ready .any ops listed → i < n + 1 → wpOp P ops Q i (Ix sl n se .any ops a0 G (Vx n D E q) (listed.setIfInBounds i true)) x y) :
    wpAny P .any ops Q ops.size (Array.replicate ops.size false) a0 w0 := by
  refine wpAny_inv (Ix sl n se .any ops a0 G (Vx n D E q)) (fun listed x y i hI hi => step listed x y i hI hi (by have := List.mem_range.1 (List.mem_filter.1 hi).1; omega)) ?_ _ _ _ _ (open_rep _) ?_
  · intro listed x y hI hr
    have hall := all_listed hd hr (by rw [hI.lz, hops])
    exact done x y hI.df hI.sz hI.out (hI.v.2 (hall n (by omega)))
  · refine ⟨rfl, rfl, fun _ _ => rfl, by simp [hops], ?_, ?_, ?_⟩
    · intro i j _ h
      rw [rep_false] at h; cases h
    · intro i _ h
      rw [rep_false] at h; cases h
    · have h1 := open_rep ops.size
      exact ⟨fun _ => ⟨q, hD, by omega⟩, fun h => by rw [rep_false] at h; cases h⟩
/-- The frame: slots from lo on, and one more. -/
theorem frame_two {a a0 : Act} {lo n se : Nat} (df : a.defers = a0.defers) (sz : a.tmps.size = a0.tmps.size) (hse : se < a0.tmps.size) (hn : lo + n ≤ a0.tmps.size) (out : ∀ k, k ≠ se → k < lo ∨ lo + n ≤ k → a.tmps.getD k undef = a0.tmps.getD k undef) :
    ∃ l : List Value, l.length = n ∧ a = ⟨((a0.tmps.setIfInBounds se (a.tmps.getD se undef)).toList.take lo ++ (l ++ (a0.tmps.setIfInBounds se (a.tmps.getD se undef)).toList.drop (lo + n))).toArray, a0.defers⟩ := by
  refine frame_of (a := a) (a0 := ⟨a0.tmps.setIfInBounds se (a.tmps.getD se undef), a0.defers⟩) df (by simpa using sz) ?_ (by simpa using hn)
  intro k hk
  by_cases e : k = se
  · subst e
    simp only [Array.getD_eq_getD_getElem?]
    rw [Array.getElem?_setIfInBounds_self_of_lt hse, Option.getD_some]
  · rw [out k e hk]
    simp only [Array.getD_eq_getD_getElem?]
    rw [Array.getElem?_setIfInBounds_ne (fun e' => e e'.symm)]
end Go.Proofs.Ytkebokkckmgloaa
