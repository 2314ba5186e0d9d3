import Derived.Test.YtgakmkhbnjofhaaGreatDoorJ11
import Derived.Test.YtgakmkhbnjofhaaGreatDoorJ37
namespace Go.Proofs.YtgakmkhbnjofhaaGreatDoor
open Go.RowKit
set_option linter.unusedVariables false
theorem setB_ne {l : Array Bool} {i j : Nat} (h : j ≠ i) : (l.setIfInBounds i true).getD j false = l.getD j false := by
 simp only [Array.getD_eq_getD_getElem?]
 rw [Array.getElem?_setIfInBounds_ne (fun e => h e.symm)]
theorem setB_same {l : Array Bool} {i : Nat} (h : i < l.size) : (l.setIfInBounds i true).getD i false = true := by
 simp only [Array.getD_eq_getD_getElem?]
 rw [Array.getElem?_setIfInBounds_self_of_lt h]
 rfl
structure Iy (sl : Nat → Nat) (n A F C : Nat) (sh : Nat → Bool) (ops : Array Oper) (a0 : Act) (G : World → Nat → Value → Prop) (D : World → Prop) (D2 : World → Value → Prop) (E : World → Prop) (listed : Array Bool) (a : Act) (w : World) : Prop where
 df : a.defers = a0.defers
 sz : a.tmps.size = a0.tmps.size
 out : ∀ k, (∀ i, i < n → sl i ≠ k) → a.tmps.getD k undef = a0.tmps.getD k undef
 lz : listed.size = n + 1
 tr : ∀ i j, waits .any ops i j = true → listed.getD i false = true → listed.getD j false = true
 good : ∀ i, i < n → listed.getD i false = true → listed.getD n false = false → (listed.getD A false = false ∨ i = F) → (sh i = true → listed.getD C false = false) → G w i (a.tmps.getD (sl i) undef)
 d1 : listed.getD A false = false → D w
 d2 : listed.getD A false = true → listed.getD n false = false → D2 w (a.tmps.getD (sl A) undef)
 d3 : listed.getD n false = true → E w
section
variable {sl : Nat → Nat} {n A F C : Nat} {sh : Nat → Bool} {ops : Array Oper} {a0 : Act} {G : World → Nat → Value → Prop} {D : World → Prop} {D2 : World → Value → Prop} {E : World → Prop} {listed : Array Bool} {a : Act} {w w' : World} {i : Nat} {v : Value}
theorem tr_setY (hr : i ∈ Region.ready .any ops listed) (hi : i < listed.size) (h : ∀ i j, waits .any ops i j = true → listed.getD i false = true → listed.getD j false = true) :
  ∀ k j, waits .any ops k j = true → (listed.setIfInBounds i true).getD k false = true → (listed.setIfInBounds i true).getD j false = true := by
 intro k j hw hk
 by_cases e : j = i
 ·
  rw [e]; exact setB_same hi
 ·
  rw [setB_ne e]
  by_cases e2 : k = i
  ·
   rw [e2] at hw
   exact waits_of hr hw
  ·
   rw [setB_ne e2] at hk
   exact h k j hw hk
theorem not_open (hr : i ∈ Region.ready .any ops listed) (h : listed.getD i false = true) : False := by
 have h1 := ready_open hr
 simp only [Array.getD_eq_getD_getElem?] at h h1
 cases hh : listed[i]? with
 | none => rw [hh] at h; cases h
 | some q => rw [hh] at h h1; simp only [Option.getD_some] at h h1; rw [h] at h1; cases h1
theorem Iy.put (h : Iy sl n A F C sh ops a0 G D D2 E listed a w) (hr : i ∈ Region.ready .any ops listed) (hi : i < n) (hA : i ≠ A) (hAn : A < n) (ho : listed.getD A false = false) (hn0 : listed.getD n false = false) (hlt : sl i < a0.tmps.size) (hinj : ∀ j, j < n → sl j = sl i → j = i) (hg : G w' i v)
  (hk : ∀ j u, j < n → listed.getD j false = true → (sh j = true → i ≠ C) → G w j u → G w' j u) (hd : D w') : Iy sl n A F C sh ops a0 G D D2 E (listed.setIfInBounds i true) (a.put (some (sl i)) v) w' := by
 have hsz := h.sz
 have hlz := h.lz
 refine ⟨h.df, by simpa [Act.put] using hsz, ?_, by simpa using hlz, tr_setY hr (by omega) h.tr, ?_, fun _ => hd, fun h1 _ => ?_, fun h1 => ?_⟩
 ·
  intro k hko
  rw [← h.out k hko]
  simp only [Act.put, Array.getD_eq_getD_getElem?]
  rw [Array.getElem?_setIfInBounds_ne (hko i hi)]
 ·
  intro j hj hl hnn hc hsh
  by_cases e : j = i
  ·
   subst e
   simp only [Act.put, Array.getD_eq_getD_getElem?]
   rw [Array.getElem?_setIfInBounds_self_of_lt (by omega)]
   exact hg
  ·
   rw [setB_ne e] at hl
   have h0 : sh j = true → i ≠ C ∧ listed.getD C false = false := fun hs => by
    have h2 := hsh hs
    by_cases e2 : i = C
    ·
     rw [e2, setB_same (by rw [← e2]; omega)] at h2; cases h2
    ·
     rw [setB_ne (fun e => e2 e.symm)] at h2; exact ⟨e2, h2⟩
   have h1 := hk j _ hj hl (fun hs => (h0 hs).1) (h.good j hj hl hn0 (Or.inl ho) (fun hs => (h0 hs).2))
   simp only [Act.put, Array.getD_eq_getD_getElem?] at h1 ⊢
   rw [Array.getElem?_setIfInBounds_ne (fun e' => e (hinj j hj e'.symm))]
   exact h1
 ·
  rw [setB_ne (fun e => hA e.symm), ho] at h1; cases h1
 ·
  rw [setB_ne (by omega), hn0] at h1; cases h1
theorem Iy.putF (h : Iy sl n A F C sh ops a0 G D D2 E listed a w) (hr : F ∈ Region.ready .any ops listed) (hi : F < n) (hA : F ≠ A) (hAn : A < n) (hn0 : listed.getD n false = false) (hFC : F ≠ C) (hlt : sl F < a0.tmps.size) (hinj : ∀ j, j < n → sl j = sl F → j = F) (hg : G w F v) :
  Iy sl n A F C sh ops a0 G D D2 E (listed.setIfInBounds F true) (a.put (some (sl F)) v) w := by
 have hsz := h.sz
 have hlz := h.lz
 refine ⟨h.df, by simpa [Act.put] using hsz, ?_, by simpa using hlz, tr_setY hr (by omega) h.tr, ?_, fun h1 => h.d1 (by rw [setB_ne (fun e => hA e.symm)] at h1; exact h1), fun h1 h2 => ?_, fun h1 => ?_⟩
 ·
  intro k hko
  rw [← h.out k hko]
  simp only [Act.put, Array.getD_eq_getD_getElem?]
  rw [Array.getElem?_setIfInBounds_ne (hko F hi)]
 ·
  intro j hj hl hnn hc hsh
  by_cases e : j = F
  ·
   subst e
   simp only [Act.put, Array.getD_eq_getD_getElem?]
   rw [Array.getElem?_setIfInBounds_self_of_lt (by omega)]
   exact hg
  ·
   rw [setB_ne e] at hl
   have h1 := h.good j hj hl hn0 (by
    rcases hc with hc | hc
    ·
     left; rw [setB_ne (fun e => hA e.symm)] at hc; exact hc
    ·
     exact absurd hc e) (fun hs => by have h2 := hsh hs; rw [setB_ne (fun e => hFC e.symm)] at h2; exact h2)
   simp only [Act.put, Array.getD_eq_getD_getElem?] at h1 ⊢
   rw [Array.getElem?_setIfInBounds_ne (fun e' => e (hinj j hj e'.symm))]
   exact h1
 ·
  rw [setB_ne (fun e => hA e.symm)] at h1
  have h3 := h.d2 h1 hn0
  simp only [Act.put, Array.getD_eq_getD_getElem?] at h3 ⊢
  rw [Array.getElem?_setIfInBounds_ne (fun e' => hA (hinj A hAn e'.symm).symm)]
  exact h3
 ·
  rw [setB_ne (by omega), hn0] at h1; cases h1
theorem Iy.putA (h : Iy sl n A F C sh ops a0 G D D2 E listed a w) (hr : A ∈ Region.ready .any ops listed) (hi : A < n) (hA : F ≠ A) (hn0 : listed.getD n false = false) (hAC : A ≠ C) (hlt : sl A < a0.tmps.size) (hinj : ∀ j, j < n → sl j = sl A → j = A) (ho : listed.getD A false = false)
  (hF : ∀ u, G w F u → G w' F u) (hd : D2 w' v) : Iy sl n A F C sh ops a0 G D D2 E (listed.setIfInBounds A true) (a.put (some (sl A)) v) w' := by
 have hsz := h.sz
 have hlz := h.lz
 have hs : (listed.setIfInBounds A true).getD A false = true := setB_same (by omega)
 refine ⟨h.df, by simpa [Act.put] using hsz, ?_, by simpa using hlz, tr_setY hr (by omega) h.tr, ?_, fun h1 => (by rw [hs] at h1; cases h1), fun _ _ => ?_, fun h1 => ?_⟩
 ·
  intro k hko
  rw [← h.out k hko]
  simp only [Act.put, Array.getD_eq_getD_getElem?]
  rw [Array.getElem?_setIfInBounds_ne (hko A hi)]
 ·
  intro j hj hl hnn hc hsh
  rcases hc with hc | hc
  ·
   rw [hs] at hc; cases hc
  ·
   subst hc
   rw [setB_ne hA] at hl
   have h1 := hF _ (h.good j hj hl hn0 (Or.inr rfl) (fun hs => by have h2 := hsh hs; rw [setB_ne (fun e => hAC e.symm)] at h2; exact h2))
   simp only [Act.put, Array.getD_eq_getD_getElem?] at h1 ⊢
   rw [Array.getElem?_setIfInBounds_ne (fun e' => hA (hinj j hj e'.symm))]
   exact h1
 ·
  simp only [Act.put, Array.getD_eq_getD_getElem?]
  rw [Array.getElem?_setIfInBounds_self_of_lt (by omega)]
  exact hd
 ·
  rw [setB_ne (by omega), hn0] at h1; cases h1
theorem Iy.last (h : Iy sl n A F C sh ops a0 G D D2 E listed a w) (hr : n ∈ Region.ready .any ops listed) (hi : A < n) (hl : listed.getD A false = true) {u : Value} (he : E w') : Iy sl n A F C sh ops a0 G D D2 E (listed.setIfInBounds n true) (a.put none u) w' := by
 have hlz := h.lz
 have hs : (listed.setIfInBounds n true).getD n false = true := setB_same (by omega)
 have hA' : (listed.setIfInBounds n true).getD A false = true := by rw [setB_ne (by omega)]; exact hl
 refine ⟨h.df, h.sz, h.out, by simpa using hlz, tr_setY hr (by omega) h.tr, ?_, fun h1 => (by rw [hA'] at h1; cases h1), fun _ h2 => (by rw [hs] at h2; cases h2), fun _ => he⟩
 intro j hj hl hnn hc hsh
 rw [hs] at hnn
 cases hnn
end
theorem rep_no (n j : Nat) : (Array.replicate n false).getD j false = false := by
 simp only [Array.getD_eq_getD_getElem?]
 by_cases h : j < n
 ·
  rw [Array.getElem?_replicate, if_pos h]; rfl
 ·
  rw [Array.getElem?_replicate, if_neg h]; rfl
theorem rep_open (n : Nat) : openOf (Array.replicate n false) ≤ n := by
 unfold openOf
 refine Nat.le_trans (List.countP_le_length ..) ?_
 simp
theorem reg_invY {P : Program} {ops : Array Oper} {Q : Exit → Act → World → Prop} {a0 : Act} {w0 : World} (sl : Nat → Nat) (n A F C : Nat) (sh : Nat → Bool) (G : World → Nat → Value → Prop) (D : World → Prop) (D2 : World → Value → Prop) (E : World → Prop)
  (hd : depsOk ops = true) (hops : ops.size = n + 1) (hD : D w0)
  (done : ∀ a y, a.defers = a0.defers → a.tmps.size = a0.tmps.size → (∀ k, (∀ i, i < n → sl i ≠ k) → a.tmps.getD k undef = a0.tmps.getD k undef) → E y → Q .normal a y)
  (step : ∀ listed x y i, Iy sl n A F C sh ops a0 G D D2 E listed x y → i ∈ Region.ready .any ops listed → i < n + 1 → wpOp P ops Q i (Iy sl n A F C sh ops a0 G D D2 E (listed.setIfInBounds i true)) x y) :
  wpAny P .any ops Q ops.size (Array.replicate ops.size false) a0 w0 := by
 refine wpAny_inv (Iy sl n A F C sh ops a0 G D D2 E) (fun listed x y i hI hi => step listed x y i hI hi (by have := List.mem_range.1 (List.mem_filter.1 hi).1; omega)) ?_ _ _ _ _ (rep_open _) ?_
 ·
  intro listed x y hI hr
  have hall := all_listed hd hr (by rw [hI.lz, hops])
  exact done x y hI.df hI.sz hI.out (hI.d3 (hall n (by omega)))
 ·
  refine ⟨rfl, rfl, fun _ _ => rfl, by simp [hops], ?_, ?_, fun _ => hD, ?_, ?_⟩
  ·
   intro i j _ h
   rw [rep_no] at h; cases h
  ·
   intro i _ h
   rw [rep_no] at h; cases h
  ·
   intro h
   rw [rep_no] at h; cases h
  ·
   intro h
   rw [rep_no] at h; cases h
theorem wd_inj {a b : List UInt8} (h : wd a = wd b) : a = b := by rw [← wd_list a, h, wd_list]
theorem wd_iff {a : List UInt8} {b : List UInt8} : (wd a = wd b) = (a = b) := propext ⟨wd_inj, fun h => by rw [h]⟩
theorem idxT_kind (w : List UInt8) : idxT (wd w) = kindL w - 1 := by
 have e1 : idxT (wd w) = if wd w = wd wTold then 0 else if wd w = wd wAsked then 1 else if wd w = wd wGiven then 2 else if wd w = wd wBack then 3 else if wd w = wd wGot then 4 else if wd w = wd wHere then 5 else -1 := rfl
 rw [e1]
 simp only [wd_iff]
 unfold kindL
 split
 ·
  rfl
 ·
  split
  ·
   rfl
  ·
   split
   ·
    rfl
   ·
    split
    ·
     rfl
    ·
     split
     ·
      rfl
     ·
      split
      ·
       rfl
      ·
       rfl
theorem kindL_cases (w : List UInt8) : kindL w = 1 ∨ kindL w = 2 ∨ kindL w = 3 ∨ kindL w = 4 ∨ kindL w = 5 ∨ kindL w = 6 ∨ kindL w = 0 := by
 unfold kindL
 split
 ·
  simp
 ·
  split
  ·
   simp
  ·
   split
   ·
    simp
   ·
    split
    ·
     simp
    ·
     split
     ·
      simp
     ·
      split
      ·
       simp
      ·
       simp
theorem readHead_at {W : World} {b : Nat} {l : List UInt8} {y : World} (h : At W b l 0 y) (hE : Env W) (hl : l.length ≤ 1048576) :
  Calls Tryz.prog 56 #[.iface 97 (.pointer (some ⟨b, 0, none⟩))] y fun e y' => e = .returned (.agg (pcells (headI (kindL (nxS l).1) l []) (.slice none 0 0))) ∧ Ex b y y' := by
 have hi : idxT (wdI l 0) = kindL (nxS l).1 - 1 := idxT_kind _
 rcases kindL_cases (nxS l).1 with e | e | e | e | e | e | e
 ·
  rw [e] at hi ⊢; exact readHead1 h hE hl hi
 ·
  rw [e] at hi ⊢; exact readHead2 h hE hl hi
 ·
  rw [e] at hi ⊢; exact readHead3 h hE hl hi
 ·
  rw [e] at hi ⊢; exact readHead4 h hE hl hi
 ·
  rw [e] at hi ⊢; exact readHead5 h hE hl hi
 ·
  rw [e] at hi ⊢; exact readHead6 h hE hl hi
 ·
  rw [e] at hi ⊢; exact readHead7 h hE hl hi
def Z7 : Array Value := #[.int .i64 0, .string ⟨#[]⟩, .int .i64 0, .slice none 0 0, .string ⟨#[]⟩, .string ⟨#[]⟩, .int .i64 0]
structure Pl (Y : World) (be bp : Nat) (O : Array Value) (y : World) : Prop where
 x : Ex be Y y
 b : ∀ k, y.cell? ⟨bp, k, none⟩ = O[k]?
 c : ∀ k, y.frozen? ⟨bp, k, none⟩ = false
 f : bp < y.heap.size
 r : y.heap[Y.heap.size]? = some (.cells Z7 25 (0, 0))
 n : Y.heap.size < bp
 e : be < Y.heap.size
theorem Pl.lt {Y : World} {be bp : Nat} {O : Array Value} {y : World} (h : Pl Y be bp O y) : Y.heap.size < y.heap.size := Nat.lt_trans h.n h.f
theorem Pl.grow {Y : World} {be bp : Nat} {O : Array Value} {y y' : World} {row : Option Nat} (h : Pl Y be bp O y) (hg : y.grownBy y' row) (hr : ∀ g, row = some g → Y.heap.size < g ∧ g ≠ bp) : Pl Y be bp O y' := by
 have hne : ∀ k, k ≤ Y.heap.size ∨ k = bp → some k ≠ row := fun k hk e => by
  have := hr k e.symm
  omega
 have hf := h.f
 have hl := h.lt
 refine ⟨⟨hg.os.trans h.x.os, hg.tape.trans h.x.tape, hg.output.trans h.x.output, Nat.le_trans h.x.size hg.size, fun k hk hk2 => (hg.block k (by omega) (hne k (by omega))).trans (h.x.block k hk hk2)⟩, fun k => ?_, fun k => ?_, Nat.lt_of_lt_of_le hf hg.size, ?_, h.n, h.e⟩
 ·
  rw [← h.b k]
  exact World.cell?_of_block (w := y) (a := ⟨bp, k, none⟩) (hg.block bp hf (hne bp (Or.inr rfl)))
 ·
  rw [← h.c k]
  exact World.frozen?_of_block (w := y) (a := ⟨bp, k, none⟩) (hg.block bp hf (hne bp (Or.inr rfl)))
 ·
  rw [← h.r]
  exact hg.block _ hl (hne _ (by omega))
theorem Pl.below {Y : World} {be bp : Nat} {O : Array Value} {y y' : World} (h : Pl Y be bp O y) (hb : Below y.heap.size y y') : Pl Y be bp O y' :=
 h.grow (row := none) ⟨hb.os, hb.tape, hb.output, hb.size, fun k hk _ => hb.block k hk⟩ (fun g hg => by cases hg)
theorem Pl.text {Y : World} {be bp : Nat} {O : Array Value} {y y' : World} (h : Pl Y be bp O y) (hx : Ex be y y') : Pl Y be bp O y' := by
 have hf := h.f
 have hl := h.lt
 have hn := h.n
 have he := h.e
 refine ⟨h.x.trans hx, fun k => ?_, fun k => ?_, Nat.lt_of_lt_of_le hf hx.size, ?_, h.n, h.e⟩
 ·
  rw [← h.b k]
  exact hx.cell (p := ⟨bp, k, none⟩) hf (by show bp ≠ be; omega)
 ·
  rw [← h.c k]
  exact hx.frozen (p := ⟨bp, k, none⟩) hf (by show bp ≠ be; omega)
 ·
  rw [← h.r]
  exact hx.block _ hl (by omega)
theorem Pl.set {Y : World} {be bp : Nat} {O : Array Value} {y : World} (h : Pl Y be bp O y) (j : Nat) (hj : j < O.size) (u : Value) : Pl Y be bp (O.setIfInBounds j u) (y.setCell ⟨bp, j, none⟩ u) := by
 have hn := h.n
 refine ⟨h.x.setAny (by omega) u, fun k => ?_, fun k => ?_, by have := h.f; simpa using this, ?_, h.n, h.e⟩
 ·
  by_cases e : k = j
  ·
   subst e
   have h1 := h.b k
   rw [Array.getElem?_eq_getElem hj] at h1
   rw [Array.getElem?_setIfInBounds_self_of_lt hj]
   exact World.cell?_setCell_same _ _ _ h1
  ·
   rw [Array.getElem?_setIfInBounds_ne (fun h' => e h'.symm), ← h.b k]
   exact World.cell?_setCell_other _ _ _ _ (fun h' => e (by have := congrArg Addr.off h'; exact this.symm))
 ·
  rw [World.frozen?_setCell]; exact h.c k
 ·
  rw [← h.r]
  exact heap_setCell_other y ⟨bp, j, none⟩ _ u (fun e => by have e2 : Y.heap.size = bp := e; omega)
def Rw (bp : Nat) (ws : List W.WantD) (v : Value) (y : World) : Prop := y.ownsRow (bp + 1) 46 7 v ws.length (W.flatR ws)
theorem Rw.below {bp : Nat} {ws : List W.WantD} {v : Value} {y y' : World} (h : Rw bp ws v y) (hb : Below y.heap.size y y') : Rw bp ws v y' := W.owns_below h hb
theorem Rw.ge {bp : Nat} {ws : List W.WantD} {v : Value} {y : World} (h : Rw bp ws v y) : ∀ k, v.ownBlock = some k → bp + 1 ≤ k := W.owns_ge h
theorem Rw.ex {bp kr : Nat} {ws : List W.WantD} {v : Value} {y y' : World} (h : Rw bp ws v y) (hx : Ex kr y y') (hk : kr ≤ bp) : Rw bp ws v y' := by
 refine World.ownsRow.kept h (W.ex_grown hx) ?_
 cases hv : v.ownBlock with
 | none => exact Or.inl rfl
 | some k =>
  right
  intro e
  have := h.ge k hv
  have e2 := Option.some.inj e
  omega
theorem Rw.shape {bp : Nat} {ws : List W.WantD} {v : Value} {y : World} (h : Rw bp ws v y) : ∃ a c, v = .slice a ws.length c := by
 obtain ⟨-, ⟨rfl, hn⟩ | ⟨g, cap, cur, rfl, -⟩⟩ := h
 ·
  rw [hn]; exact ⟨none, 0, rfl⟩
 ·
  exact ⟨_, cap, rfl⟩
theorem Rw.nil (bp : Nat) (y : World) : Rw bp [] (.slice none 0 0) y := ⟨rfl, Or.inl ⟨rfl, rfl⟩⟩
theorem Rw.sl {bp : Nat} {ws : List W.WantD} {v : Value} {y : World} (h : Rw bp ws v y) : W.Sl y v ws (bp + 1) := W.Sl.of_owns h
theorem Rw.cap {bp : Nat} {ws : List W.WantD} {v : Value} {y : World} (h : Rw bp ws v y) : ∀ g n c, v = .slice (some ⟨g, 0, none⟩) n c → n ≤ c := by
 intro g n c e
 obtain ⟨-, ⟨rfl, hn⟩ | ⟨g', cap, cur, rfl, -, -, h1, -⟩⟩ := h
 ·
  cases e
 ·
  cases e; exact h1
def cntW (bp : Nat) (w : World) : Nat := match w.cell? ⟨bp, 3, none⟩ with
 | some (.slice _ n _) => n
 | _ => 0
end Go.Proofs.YtgakmkhbnjofhaaGreatDoor
