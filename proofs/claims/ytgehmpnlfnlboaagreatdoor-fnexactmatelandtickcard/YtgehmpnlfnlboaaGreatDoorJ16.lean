import Derived.Test.YtgehmpnlfnlboaaGreatDoorJ02
import Derived.Laws.AppendOwn
import Derived.Test.YtgehmpnlfnlboaaGreatDoorJ08
import Derived.Test.YtgehmpnlfnlboaaGreatDoorJ15
/- Parcels as they lie: a slice as it is. -/
namespace Go.Proofs.YtgehmpnlfnlboaaGreatDoor.Pc
open Go.RowKit
set_option linter.unusedVariables false

structure PcRaw where
  k : Int
  b : ByteArray
  s : Int
  a : Option Addr
  n : Nat
  c : Nat
  h : ByteArray
  p : ByteArray
  t : Int
def PcRaw.cells (r : PcRaw) : List Value := [.int .i64 r.k, .string r.b, .int .i64 r.s, .slice r.a r.n r.c, .string r.h, .string r.p, .int .i64 r.t]
def RowsAt (w : World) (b off : Nat) (rs : List PcRaw) : Prop := ∀ k r, rs[k]? = some r → w.rangeAt b (off + k * 7) r.cells
end Go.Proofs.YtgehmpnlfnlboaaGreatDoor.Pc
/- A list of runs in a row that the call itself made. -/
namespace Go.Proofs.YtgehmpnlfnlboaaGreatDoor.Pc
open Go.RowKit
set_option linter.unusedVariables false

def flatR (rs : List PcRaw) : List Value := rs.flatMap PcRaw.cells
theorem flatR_at : ∀ (rs : List PcRaw) (k : Nat) (r : PcRaw), rs[k]? = some r → ∀ j, j < 7 → (flatR rs)[k * 7 + j]? = r.cells[j]?
  | [], k, r, h, j, hj => by simp at h
  | q :: rs, 0, r, h, j, hj => by
    simp at h; subst h
    rw [flatR, List.flatMap_cons, List.getElem?_append_left (by show _ < 7; omega)]
    simp
  | q :: rs, k + 1, r, h, j, hj => by
    have ih := flatR_at rs k r (by simpa using h) j hj
    rw [flatR, List.flatMap_cons, List.getElem?_append_right (by show 7 ≤ _; omega)]
    rw [← ih]
    show (flatR rs)[(k + 1) * 7 + j - 7]? = _
    rw [show (k + 1) * 7 + j - 7 = k * 7 + j from by omega]
theorem flatR_one (rs : List PcRaw) : ∀ u ∈ flatR rs, u.oneCell' = true := by
  intro u hu
  obtain ⟨r, -, h⟩ := List.mem_flatMap.1 hu
  simp [PcRaw.cells] at h
  rcases h with rfl | rfl | rfl | rfl | rfl | rfl | rfl <;> rfl

theorem rows_of_owns {w : World} {base : Nat} {v : Value} {rs : List PcRaw} (h : w.ownsRow base 48 7 v rs.length (flatR rs)) :
    (v = .slice none 0 0 ∧ rs = []) ∨ ∃ g cap, v = .slice (some ⟨g, 0, none⟩) rs.length cap ∧ base ≤ g ∧ g < w.heap.size ∧ RowsAt w g 0 rs ∧ w.there g 0 (rs.length * 7) := by
  obtain ⟨hl, ⟨rfl, hn⟩ | ⟨g, cap, cur, rfl, hb, hg, hnc, hcm, hcs, htk⟩⟩ := h
  · exact Or.inl ⟨rfl, List.length_eq_zero_iff.1 hn⟩
  · refine Or.inr ⟨g, cap, rfl, hb, (Array.getElem?_eq_some_iff.1 hg).1, ?_, ?_⟩
    · intro k r hk j u hj
      have hjn : j < 7 := by
        rcases Nat.lt_or_ge j 7 with h' | h'
        · exact h'
        · rw [List.getElem?_eq_none (by simpa [PcRaw.cells] using h')] at hj; cases hj
      have hf := flatR_at rs k r hk j hjn
      rw [hj, ← htk, List.getElem?_take] at hf
      split at hf
      · rw [cell_of_row w g _ cur _ (0, 0) hg, Nat.zero_add]
        simpa using hf
      · cases hf
    · intro j hj
      have hlt : j < cur.size := by
        have : rs.length * 7 ≤ cap * 7 := Nat.mul_le_mul_right 7 hnc
        omega
      refine ⟨?_, ?_⟩
      · rw [cell_of_row w g _ cur _ (0, 0) hg, Nat.zero_add]
        simp [Array.getElem?_eq_getElem hlt]
      · simp [World.frozen?, hg]

theorem owns_below {x y : World} {base : Nat} {e : TypeId} {size : Nat} {v : Value} {n : Nat} {xs : List Value} (h : x.ownsRow base e size v n xs) (hb : Below x.heap.size x y) : y.ownsRow base e size v n xs :=
  h.kept (row := none) ⟨hb.os, hb.tape, hb.output, hb.size, fun k hk _ => hb.block k hk⟩ (by cases hv : v.ownBlock <;> simp)
theorem cellsR_one (r : PcRaw) : ∀ u ∈ r.cells, u.oneCell' = true := fun u hu => flatR_one [r] u (by simpa [flatR] using hu)
theorem infoR : (Tryz.prog.info? 48).map (fun i => (i.zero, i.size, i.bytes)) = some (some (.agg #[.int .i64 0, .string ⟨#[]⟩, .int .i64 0, .slice none 0 0, .string ⟨#[]⟩, .string ⟨#[]⟩, .int .i64 0]), 7, 96) := by kernel_rfl
end Go.Proofs.YtgehmpnlfnlboaaGreatDoor.Pc
/- A list in a row of the call's own, or nil: parcels, raw. -/
namespace Go.Proofs.YtgehmpnlfnlboaaGreatDoor.Pc
open Go.RowKit
set_option linter.unusedVariables false

def Sl (w : World) (v : Value) (l : List PcRaw) (B : Nat) : Prop := (v = .slice none 0 0 ∧ l = []) ∨ ∃ g cap, v = .slice (some ⟨g, 0, none⟩) l.length cap ∧ B ≤ g ∧ g < w.heap.size ∧ RowsAt w g 0 l ∧ w.there g 0 (l.length * 7)
theorem Sl.of_owns {w : World} {v : Value} {l : List PcRaw} {B : Nat} (h : w.ownsRow B 48 7 v l.length (flatR l)) : Sl w v l B := rows_of_owns h
theorem Sl.grown {w w' : World} {v : Value} {l : List PcRaw} {B : Nat} {row : Option Nat} (h : Sl w v l B) (hg : w.grownBy w' row) (hne : v.ownBlock = none ∨ v.ownBlock ≠ row) : Sl w' v l B := by
  rcases h with h | ⟨g, cap, rfl, h1, h2, h3, h4⟩
  · exact Or.inl h
  · have hn : some g ≠ row := by simpa [Value.ownBlock] using hne
    have hc : ∀ o, w'.cell? ⟨g, o, none⟩ = w.cell? ⟨g, o, none⟩ := fun o => World.cell?_of_block (w := w) (a := ⟨g, o, none⟩) (hg.block g h2 hn)
    have hfz : ∀ o, w'.frozen? ⟨g, o, none⟩ = w.frozen? ⟨g, o, none⟩ := fun o => World.frozen?_of_block (w := w) (a := ⟨g, o, none⟩) (hg.block g h2 hn)
    exact Or.inr ⟨g, cap, rfl, h1, Nat.lt_of_lt_of_le h2 hg.size, fun k r hk j v hj => (hc _).trans (h3 k r hk j v hj), fun j hj => ⟨by rw [hc]; exact (h4 j hj).1, by rw [hfz]; exact (h4 j hj).2⟩⟩
theorem Sl.keep {w w' : World} {v : Value} {l : List PcRaw} {B : Nat} (h : Sl w v l B) (hb : Below w.heap.size w w') : Sl w' v l B :=
  h.grown (row := none) ⟨hb.os, hb.tape, hb.output, hb.size, fun k hk _ => hb.block k hk⟩ (by cases hv : v.ownBlock <;> simp)
theorem Sl.lt {w : World} {v : Value} {l : List PcRaw} {B : Nat} (h : Sl w v l B) : ∀ g, v.ownBlock = some g → B ≤ g ∧ g < w.heap.size := by
  rcases h with ⟨rfl, -⟩ | ⟨g, cap, rfl, h1, h2, -⟩
  · intro g hg; simp [Value.ownBlock] at hg
  · intro g' hg; simp [Value.ownBlock] at hg; subst hg; exact ⟨h1, h2⟩
theorem Sl.shape {w : World} {v : Value} {l : List PcRaw} {B : Nat} (h : Sl w v l B) : ∃ a c, v = .slice a l.length c := by
  rcases h with ⟨rfl, rfl⟩ | ⟨g, cap, rfl, -⟩
  · exact ⟨none, 0, rfl⟩
  · exact ⟨_, _, rfl⟩
end Go.Proofs.YtgehmpnlfnlboaaGreatDoor.Pc
/- A region by an invariant: slots anywhere, an append, and its answer assigned. -/
namespace Go.Proofs.YtgehmpnlfnlboaaGreatDoor
open Go.RowKit
set_option linter.unusedVariables false

structure Iu (sl : Nat → Nat) (n sA sE : Nat) (ops : Array Oper) (a0 : Act) (G : World → Nat → Value → Prop) (D : World → Prop) (A E : Value → World → Prop) (listed : Array Bool) (a : Act) (w : World) : Prop where
  df : a.defers = a0.defers
  sz : a.tmps.size = a0.tmps.size
  out : ∀ k, (∀ i, i < n → sl i ≠ k) → k ≠ sA → (k = sE → listed.getD (n + 1) false = false) → a.tmps.getD k undef = a0.tmps.getD k undef
  lz : listed.size = n + 2
  tr : ∀ i j, waits .any ops i j = true → listed.getD i false = true → listed.getD j false = true
  good : ∀ i, i < n → listed.getD i false = true → listed.getD n false = false → G w i (a.tmps.getD (sl i) undef)
  d : listed.getD n false = false → D w
  a1 : listed.getD n false = true → listed.getD (n + 1) false = false → A (a.tmps.getD sA undef) w
  e : listed.getD (n + 1) false = true → E (a.tmps.getD sE undef) w
section
variable {sl : Nat → Nat} {n sA sE : Nat} {ops : Array Oper} {a0 : Act} {G : World → Nat → Value → Prop} {D : World → Prop} {A E : Value → World → Prop} {listed : Array Bool} {a : Act} {w w' : World} {i : Nat} {v : Value}
theorem Iu.put (h : Iu sl n sA sE ops a0 G D A E listed a w) (hr : i ∈ Region.ready .any ops listed) (hi : i < n) (hn : listed.getD n false = false) (hq : waits .any ops (n + 1) n = true) (hlt : sl i < a0.tmps.size) (hinj : ∀ j, j < n → sl j = sl i → j = i) (hg : G w' i v)
    (hk : ∀ j u, j < n → G w j u → G w' j u) (hd : D w') : Iu sl n sA sE ops a0 G D A E (listed.setIfInBounds i true) (a.put (some (sl i)) v) w' := by
  have hsz := h.sz
  have hlz := h.lz
  have hnn : (listed.setIfInBounds i true).getD n false = false := by rw [setT_ne (by omega)]; exact hn
  have hmm : (listed.setIfInBounds i true).getD (n + 1) false = false := by
    rw [setT_ne (by omega)]
    cases hx : listed.getD (n + 1) false with
    | false => rfl
    | true => rw [h.tr (n + 1) n hq hx] at hn; cases hn
  refine ⟨h.df, by simpa [Act.put] using hsz, ?_, by simpa using hlz, trT hr (by omega) h.tr, ?_, fun _ => hd, (fun e => by rw [hnn] at e; cases e), (fun e => by rw [hmm] at e; cases e)⟩
  · intro k hko h1 h2
    rw [← h.out k hko h1 (fun e => by have := h2 e; rwa [setT_ne (by omega)] at this)]
    simp only [Act.put, Array.getD_eq_getD_getElem?]
    rw [Array.getElem?_setIfInBounds_ne (hko i hi)]
  · intro j hj hl _
    by_cases e : j = i
    · subst e
      simp only [Act.put, Array.getD_eq_getD_getElem?]
      rw [Array.getElem?_setIfInBounds_self_of_lt (by omega)]
      exact hg
    · rw [setT_ne e] at hl
      have h1 := hk j _ hj (h.good j hj hl hn)
      simp only [Act.put, Array.getD_eq_getD_getElem?] at h1 ⊢
      rw [Array.getElem?_setIfInBounds_ne (fun e' => e (hinj j hj e'.symm))]
      exact h1
theorem Iu.same (h : Iu sl n sA sE ops a0 G D A E listed a w) (hr : i ∈ Region.ready .any ops listed) (hi : i < n) (hn : listed.getD n false = false) (hq : waits .any ops (n + 1) n = true) (hlt : sl i < a0.tmps.size) (hinj : ∀ j, j < n → sl j = sl i → j = i) (hg : G w i v) : Iu sl n sA sE ops a0 G D A E (listed.setIfInBounds i true) (a.put (some (sl i)) v) w :=
  h.put hr hi hn hq hlt hinj hg (fun _ _ _ h => h) (h.d hn)
theorem Iu.app (h : Iu sl n sA sE ops a0 G D A E listed a w) (hr : n ∈ Region.ready .any ops listed) (hq : waits .any ops (n + 1) n = true) (hlt : sA < a0.tmps.size) (ha : A v w') : Iu sl n sA sE ops a0 G D A E (listed.setIfInBounds n true) (a.put (some sA) v) w' := by
  have hsz := h.sz
  have hlz := h.lz
  have ho := ready_open hr
  have hnn : (listed.setIfInBounds n true).getD n false = true := setT_same (by omega)
  have hmm : (listed.setIfInBounds n true).getD (n + 1) false = false := by
    rw [setT_ne (by omega)]
    cases hx : listed.getD (n + 1) false with
    | false => rfl
    | true => exact (openT ho (h.tr (n + 1) n hq hx)).elim
  refine ⟨h.df, by simpa [Act.put] using hsz, ?_, by simpa using hlz, trT hr (by omega) h.tr, (fun j _ _ hc => by rw [hnn] at hc; cases hc), (fun e => by rw [hnn] at e; cases e), fun _ _ => ?_, (fun e => by rw [hmm] at e; cases e)⟩
  · intro k hko h1 h2
    rw [← h.out k hko h1 (fun e => by have := h2 e; rwa [setT_ne (by omega)] at this)]
    simp only [Act.put, Array.getD_eq_getD_getElem?]
    rw [Array.getElem?_setIfInBounds_ne (fun e => h1 e.symm)]
  · simp only [Act.put, Array.getD_eq_getD_getElem?]
    rw [Array.getElem?_setIfInBounds_self_of_lt (by omega)]
    exact ha
theorem Iu.last (h : Iu sl n sA sE ops a0 G D A E listed a w) (hr : n + 1 ∈ Region.ready .any ops listed) (hq : waits .any ops (n + 1) n = true) (hlt : sE < a0.tmps.size) (he : E v w') : Iu sl n sA sE ops a0 G D A E (listed.setIfInBounds (n + 1) true) (a.put (some sE) v) w' := by
  have hsz := h.sz
  have hlz := h.lz
  have hn : listed.getD n false = true := waits_of hr hq
  have hnn : (listed.setIfInBounds (n + 1) true).getD n false = true := by rw [setT_ne (by omega)]; exact hn
  have hmm : (listed.setIfInBounds (n + 1) true).getD (n + 1) false = true := setT_same (by omega)
  refine ⟨h.df, by simpa [Act.put] using hsz, ?_, by simpa using hlz, trT hr (by omega) h.tr, (fun j _ _ hc => by rw [hnn] at hc; cases hc), (fun e => by rw [hnn] at e; cases e), (fun _ e => by rw [hmm] at e; cases e), fun _ => ?_⟩
  · intro k hko h1 h2
    have h3 : k ≠ sE := fun e => by have := h2 e; rw [hmm] at this; cases this
    rw [← h.out k hko h1 (fun e => absurd e h3)]
    simp only [Act.put, Array.getD_eq_getD_getElem?]
    rw [Array.getElem?_setIfInBounds_ne (fun e => h3 e.symm)]
  · simp only [Act.put, Array.getD_eq_getD_getElem?]
    rw [Array.getElem?_setIfInBounds_self_of_lt (by omega)]
    exact he
end
theorem reg_invU {P : Program} {ops : Array Oper} {Q : Exit → Act → World → Prop} {a0 : Act} {w0 : World} (sl : Nat → Nat) (n sA sE : Nat) (G : World → Nat → Value → Prop) (D : World → Prop) (A E : Value → World → Prop)
    (hd : depsOk ops = true) (hops : ops.size = n + 2) (hD : D w0)
    (done : ∀ a y, a.defers = a0.defers → a.tmps.size = a0.tmps.size → (∀ k, (∀ i, i < n → sl i ≠ k) → k ≠ sA → k ≠ sE → a.tmps.getD k undef = a0.tmps.getD k undef) → E (a.tmps.getD sE undef) y → Q .normal a y)
    (step : ∀ listed x y i, Iu sl n sA sE ops a0 G D A E listed x y → i ∈ Region.ready .any ops listed → i < n + 2 → wpOp P ops Q i (Iu sl n sA sE ops a0 G D A E (listed.setIfInBounds i true)) x y) :
    wpAny P .any ops Q ops.size (Array.replicate ops.size false) a0 w0 := by
  have hrep : openOf (Array.replicate ops.size false) ≤ ops.size := by
    unfold openOf
    exact Nat.le_trans List.countP_le_length (by simp)
  have hno : ∀ k j, (Array.replicate k false).getD j false = false := fun k j => by
    simp only [Array.getD_eq_getD_getElem?, Array.getElem?_replicate]
    split <;> rfl
  refine wpAny_inv (Iu sl n sA sE ops a0 G D A E) (fun listed x y i hI hi => step listed x y i hI hi (by have := List.mem_range.1 (List.mem_filter.1 hi).1; omega)) ?_ _ _ _ _ hrep ?_
  · intro listed x y hI hr
    have hall := all_listed hd hr (by rw [hI.lz, hops])
    exact done x y hI.df hI.sz (fun k h1 h2 h3 => hI.out k h1 h2 (fun e => absurd e h3)) (hI.e (hall (n + 1) (by omega)))
  · exact ⟨rfl, rfl, fun _ _ _ _ => rfl, by simp [hops], (fun i j _ h => by rw [hno] at h; cases h), (fun i _ h => by rw [hno] at h; cases h), (fun _ => hD), (fun h => by rw [hno] at h; cases h), (fun h => by rw [hno] at h; cases h)⟩
end Go.Proofs.YtgehmpnlfnlboaaGreatDoor
/- What a tick of the book sends. -/
namespace Go.Proofs.YtgehmpnlfnlboaaGreatDoor
open Go.RowKit Go.Maps Go.WideMaps
set_option linter.unusedVariables false

/-- A place's parcel, its wants where the slice says. -/
def toldP (q : P.PlaceD) (a : Option Addr) (c : Nat) : Pc.PcRaw := ⟨1, q.b, q.s, a, q.ws.length, c, { data := #[] }, { data := #[] }, 0⟩
/-- Parcels of the first places, in a row of the call's own, their wants as well. -/
structure Sn (w : World) (B : Nat) (qs : List P.PlaceD) (cs : List Pc.PcRaw) (v : Value) : Prop where
  o : w.ownsRow B 48 7 v cs.length (Pc.flatR cs)
  el : ∀ (j : Nat) c, cs[j]? = some c → ∃ q, qs[j]? = some q ∧ c = toldP q c.a c.c ∧ W.Sl w (.slice c.a q.ws.length c.c) q.ws B
  nr : ∀ (j : Nat) c g, cs[j]? = some c → (Value.slice c.a c.n c.c).ownBlock = some g → v.ownBlock ≠ some g
  dif : ∀ (i j : Nat) c c' g, i < j → cs[i]? = some c → cs[j]? = some c' → (Value.slice c.a c.n c.c).ownBlock = some g → (Value.slice c'.a c'.n c'.c).ownBlock ≠ some g
theorem Sn.keep {w w' : World} {B : Nat} {qs : List P.PlaceD} {cs : List Pc.PcRaw} {v : Value} (h : Sn w B qs cs v) (hb : Below w.heap.size w w') : Sn w' B qs cs v :=
  ⟨Pc.owns_below h.o hb, fun j c hc => by obtain ⟨q, h1, h2, h3⟩ := h.el j c hc; exact ⟨q, h1, h2, h3.keep hb⟩, h.nr, h.dif⟩
theorem Sn.nil (w : World) (B : Nat) (qs : List P.PlaceD) : Sn w B qs [] (.slice none 0 0) :=
  ⟨World.ownsRow_nil _ _ _ _, fun j c hc => by simp at hc, fun j c g hc => by simp at hc, fun i j c c' g _ hc => by simp at hc⟩
theorem Sn.own {w : World} {B : Nat} {qs : List P.PlaceD} {cs : List Pc.PcRaw} {v : Value} (h : Sn w B qs cs v) {j : Nat} {c : Pc.PcRaw} (hc : cs[j]? = some c) {g : Nat} (hg : (Value.slice c.a c.n c.c).ownBlock = some g) : B ≤ g ∧ g < w.heap.size := by
  obtain ⟨q, h1, h2, h3⟩ := h.el j c hc
  have e : c.n = q.ws.length := by rw [h2]; rfl
  rw [e] at hg
  exact h3.lt g hg
/-- One more parcel. -/
theorem Sn.app {w y y' : World} {B : Nat} {qs : List P.PlaceD} {cs : List Pc.PcRaw} {v v' : Value} {q : P.PlaceD} {av : Option Addr} {cv : Nat} (h : Sn w B qs cs v) (hB : B ≤ w.heap.size) (hb : Below w.heap.size w y) (hq : qs[cs.length]? = some q) (hv : W.Sl y (.slice av q.ws.length cv) q.ws w.heap.size)
    (hg : y.grownBy y' v.ownBlock) (ho : y'.ownsRow B 48 7 v' (cs ++ [toldP q av cv]).length (Pc.flatR (cs ++ [toldP q av cv]))) (hat : v'.ownBlock = v.ownBlock ∨ v'.ownBlock = some y.heap.size) : Sn y' B qs (cs ++ [toldP q av cv]) v' := by
  have hvw : ∀ g, v.ownBlock = some g → B ≤ g ∧ g < w.heap.size := (Pc.Sl.of_owns h.o).lt
  have hnew : ∀ g, (Value.slice av q.ws.length cv).ownBlock = some g → w.heap.size ≤ g ∧ g < y.heap.size := hv.lt
  have hold : ∀ {j : Nat} {c : Pc.PcRaw} {g : Nat}, cs[j]? = some c → (Value.slice c.a c.n c.c).ownBlock = some g → B ≤ g ∧ g < w.heap.size := fun hc hg => h.own hc hg
  have cases_ : ∀ {j : Nat} {c : Pc.PcRaw}, (cs ++ [toldP q av cv])[j]? = some c → cs[j]? = some c ∨ (j = cs.length ∧ c = toldP q av cv) := by
    intro j c hc
    rcases Nat.lt_trichotomy j cs.length with hj | hj | hj
    · rw [List.getElem?_append_left hj] at hc; exact Or.inl hc
    · subst hj
      rw [List.getElem?_append_right (Nat.le_refl _), Nat.sub_self] at hc
      simp at hc
      exact Or.inr ⟨rfl, hc.symm⟩
    · rw [List.getElem?_append_right (by omega)] at hc
      rw [List.getElem?_eq_none (by simp; omega)] at hc
      cases hc
  refine ⟨ho, ?_, ?_, ?_⟩
  · intro j c hc
    rcases cases_ hc with hc | ⟨rfl, rfl⟩
    · obtain ⟨q', h1, h2, h3⟩ := h.el j c hc
      refine ⟨q', h1, h2, (h3.keep hb).grown hg ?_⟩
      have e : c.n = q'.ws.length := by rw [h2]; rfl
      cases hx : (Value.slice c.a q'.ws.length c.c).ownBlock with
      | none => exact Or.inl rfl
      | some g => exact Or.inr (fun e2 => h.nr j c g hc (by rw [e]; exact hx) e2.symm)
    · refine ⟨q, hq, rfl, ?_⟩
      have h1 : W.Sl y (.slice av q.ws.length cv) q.ws B := sl_lowW hv hB
      refine h1.grown hg ?_
      cases hx : (Value.slice av q.ws.length cv).ownBlock with
      | none => exact Or.inl rfl
      | some g => exact Or.inr (fun e2 => by have := hnew g hx; have := hvw g e2.symm; omega)
  · intro j c g hc hx e
    rcases cases_ hc with hc | ⟨rfl, rfl⟩
    · rcases hat with hat | hat
      · exact h.nr j c g hc hx (by rw [← hat]; exact e)
      · rw [hat] at e
        have e2 := Option.some.inj e
        have := hold hc hx
        have := hb.size
        omega
    · have h1 := hnew g hx
      rcases hat with hat | hat
      · rw [hat] at e
        have := hvw g e
        omega
      · rw [hat] at e
        have e2 := Option.some.inj e
        omega
  · intro i j c c' g hij hc hc' hx
    rcases cases_ hc' with hc' | ⟨rfl, rfl⟩
    · rcases cases_ hc with hc | ⟨rfl, rfl⟩
      · exact h.dif i j c c' g hij hc hc' hx
      · have := (List.getElem?_eq_some_iff.1 hc').1
        omega
    · rcases cases_ hc with hc | ⟨rfl, rfl⟩
      · intro e
        have h1 := hold hc hx
        have h2 := hnew g e
        omega
      · omega
end Go.Proofs.YtgehmpnlfnlboaaGreatDoor
