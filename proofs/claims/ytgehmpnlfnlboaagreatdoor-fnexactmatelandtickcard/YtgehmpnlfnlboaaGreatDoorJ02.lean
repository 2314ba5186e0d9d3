import Derived.Test.YtgehmpnlfnlboaaGreatDoorJ01
import Derived.Deep.MidRow
import Derived.Laws.AppendOwn
import Derived.Laws.MakeOwn
import Derived.Sort.KeysCollected
/- Nothing has turned but for one block. -/
namespace Go.Proofs.YtgehmpnlfnlboaaGreatDoor
open Go.RowKit
set_option linter.unusedVariables false

/-- Nothing that was there has turned but for one block. -/
structure Ex (kr : Nat) (w w' : World) : Prop where
  os : w'.os = w.os
  tape : w'.tape = w.tape
  output : w'.output = w.output
  size : w.heap.size ≤ w'.heap.size
  block : ∀ k, k < w.heap.size → k ≠ kr → w'.heap[k]? = w.heap[k]?
theorem Ex.refl (kr : Nat) (w : World) : Ex kr w w := ⟨rfl, rfl, rfl, Nat.le_refl _, fun _ _ _ => rfl⟩
theorem Ex.trans {kr : Nat} {a b c : World} (h : Ex kr a b) (k : Ex kr b c) : Ex kr a c :=
  ⟨k.os.trans h.os, k.tape.trans h.tape, k.output.trans h.output, Nat.le_trans h.size k.size, fun i hi hne => (k.block i (Nat.lt_of_lt_of_le hi h.size) hne).trans (h.block i hi hne)⟩
theorem Ex.of_below {kr : Nat} {a b : World} (h : Below a.heap.size a b) : Ex kr a b := ⟨h.os, h.tape, h.output, h.size, fun i hi _ => h.block i hi⟩
theorem Ex.below {kr B : Nat} {a b : World} (h : Ex kr a b) (hB : B ≤ kr) (hz : B ≤ a.heap.size) : Below B a b := ⟨h.os, h.tape, h.output, h.size, fun i hi => h.block i (by omega) (by omega)⟩
theorem Ex.set {kr : Nat} {a b : World} (h : Ex kr a b) (o : Nat) (u : Value) : Ex kr a (b.setCell ⟨kr, o, none⟩ u) :=
  h.trans ⟨rfl, rfl, rfl, by simp [World.setCell], fun i hi hne => Below.heap_setCell _ _ _ _ hne⟩
theorem Ex.cell {kr : Nat} {a b : World} (h : Ex kr a b) {p : Addr} (hp : p.block < a.heap.size) (hne : p.block ≠ kr) : b.cell? p = a.cell? p := World.cell?_of_block (w := a) (h.block p.block hp hne)
theorem Ex.frozen {kr : Nat} {a b : World} (h : Ex kr a b) {p : Addr} (hp : p.block < a.heap.size) (hne : p.block ≠ kr) : b.frozen? p = a.frozen? p := World.frozen?_of_block (w := a) (h.block p.block hp hne)

theorem Ex.cells {kr : Nat} : ∀ (vs : List Value) (o : Nat) {a b : World}, Ex kr a b → Ex kr a (b.setCells kr o vs)
  | [], _, _, _, h => h
  | v :: r, o, _, _, h => Ex.cells r (o + 1) (h.set o v)
theorem Ex.mono {kr : Nat} {a b c : World} (h : Below a.heap.size a b) (k : Ex kr b c) (hk : a.heap.size ≤ kr) : Below a.heap.size a c := h.trans (k.below hk h.size)
theorem there_ex {kr : Nat} {x y : World} {k o n : Nat} (h : x.there k o n) (hk : k < x.heap.size) (hE : Ex kr x y) (hne : k ≠ kr) : y.there k o n :=
  fun j hj => ⟨by rw [hE.cell (p := ⟨k, o + j, none⟩) hk hne]; exact (h j hj).1, by rw [hE.frozen (p := ⟨k, o + j, none⟩) hk hne]; exact (h j hj).2⟩
theorem there_keep2 {x y : World} {k o n : Nat} (h : x.there k o n) (hk : k < x.heap.size) (hb : Below x.heap.size x y) : y.there k o n :=
  fun j hj => ⟨by rw [hb.cell (p := ⟨k, o + j, none⟩) hk]; exact (h j hj).1, by rw [hb.frozen (p := ⟨k, o + j, none⟩) hk]; exact (h j hj).2⟩
theorem range_keep {w w' : World} {b o : Nat} {vs : List Value} (h : w.rangeAt b o vs) (hb : b < w.heap.size) (hB : Below w.heap.size w w') : w'.rangeAt b o vs :=
  fun j v hj => (hB.cell (p := ⟨b, o + j, none⟩) hb).trans (h j v hj)
theorem range_append {w : World} {b o : Nat} {xs ys : List Value} (h1 : w.rangeAt b o xs) (h2 : w.rangeAt b (o + xs.length) ys) : w.rangeAt b o (xs ++ ys) := by
  intro j v hj
  rcases Nat.lt_or_ge j xs.length with hl | hl
  · rw [List.getElem?_append_left hl] at hj; exact h1 j v hj
  · rw [List.getElem?_append_right hl] at hj
    have := h2 (j - xs.length) v hj
    rwa [show o + xs.length + (j - xs.length) = o + j from by omega] at this
end Go.Proofs.YtgehmpnlfnlboaaGreatDoor
/- A list of runs in a row that the call itself made. -/
namespace Go.Proofs.YtgehmpnlfnlboaaGreatDoor.G
open Go.RowKit
set_option linter.unusedVariables false

def flatR (rs : List GrantD) : List Value := rs.flatMap GrantD.cells
theorem flatR_len : ∀ rs : List GrantD, (flatR rs).length = rs.length * 5
  | [] => rfl
  | r :: rs => by
    have := flatR_len rs
    simp only [flatR, List.flatMap_cons, List.length_append] at this ⊢
    simp only [this, List.length_cons]
    show 5 + rs.length * 5 = _
    omega
theorem flatR_at : ∀ (rs : List GrantD) (k : Nat) (r : GrantD), rs[k]? = some r → ∀ j, j < 5 → (flatR rs)[k * 5 + j]? = r.cells[j]?
  | [], k, r, h, j, hj => by simp at h
  | q :: rs, 0, r, h, j, hj => by
    simp at h; subst h
    rw [flatR, List.flatMap_cons, List.getElem?_append_left (by show _ < 5; omega)]
    simp
  | q :: rs, k + 1, r, h, j, hj => by
    have ih := flatR_at rs k r (by simpa using h) j hj
    rw [flatR, List.flatMap_cons, List.getElem?_append_right (by show 5 ≤ _; omega)]
    rw [← ih]
    show (flatR rs)[(k + 1) * 5 + j - 5]? = _
    rw [show (k + 1) * 5 + j - 5 = k * 5 + j from by omega]
theorem flatR_one (rs : List GrantD) : ∀ u ∈ flatR rs, u.oneCell' = true := by
  intro u hu
  obtain ⟨r, -, h⟩ := List.mem_flatMap.1 hu
  simp [GrantD.cells] at h
  rcases h with rfl | rfl | rfl | rfl | rfl <;> rfl

theorem rows_of_owns {w : World} {base : Nat} {v : Value} {rs : List GrantD} (h : w.ownsRow base 74 5 v rs.length (flatR rs)) :
    (v = .slice none 0 0 ∧ rs = []) ∨ ∃ g cap, v = .slice (some ⟨g, 0, none⟩) rs.length cap ∧ base ≤ g ∧ g < w.heap.size ∧ RowsAt w g 0 rs ∧ w.there g 0 (rs.length * 5) := by
  obtain ⟨hl, ⟨rfl, hn⟩ | ⟨g, cap, cur, rfl, hb, hg, hnc, hcm, hcs, htk⟩⟩ := h
  · exact Or.inl ⟨rfl, List.length_eq_zero_iff.1 hn⟩
  · refine Or.inr ⟨g, cap, rfl, hb, (Array.getElem?_eq_some_iff.1 hg).1, ?_, ?_⟩
    · intro k r hk j u hj
      have hjn : j < 5 := by
        rcases Nat.lt_or_ge j 5 with h' | h'
        · exact h'
        · rw [List.getElem?_eq_none (by simpa [GrantD.cells] using h')] at hj; cases hj
      have hf := flatR_at rs k r hk j hjn
      rw [hj, ← htk, List.getElem?_take] at hf
      split at hf
      · rw [cell_of_row w g _ cur _ (0, 0) hg, Nat.zero_add]
        simpa using hf
      · cases hf
    · intro j hj
      have hlt : j < cur.size := by
        have : rs.length * 5 ≤ cap * 5 := Nat.mul_le_mul_right 5 hnc
        omega
      refine ⟨?_, ?_⟩
      · rw [cell_of_row w g _ cur _ (0, 0) hg, Nat.zero_add]
        simp [Array.getElem?_eq_getElem hlt]
      · simp [World.frozen?, hg]

theorem owns_below {x y : World} {base : Nat} {e : TypeId} {size : Nat} {v : Value} {n : Nat} {xs : List Value} (h : x.ownsRow base e size v n xs) (hb : Below x.heap.size x y) : y.ownsRow base e size v n xs :=
  h.kept (row := none) ⟨hb.os, hb.tape, hb.output, hb.size, fun k hk _ => hb.block k hk⟩ (by cases hv : v.ownBlock <;> simp)
theorem owns_ge {x : World} {base : Nat} {e : TypeId} {size : Nat} {v : Value} {n : Nat} {xs : List Value} (h : x.ownsRow base e size v n xs) : ∀ k, v.ownBlock = some k → base ≤ k := fun k hk => (h.lt k hk).1
theorem new_cells (x : World) (N : Nat) (hN : N = x.heap.size) (arr : Array Value) (t : TypeId) (vs : List Value) (hv : arr.toList = vs) : ∀ j u, vs[j]? = some u → (x.alloc (.cells arr t)).cell? ((⟨N, 0, none⟩ : Addr).add j) = some u := by
  intro j u hj
  subst hN hv
  rw [Addr.add_mid, Nat.zero_add, World.cell?_alloc_new]
  simpa using hj
theorem cellsR_one (r : GrantD) : ∀ u ∈ r.cells, u.oneCell' = true := fun u hu => flatR_one [r] u (by simpa [flatR] using hu)
theorem infoR : (Tryz.prog.info? 74).map (fun i => (i.zero, i.size, i.bytes)) = some (some (.agg #[.string ⟨#[]⟩, .string ⟨#[]⟩, .string ⟨#[]⟩, .int .i64 0, .int .i64 0]), 5, 64) := by kernel_rfl
end Go.Proofs.YtgehmpnlfnlboaaGreatDoor.G
/- A list in a row of the call's own, or nil: grants. -/
namespace Go.Proofs.YtgehmpnlfnlboaaGreatDoor.G
open Go.RowKit
set_option linter.unusedVariables false

def Sl (w : World) (v : Value) (l : List GrantD) (B : Nat) : Prop := (v = .slice none 0 0 ∧ l = []) ∨ ∃ g cap, v = .slice (some ⟨g, 0, none⟩) l.length cap ∧ B ≤ g ∧ g < w.heap.size ∧ RowsAt w g 0 l ∧ w.there g 0 (l.length * 5)
theorem Sl.of_owns {w : World} {v : Value} {l : List GrantD} {B : Nat} (h : w.ownsRow B 74 5 v l.length (flatR l)) : Sl w v l B := rows_of_owns h
theorem Sl.grown {w w' : World} {v : Value} {l : List GrantD} {B : Nat} {row : Option Nat} (h : Sl w v l B) (hg : w.grownBy w' row) (hne : v.ownBlock = none ∨ v.ownBlock ≠ row) : Sl w' v l B := by
  rcases h with h | ⟨g, cap, rfl, h1, h2, h3, h4⟩
  · exact Or.inl h
  · have hn : some g ≠ row := by simpa [Value.ownBlock] using hne
    have hc : ∀ o, w'.cell? ⟨g, o, none⟩ = w.cell? ⟨g, o, none⟩ := fun o => World.cell?_of_block (w := w) (a := ⟨g, o, none⟩) (hg.block g h2 hn)
    have hfz : ∀ o, w'.frozen? ⟨g, o, none⟩ = w.frozen? ⟨g, o, none⟩ := fun o => World.frozen?_of_block (w := w) (a := ⟨g, o, none⟩) (hg.block g h2 hn)
    exact Or.inr ⟨g, cap, rfl, h1, Nat.lt_of_lt_of_le h2 hg.size, fun k r hk j v hj => (hc _).trans (h3 k r hk j v hj), fun j hj => ⟨by rw [hc]; exact (h4 j hj).1, by rw [hfz]; exact (h4 j hj).2⟩⟩
theorem Sl.keep {w w' : World} {v : Value} {l : List GrantD} {B : Nat} (h : Sl w v l B) (hb : Below w.heap.size w w') : Sl w' v l B :=
  h.grown (row := none) ⟨hb.os, hb.tape, hb.output, hb.size, fun k hk _ => hb.block k hk⟩ (by cases hv : v.ownBlock <;> simp)
theorem Sl.lt {w : World} {v : Value} {l : List GrantD} {B : Nat} (h : Sl w v l B) : ∀ g, v.ownBlock = some g → B ≤ g ∧ g < w.heap.size := by
  rcases h with ⟨rfl, -⟩ | ⟨g, cap, rfl, h1, h2, -⟩
  · intro g hg; simp [Value.ownBlock] at hg
  · intro g' hg; simp [Value.ownBlock] at hg; subst hg; exact ⟨h1, h2⟩
theorem Sl.shape {w : World} {v : Value} {l : List GrantD} {B : Nat} (h : Sl w v l B) : ∃ a c, v = .slice a l.length c := by
  rcases h with ⟨rfl, rfl⟩ | ⟨g, cap, rfl, -⟩
  · exact ⟨none, 0, rfl⟩
  · exact ⟨_, _, rfl⟩
end Go.Proofs.YtgehmpnlfnlboaaGreatDoor.G
/- Lists of runs in memory. -/
namespace Go.Proofs.YtgehmpnlfnlboaaGreatDoor
open Go.RowKit
set_option linter.unusedVariables false

structure RunD where
  c : ByteArray
  h : ByteArray
  v : Int
  p : Int
  s : Int
  d : Int
  g : Int
  a : Int
  b : Int
  i : Int
  u : Int
def RunD.cells (r : RunD) : List Value := [.string r.c, .int .i64 r.v, .string r.h, .int .i64 r.p, .int .i64 r.s, .int .i64 r.d, .int .i64 r.g, .int .i64 r.a, .int .i64 r.b, .int .i64 r.i, .int .i64 r.u]
/-- The runs rs lie in block b from off on. -/
def RowsAt (w : World) (b off : Nat) (rs : List RunD) : Prop := ∀ k r, rs[k]? = some r → w.rangeAt b (off + k * 11) r.cells

theorem RowsAt.keep {w w' : World} {b off : Nat} {rs : List RunD} (h : RowsAt w b off rs) (hb : b < w.heap.size) (hB : Below w.heap.size w w') : RowsAt w' b off rs :=
  fun k r hk j v hj => (hB.cell (p := ⟨b, off + k * 11 + j, none⟩) hb).trans (h k r hk j v hj)
theorem RowsAt.at {w : World} {b off : Nat} {rs : List RunD} (h : RowsAt w b off rs) {k : Nat} {r : RunD} (hk : rs[k]? = some r) :
    w.cell? ⟨b, off + k * 11, none⟩ = some (.string r.c) ∧ w.cell? ⟨b, off + k * 11 + 1, none⟩ = some (.int .i64 r.v) ∧ w.cell? ⟨b, off + k * 11 + 2, none⟩ = some (.string r.h) ∧ w.cell? ⟨b, off + k * 11 + 3, none⟩ = some (.int .i64 r.p) ∧ w.cell? ⟨b, off + k * 11 + 4, none⟩ = some (.int .i64 r.s) ∧ w.cell? ⟨b, off + k * 11 + 5, none⟩ = some (.int .i64 r.d) ∧ w.cell? ⟨b, off + k * 11 + 6, none⟩ = some (.int .i64 r.g) ∧ w.cell? ⟨b, off + k * 11 + 7, none⟩ = some (.int .i64 r.a) ∧ w.cell? ⟨b, off + k * 11 + 8, none⟩ = some (.int .i64 r.b) ∧ w.cell? ⟨b, off + k * 11 + 9, none⟩ = some (.int .i64 r.i) ∧ w.cell? ⟨b, off + k * 11 + 10, none⟩ = some (.int .i64 r.u) :=
  ⟨h k r hk 0 _ rfl, h k r hk 1 _ rfl, h k r hk 2 _ rfl, h k r hk 3 _ rfl, h k r hk 4 _ rfl, h k r hk 5 _ rfl, h k r hk 6 _ rfl, h k r hk 7 _ rfl, h k r hk 8 _ rfl, h k r hk 9 _ rfl, h k r hk 10 _ rfl⟩

end Go.Proofs.YtgehmpnlfnlboaaGreatDoor
/- A list of runs is copied. -/
namespace Go.Proofs.YtgehmpnlfnlboaaGreatDoor
open Go.RowKit
set_option linter.unusedVariables false

theorem bl_cells {A : World} {k : Nat} (hk : A.heap.size ≤ k) : ∀ (vs : List Value) (o : Nat) (w' : World), Below A.heap.size A w' → Below A.heap.size A (w'.setCells k o vs)
  | [], _, _, h => h
  | v :: r, o, w', h => bl_cells hk r (o + 1) _ (bl_set h (by exact hk) v)
theorem size_cells {k : Nat} : ∀ (vs : List Value) (o : Nat) (w' : World), (w'.setCells k o vs).heap.size = w'.heap.size
  | [], _, _ => rfl
  | v :: r, o, w' => (size_cells r (o + 1) _).trans (by simp [World.setCell])
theorem there_keep {x y : World} {k o n : Nat} (h : x.there k o n) (hk : k < x.heap.size) (hb : Below x.heap.size x y) : y.there k o n :=
  fun j hj => ⟨by rw [hb.cell (p := ⟨k, o + j, none⟩) hk]; exact (h j hj).1, by rw [hb.frozen (p := ⟨k, o + j, none⟩) hk]; exact (h j hj).2⟩
theorem there_part {x : World} {g n k : Nat} (h : x.there g 0 (n * 11)) (hk : k < n) : x.there g (k * 11) 11 :=
  fun j hj => by have := h (k * 11 + j) (by omega); simpa using this
theorem there_new {w : World} {C : Array Value} {t : TypeId} {n : Nat} (hC : C.size = n * 11) : (w.alloc (.cells C t)).there w.heap.size 0 (n * 11) :=
  fun j hj => ⟨by simp [go_sem]; omega, by simp [go_sem]⟩
theorem rows_step {x : World} {g k : Nat} {rs : List RunD} {r : RunD} (hr : rs[k]? = some r) (h : RowsAt x g 0 (rs.take k)) (ht : x.there g (k * 11) 11) : RowsAt (x.setCells g (k * 11) r.cells) g 0 (rs.take (k + 1)) := by
  intro j q hj
  rw [List.getElem?_take] at hj
  split at hj
  case isFalse => cases hj
  rename_i hlt
  by_cases e : j = k
  · subst e
    rw [hr] at hj
    cases hj
    have := World.rangeAt_setCells_same x g (j * 11) r.cells ht
    simpa using this
  · have hj' : (rs.take k)[j]? = some q := by rw [List.getElem?_take, if_pos (by omega)]; exact hj
    exact World.rangeAt_setCells_apart (h j q hj') g (k * 11) r.cells (Or.inr (Or.inl (by show 0 + j * 11 + 11 ≤ k * 11; omega)))

end Go.Proofs.YtgehmpnlfnlboaaGreatDoor
/- A list of runs in a row that the call itself made. -/
namespace Go.Proofs.YtgehmpnlfnlboaaGreatDoor
open Go.RowKit
set_option linter.unusedVariables false

def flatR (rs : List RunD) : List Value := rs.flatMap RunD.cells
theorem flatR_len : ∀ rs : List RunD, (flatR rs).length = rs.length * 11
  | [] => rfl
  | r :: rs => by
    have := flatR_len rs
    simp only [flatR, List.flatMap_cons, List.length_append] at this ⊢
    simp only [this, List.length_cons]
    show 11 + rs.length * 11 = _
    omega
theorem flatR_snoc (rs : List RunD) (r : RunD) : flatR (rs ++ [r]) = flatR rs ++ r.cells := by simp [flatR]
theorem flatR_at : ∀ (rs : List RunD) (k : Nat) (r : RunD), rs[k]? = some r → ∀ j, j < 11 → (flatR rs)[k * 11 + j]? = r.cells[j]?
  | [], k, r, h, j, hj => by simp at h
  | q :: rs, 0, r, h, j, hj => by
    simp at h; subst h
    rw [flatR, List.flatMap_cons, List.getElem?_append_left (by show _ < 11; omega)]
    simp
  | q :: rs, k + 1, r, h, j, hj => by
    have ih := flatR_at rs k r (by simpa using h) j hj
    rw [flatR, List.flatMap_cons, List.getElem?_append_right (by show 11 ≤ _; omega)]
    rw [← ih]
    show (flatR rs)[(k + 1) * 11 + j - 11]? = _
    rw [show (k + 1) * 11 + j - 11 = k * 11 + j from by omega]
theorem flatR_one (rs : List RunD) : ∀ u ∈ flatR rs, u.oneCell' = true := by
  intro u hu
  obtain ⟨r, -, h⟩ := List.mem_flatMap.1 hu
  simp [RunD.cells] at h
  rcases h with rfl | rfl | rfl | rfl | rfl | rfl | rfl | rfl | rfl | rfl | rfl <;> rfl

theorem owns_below {x y : World} {base : Nat} {e : TypeId} {size : Nat} {v : Value} {n : Nat} {xs : List Value} (h : x.ownsRow base e size v n xs) (hb : Below x.heap.size x y) : y.ownsRow base e size v n xs :=
  h.kept (row := none) ⟨hb.os, hb.tape, hb.output, hb.size, fun k hk _ => hb.block k hk⟩ (by cases hv : v.ownBlock <;> simp)
theorem owns_ge {x : World} {base : Nat} {e : TypeId} {size : Nat} {v : Value} {n : Nat} {xs : List Value} (h : x.ownsRow base e size v n xs) : ∀ k, v.ownBlock = some k → base ≤ k := fun k hk => (h.lt k hk).1
theorem new_cells (x : World) (N : Nat) (hN : N = x.heap.size) (arr : Array Value) (t : TypeId) (vs : List Value) (hv : arr.toList = vs) : ∀ j u, vs[j]? = some u → (x.alloc (.cells arr t)).cell? ((⟨N, 0, none⟩ : Addr).add j) = some u := by
  intro j u hj
  subst hN hv
  rw [Addr.add_mid, Nat.zero_add, World.cell?_alloc_new]
  simpa using hj
theorem cellsR_one (r : RunD) : ∀ u ∈ r.cells, u.oneCell' = true := fun u hu => flatR_one [r] u (by simpa [flatR] using hu)
end Go.Proofs.YtgehmpnlfnlboaaGreatDoor
/- Rows of texts. -/
namespace Go.Proofs.YtgehmpnlfnlboaaGreatDoor
open Go.RowKit
set_option linter.unusedVariables false

/-- The texts xs lie where the address says. -/
def StrAt (w : World) (a : Option Addr) (xs : List ByteArray) : Prop := xs = [] ∨ ∃ g, a = some ⟨g, 0, none⟩ ∧ g < w.heap.size ∧ ∀ k x, xs[k]? = some x → w.cell? ⟨g, k, none⟩ = some (.string x)
theorem StrAt.keep {w w' : World} {a : Option Addr} {xs : List ByteArray} (h : StrAt w a xs) (hb : Below w.heap.size w w') : StrAt w' a xs := by
  rcases h with h | ⟨g, h1, h2, h3⟩
  · exact Or.inl h
  · exact Or.inr ⟨g, h1, Nat.lt_of_lt_of_le h2 hb.size, fun k x hk => (hb.cell (p := ⟨g, k, none⟩) h2).trans (h3 k x hk)⟩
theorem str_shape {w : World} {base : Nat} {e : TypeId} {v : Value} {n : Nat} {xs : List Value} (h : w.ownsRow base e 1 v n xs) : ∃ a c, v = .slice a n c := by
  rcases h.2 with ⟨h1, h2⟩ | ⟨g, cap, cur, h1, -⟩
  · subst h2; exact ⟨none, 0, h1⟩
  · exact ⟨_, _, h1⟩
theorem str_at {w : World} {base : Nat} {e : TypeId} {a : Option Addr} {c : Nat} {xs : List ByteArray} (h : w.ownsRow base e 1 (.slice a xs.length c) xs.length (xs.map (fun x => .string x))) : StrAt w a xs := by
  obtain ⟨hl, ⟨h0, hn⟩ | ⟨g, cap, cur, h0, hb, hg, hnc, hcm, hcs, htk⟩⟩ := h
  · exact Or.inl (List.length_eq_zero_iff.1 hn)
  · cases h0
    refine Or.inr ⟨g, rfl, (Array.getElem?_eq_some_iff.1 hg).1, fun k x hk => ?_⟩
    have hf : (xs.map (fun x => Value.string x))[k]? = some (.string x) := by rw [List.getElem?_map, hk]; rfl
    rw [← htk, List.getElem?_take] at hf
    split at hf
    · rw [cell_of_row w g _ cur _ (0, 0) hg]
      simpa using hf
    · cases hf
end Go.Proofs.YtgehmpnlfnlboaaGreatDoor
/- What stands in a map, in order: grants. -/
namespace Go.Proofs.YtgehmpnlfnlboaaGreatDoor.G
open Go.RowKit Go.Maps Go.WideMaps
set_option linter.unusedVariables false

/-- What maps.Keys answers. -/
def KeysSay : Prop := ∀ (mb : Option Nat) (Wo : World), Calls Tryz.prog 77 #[.map mb] Wo fun e w' => e = .returned (.func (.func 84) #[] #[.pointer (some ⟨Wo.heap.size, 0, none⟩)]) ∧ w' = Wo.alloc (.cells #[.map mb] 81)
/-- What slices.Sorted answers of it. -/
def SortedSay : Prop := ∀ (b nn : Nat) (rs : List GrantD) (w : World), w.ownsMap Tryz.prog 9 RV b nn (dec rs) → rs.length ≤ 1048576 →
  Calls Tryz.prog 62 #[.func (.func 84) #[] #[.pointer (some ⟨w.heap.size, 0, none⟩)]] (w.alloc (.cells #[.map (some b)] 81)) fun e w' => ∃ (v : Value) (ss : List (List UInt8)), e = .returned v ∧ ss.Perm (strKeys (dec rs)) ∧
    w'.ownsRow (w.alloc (.cells #[.map (some b)] 81)).heap.size 9 1 v ss.length ((ss.mergeSort (fun x y => decide (x ≤ y))).map encStr) ∧ Below (w.alloc (.cells #[.map (some b)] 81)).heap.size (w.alloc (.cells #[.map (some b)] 81)) w'
/-- 'm[k]', k there. -/
theorem atV {w : World} (b n : Nat) (rs : List GrantD) (hown : w.ownsMap Tryz.prog 9 RV b n (dec rs)) (hs : Srt rs) (r : GrantD) (hr : r ∈ rs) (hz : r.h.size ≤ maxLen) :
    Sem.run Tryz.prog (Instr.lookup 81 (.map (some b)) (.string r.h) false) w = .ok (.agg #[.string r.h, .string r.b, .string r.c, .int .i64 r.t, .int .i64 r.u]) w := by
  obtain ⟨v, ps, hrun, hv⟩ := hown.lookup lawV (t := 81) (e := 74) Tryz.underlying81 (zeroV w) (zd := .held ⟨⟨#[]⟩, ⟨#[]⟩, ⟨#[]⟩, 0, 0⟩) (zp := []) rfl (keyOf_string_mk Tryz.underlying9 hz)
  rw [show Lit.string r.h.data.toList = Lit.string (keyV r) from rfl, show (dec rs).atKey (Lit.string (keyV r)) (.held ⟨⟨#[]⟩, ⟨#[]⟩, ⟨#[]⟩, 0, 0⟩) = .held r from Ord.dec_at keyV hs hr _] at hv
  rw [RV_inv hv] at hrun
  exact hrun

theorem enc_key (r : GrantD) : encStr (keyV r) = Value.string r.h := by
  show Value.string ⟨r.h.data.toList.toArray⟩ = _
  rw [Array.toArray_toList]
theorem flat_snoc' {rs : List GrantD} {k : Nat} {r : GrantD} (hr : rs[k]? = some r) : flatR (rs.take (k + 1)) = flatR (rs.take k) ++ r.cells := by
  have hlt : k < rs.length := (List.getElem?_eq_some_iff.1 hr).1
  have he : rs[k] = r := by rw [List.getElem?_eq_getElem hlt] at hr; exact Option.some.inj hr
  rw [List.take_succ_eq_append_getElem hlt, he]
  simp [flatR]

set_option maxRecDepth 4000 in
set_option maxHeartbeats 2000000 in
theorem own_low {w : World} {v : Value} {m : Nat} {xs : List Value} {B B' : Nat} (h : w.ownsRow B 74 5 v m xs) (hB : B' ≤ B) : w.ownsRow B' 74 5 v m xs := by
  obtain ⟨h1, h2 | ⟨g, cap, cur, h3, h4, h5⟩⟩ := h
  · exact ⟨h1, Or.inl h2⟩
  · exact ⟨h1, Or.inr ⟨g, cap, cur, h3, Nat.le_trans hB h4, h5⟩⟩
set_option maxRecDepth 4000 in
set_option maxHeartbeats 2000000 in
theorem inOrderO (hK : KeysSay) (hS : SortedSay) (b nn : Nat) (rs : List GrantD) (w : World) (hown : w.ownsMap Tryz.prog 9 RV b nn (dec rs)) (hs : Srt rs) (hfit : ∀ r ∈ rs, r.h.size ≤ maxLen) (hl : rs.length ≤ 1048576) :
    Calls Tryz.prog 61 #[.map (some b)] w fun e w' => (∃ v, e = .returned v ∧ w'.ownsRow w.heap.size 74 5 v rs.length (flatR rs)) ∧ Below w.heap.size w w' := by
  have HO : Hid (w.ownsMap Tryz.prog 9 RV b nn (dec rs)) := hown
  have HS : Hid (Srt rs) := hs
  have cK : Hid KeysSay := hK
  have cS : Hid SortedSay := hS
  have HF : Hid _ := hfit
  clear hown hs hK hS hfit
  obtain ⟨i0, hi, hz0, hz1, hz2⟩ := info_parts infoR
  go_enter Tryz.func61, Tryz.ntmps61
  go_wp2_with fail
  refine (cK.out _ _).mono ?_
  rintro e w' ⟨rfl, rfl⟩
  go_wp2_with fail
  refine (cS.out b nn rs _ HO.out hl).mono ?_
  rintro e w1 ⟨v, ss, rfl, hp, hrow, hb⟩
  have hlen : ss.length = rs.length := by rw [hp.length_eq, show strKeys (dec rs) = rs.map keyV from Ord.keys_dec keyV rs, List.length_map]
  rw [Ord.sorted_keys keyV HS.out hp, hlen] at hrow
  have B1 : Hid (Below w.heap.size w w1) := bl_trans (bl_alloc (Below.refl _ _) _) hb
  have O1 : Hid (w1.ownsMap Tryz.prog 9 RV b nn (dec rs)) := mapv_below HO.out B1.out
  obtain ⟨a, c, rfl⟩ := str_shape hrow
  have Hrow : Hid (StrAt w1 a (rs.map (fun r => r.h))) := str_at (by rw [List.length_map, List.map_map]; rw [List.map_map, show (encStr ∘ keyV) = ((fun x => Value.string x) ∘ fun r : GrantD => r.h) from funext enc_key] at hrow; exact hrow)
  clear hrow hp hb hlen
  go_wp2_with fail
  go_loopw [3, 10] (fun v i wx => ∃ (k : Nat), k ≤ rs.length ∧ i = .int .i64 k ∧ wx.ownsRow w1.heap.size 74 5 v k (flatR (rs.take k)) ∧ Hid (Below w1.heap.size w1 wx)) (fun _ i _ => rs.length - (intOf i).toNat)
  case atStart => exact ⟨0, Nat.zero_le _, rfl, World.ownsRow_nil _ _ _ _, Below.refl _ _⟩
  case round =>
    obtain ⟨k, hk, rfl, hown, HB⟩ := hrel
    by_cases hlt : k < rs.length
    · obtain ⟨r, hr⟩ : ∃ r, rs[k]? = some r := ⟨rs[k], List.getElem?_eq_getElem hlt⟩
      have Hr : Hid _ := hr
      obtain ⟨g, rfl, hg, hc⟩ := (Hrow.out.keep HB.out).resolve_left (fun h => by rw [List.map_eq_nil_iff] at h; rw [h] at hlt; simp at hlt)
      have c0 := hc k r.h (by rw [List.getElem?_map, hr]; rfl)
      have hlk := atV b nn rs (mapv_below O1.out HB.out) HS.out r (List.mem_of_getElem? hr) (HF.out r (List.mem_of_getElem? hr))
      obtain ⟨xs, hxs⟩ : ∃ xs, xs = flatR (rs.take k) := ⟨_, rfl⟩
      rw [← hxs] at hown
      have Ho : Hid (wr.ownsRow w1.heap.size 74 5 u3 k xs) := hown
      have Hx : Hid _ := hxs
      have hzw : w1.heap.size ≤ wr.heap.size := HB.out.size
      have i1 : (k : Int) < (rs.length : Int) := by omega
      clear hr hown hxs hc
      go_wp2_with (at_builtin; refine wpList_append_own _ rfl _ _ 27 rfl w1.heap.size 74 i0 _ 5 64 Tryz.underlying27 hi hz0 hz1 hz2 rfl (by decide) _ k _ rfl (by exact owns_below Ho.out (by repeat (first | exact Below.refl _ _ | refine bl_alloc ?_ _))) ⟨_, 0, none⟩ 1 1 r.cells rfl rfl (new_cells _ _ (by simp) _ _ _ rfl) (cellsR_one _) (by unfold maxLen; omega) (by omega) (by simp; omega) ?_; intro v' w2 ho2 hg2 hn2)
      refine ⟨⟨k + 1, by omega, by go_num, ?_, Below.grown (by repeat (first | exact HB.out | refine bl_alloc ?_ _)) hg2 (by simp; omega) (owns_ge Ho.out)⟩, by simp [intOf]; omega⟩
      rw [flat_snoc' Hr.out, ← Hx.out]
      exact ho2
    · go_wp2
      go_ret
      have hk' : k = rs.length := by omega
      subst hk'
      rw [List.take_of_length_le (Nat.le_refl _)] at hown
      exact ⟨⟨_, rfl, own_low hown B1.out.size⟩, bl_trans B1.out HB.out⟩
end Go.Proofs.YtgehmpnlfnlboaaGreatDoor.G
/- Lists of wants in memory. -/
namespace Go.Proofs.YtgehmpnlfnlboaaGreatDoor.W
open Go.RowKit
set_option linter.unusedVariables false

theorem toWant_b (c h : ByteArray) (v p s d g : Int) (w : World) :
    Calls Tryz.prog 67 #[.agg #[.string c, .int .i64 v, .string h, .int .i64 p, .int .i64 s, .int .i64 d, .int .i64 g]] w fun e w' => e = .returned (.agg #[.string c, .int .i64 v, .string h, .int .i64 p, .int .i64 s, .int .i64 d, .int .i64 g]) ∧ Below w.heap.size w w' := by
  refine (toWant_any c h v p s d g w).mono ?_
  rintro e w' ⟨rfl, rfl⟩
  exact ⟨rfl, by repeat (first | exact Below.refl _ _ | refine bl_alloc ?_ _)⟩

structure WantD where
  c : ByteArray
  h : ByteArray
  v : Int
  p : Int
  s : Int
  d : Int
  g : Int
def WantD.cells (r : WantD) : List Value := [.string r.c, .int .i64 r.v, .string r.h, .int .i64 r.p, .int .i64 r.s, .int .i64 r.d, .int .i64 r.g]
/-- What a run's parts may be. -/
def WantD.fits (r : WantD) : Prop := r.c.size ≤ maxLen ∧ r.h.size ≤ maxLen
/-- The wants rs lie in block b from off on. -/
def RowsAt (w : World) (b off : Nat) (rs : List WantD) : Prop := ∀ k r, rs[k]? = some r → w.rangeAt b (off + k * 7) r.cells

theorem RowsAt.keep {w w' : World} {b off : Nat} {rs : List WantD} (h : RowsAt w b off rs) (hb : b < w.heap.size) (hB : Below w.heap.size w w') : RowsAt w' b off rs :=
  fun k r hk j v hj => (hB.cell (p := ⟨b, off + k * 7 + j, none⟩) hb).trans (h k r hk j v hj)
theorem RowsAt.at {w : World} {b off : Nat} {rs : List WantD} (h : RowsAt w b off rs) {k : Nat} {r : WantD} (hk : rs[k]? = some r) :
    w.cell? ⟨b, off + k * 7, none⟩ = some (.string r.c) ∧ w.cell? ⟨b, off + k * 7 + 1, none⟩ = some (.int .i64 r.v) ∧ w.cell? ⟨b, off + k * 7 + 2, none⟩ = some (.string r.h) ∧ w.cell? ⟨b, off + k * 7 + 3, none⟩ = some (.int .i64 r.p) ∧ w.cell? ⟨b, off + k * 7 + 4, none⟩ = some (.int .i64 r.s) ∧ w.cell? ⟨b, off + k * 7 + 5, none⟩ = some (.int .i64 r.d) ∧ w.cell? ⟨b, off + k * 7 + 6, none⟩ = some (.int .i64 r.g) :=
  ⟨h k r hk 0 _ rfl, h k r hk 1 _ rfl, h k r hk 2 _ rfl, h k r hk 3 _ rfl, h k r hk 4 _ rfl, h k r hk 5 _ rfl, h k r hk 6 _ rfl⟩

end Go.Proofs.YtgehmpnlfnlboaaGreatDoor.W
