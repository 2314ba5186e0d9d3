import Derived.Test.YtdkjhonaafadjaaGreatJ09
import Derived.Test.YtdkjhonaafadjaaGreatJ01
import Derived.Test.YtdkjhonaafadjaaGreatJ02
import Derived.Laws.MakeOwn
import Derived.Deep.QuietTactic
import Derived.BigQuiet
import Derived.Test.YtdkjhonaafadjaaGreatJ07
/- What the reading of a list of mates says of memory. -/
namespace Go.Proofs.YtdkjhonaafadjaaGreat.Mt
open Go.ChangeShapes Go.WideShapes Go.ChangeAt Go.RowKit

theorem in_shapeW {w : World} {v : Value} {l : List W.WantD} (h : W.In w v l) : ∃ a c, v = .slice a l.length c := by
  rcases h with ⟨rfl, a, cap, rfl⟩ | ⟨b, off, cap, rfl, -⟩
  · exact ⟨a, cap, rfl⟩
  · exact ⟨_, cap, rfl⟩
theorem in_shapeR {w : World} {v : Value} {l : List RunD} (h : Go.Proofs.YtdkjhonaafadjaaGreat.In w v l) : ∃ a c, v = .slice a l.length c := by
  rcases h with ⟨rfl, a, cap, rfl⟩ | ⟨b, off, cap, rfl, -⟩
  · exact ⟨a, cap, rfl⟩
  · exact ⟨_, cap, rfl⟩
theorem in_shapeA {w : World} {v : Value} {l : List A.AskD} (h : A.In w v l) : ∃ a c, v = .slice a l.length c := by
  rcases h with ⟨rfl, a, cap, rfl⟩ | ⟨b, off, cap, rfl, -⟩
  · exact ⟨a, cap, rfl⟩
  · exact ⟨_, cap, rfl⟩
section
variable {H : Type} {enc : TypeId × Value → H} {Z : World} {base : Nat} {spare : Nat → Bool} {held : Bool} {fuel : Nat} {cs : List Value} {x : DataW H × List MemPlace}
/-- A list of mates that came in: it is empty, or lies in a block of old memory. -/
theorem read_mates (hx : DataW.trod enc Tryz.prog Z base spare held fuel 41 cs = some x) :
    (∃ (a : Option Addr) (cap : Nat), cs = [.slice a 0 cap]) ∨
    ∃ (b off cap : Nat) (rs : List MRow), cs = [.slice (some ⟨b, off, none⟩) rs.length cap] ∧ 0 < rs.length ∧ rs.length ≤ maxLen ∧ b < Z.heap.size ∧ RowsAt Z b off rs ∧ ∀ r ∈ rs, r.inn Z := by
  rcases DataW.trod_slice Tryz.underlying41 hx with ⟨hcs, -⟩ | ⟨a, len, cap, elems, rest, n, -, hcs, -, hb, hlc, hcm, hel, hat, -⟩
  · exact Or.inl ⟨none, 0, hcs⟩
  by_cases h0 : len = 0
  · subst h0; exact Or.inl ⟨some a, cap, hcs⟩
  refine Or.inr ?_
  rw [cells_mate] at hat
  have hall : ∀ i, i < len → ∃ r : MRow, Z.cells? base (a.add (i * 9)) 9 = some r.cells ∧ r.inn Z := by
    intro i hi
    have h1 := hat i hi
    rw [List.getElem?_eq_getElem (by omega)] at h1
    obtain ⟨ws, hw, ht⟩ := Option.bind_eq_some_iff.1 h1
    obtain ⟨m, v1, v2, v3, v4, rfl, hn, i1, i2, i3, i4⟩ := read_mate ht
    obtain ⟨a1, c1, rfl⟩ := in_shapeW i1
    obtain ⟨a2, c2, rfl⟩ := in_shapeR i2
    obtain ⟨a3, c3, rfl⟩ := in_shapeA i3
    obtain ⟨a4, c4, rfl⟩ := in_shapeA i4
    exact ⟨⟨m, a1, c1, a2, c2, a3, c3, a4, c4⟩, hw, ⟨hn, i1, i2, i3, i4⟩⟩
  obtain ⟨rs, hlen, hrs⟩ := W.exists_list _ len hall
  have hcell : ∀ i r, rs[i]? = some r → ∀ j v, r.cells[j]? = some v → Z.cell? ((a.add (i * 9)).add j) = some v := by
    intro i r hr j v hj
    obtain ⟨hw, -⟩ := hrs i r hr
    have hlt : j < 9 := by
      rcases Nat.lt_or_ge j 9 with h' | h'
      · exact h'
      · rw [List.getElem?_eq_none (by simpa [MRow.cells] using h')] at hj; cases hj
    have h2 := (World.cells?_some hw).2.2 j hlt
    rw [h2, hj]
  obtain ⟨r0, hr0⟩ : ∃ r, rs[0]? = some r := ⟨rs[0]'(by omega), List.getElem?_eq_getElem (by omega)⟩
  have hc0 := hcell 0 r0 hr0 0 (.string r0.m.nm) rfl
  obtain ⟨b, off, spot⟩ := a
  have hspot : spot = none := by
    have := World.cell?_spot hc0
    simpa [Addr.add] using this
  subst hspot
  have hblk : b < Z.heap.size := World.cells?_block (hrs 0 r0 hr0).1 (by omega)
  refine ⟨b, off, cap, rs, by rw [hlen]; exact hcs, by omega, by omega, hblk, fun i r hr j v hj => ?_, fun r hr => ?_⟩
  · have := hcell i r hr j v hj
    rw [Addr.add_mid, Addr.add_mid] at this
    exact this
  · obtain ⟨i, hi⟩ := List.getElem?_of_mem hr
    exact (hrs i r hi).2
end
end Go.Proofs.YtdkjhonaafadjaaGreat.Mt
/- Lists of texts. -/
namespace Go.Proofs.YtdkjhonaafadjaaGreat.Tx
open Go.RowKit
set_option linter.unusedVariables false

theorem bl_dnT {k : Nat} {w w' : World} (h : Below k w w') {n : Nat} : Below k w (w'.drewN n) := ⟨h.os, h.tape, h.output, h.size, h.block⟩
/-- The texts xs lie in block b from off on. -/
def RowsAt (w : World) (b off : Nat) (xs : List ByteArray) : Prop := ∀ (k : Nat) x, xs[k]? = some x → w.cell? ⟨b, off + k, none⟩ = some (.string x)
theorem RowsAt.keep {w w' : World} {b off : Nat} {xs : List ByteArray} (h : RowsAt w b off xs) (hb : b < w.heap.size) (hB : Below w.heap.size w w') : RowsAt w' b off xs :=
  fun k x hk => (hB.cell (p := ⟨b, off + k, none⟩) hb).trans (h k x hk)
theorem RowsAt.exq {kr : Nat} {w w' : World} {b off : Nat} {xs : List ByteArray} (h : RowsAt w b off xs) (hb : b < w.heap.size) (hE : Ex kr w w') (hne : b ≠ kr) : RowsAt w' b off xs :=
  fun k x hk => (hE.cell (p := ⟨b, off + k, none⟩) hb hne).trans (h k x hk)
/-- A list that came in. -/
def In (w : World) (v : Value) (l : List ByteArray) : Prop := (l = [] ∧ ∃ a cap, v = .slice a 0 cap) ∨ ∃ b off cap, v = .slice (some ⟨b, off, none⟩) l.length cap ∧ l.length ≤ maxLen ∧ b < w.heap.size ∧ RowsAt w b off l ∧ ∀ x ∈ l, x.size ≤ maxLen
theorem In.keep {w w' : World} {v : Value} {l : List ByteArray} (h : In w v l) (hb : Below w.heap.size w w') : In w' v l := by
  rcases h with h | ⟨b, off, cap, h1, h2, h3, h4, h5⟩
  · exact Or.inl h
  · exact Or.inr ⟨b, off, cap, h1, h2, Nat.lt_of_lt_of_le h3 hb.size, h4.keep h3 hb, h5⟩
theorem In.fits {w : World} {v : Value} {l : List ByteArray} (h : In w v l) : ∀ x ∈ l, x.size ≤ maxLen := by
  rcases h with ⟨rfl, _⟩ | ⟨b, off, cap, h1, h2, h3, h4, h5⟩
  · intro x hx; cases hx
  · exact h5

set_option maxHeartbeats 1000000 in
theorem szStringS (b off cap : Nat) (xs : List ByteArray) (left : Int) (w : World) (hR : RowsAt w b off xs) (hb : b < w.heap.size) (hf : ∀ x ∈ xs, x.size ≤ maxLen) (h0 : 0 ≤ left) (h1 : left ≤ 1048576) (hl : xs.length ≤ maxLen) :
    Calls Tryz.prog 7 #[.slice (some ⟨b, off, none⟩) xs.length cap, .int .i64 left] w fun e w' => (e = .returned (.int .i64 (-1)) ∨ ∃ m : Int, e = .returned (.int .i64 m) ∧ 0 ≤ m ∧ m ≤ 1048576 ∧ (xs.length : Int) ≤ left) ∧ Below w.heap.size w w' := by
  unfold maxLen at hl
  have HF : Hid _ := hf
  clear hf
  by_cases hn : (xs.length : Int) ≤ left
  · go_enter Tryz.func7, Tryz.ntmps7
    go_wp2
    go_loopw [1, 5] (fun l i wx => ∃ (k : Nat) (lv : Int), k ≤ xs.length ∧ i = .int .i64 k ∧ l = .int .i64 lv ∧ 0 ≤ lv ∧ lv ≤ 1048576 ∧ Hid (Below w.heap.size w wx)) (fun _ i _ => xs.length - (intOf i).toNat)
    case atStart => exact ⟨0, _, Nat.zero_le _, rfl, rfl, by omega, by omega, Below.refl _ _⟩
    case round =>
      obtain ⟨k, lv, hk, rfl, rfl, l0, l1, HB⟩ := hrel
      by_cases hlt : k < xs.length
      · obtain ⟨x, hx⟩ : ∃ x, xs[k]? = some x := ⟨xs[k], List.getElem?_eq_getElem hlt⟩
        have c0 := (hR.keep hb HB.out) k x hx
        have hs := HF.out x (List.mem_of_getElem? hx)
        unfold maxLen at hs
        clear hx
        by_cases hle : (x.size : Int) ≤ lv
        · go_wp2
          exact ⟨⟨k + 1, _, by omega, by go_num, rfl, by omega, by omega, HB.out⟩, by simp [intOf]; omega⟩
        · go_wp2
          go_ret
          exact ⟨Or.inl rfl, HB.out⟩
      · go_wp2
        go_ret
        exact ⟨Or.inr ⟨_, rfl, l0, l1, hn⟩, HB.out⟩
  · go_enter Tryz.func7, Tryz.ntmps7
    go_wp2
    go_ret
    exact ⟨Or.inl rfl, Below.refl _ _⟩
theorem sz_nil (a : Option Addr) (cap : Nat) (left : Int) (w : World) (h0 : 0 ≤ left) (h1 : left ≤ 1048576) :
    Calls Tryz.prog 7 #[.slice a 0 cap, .int .i64 left] w fun e w' => e = .returned (.int .i64 left) ∧ w' = w := by
  go_enter Tryz.func7, Tryz.ntmps7
  go_wp2
  refine wp_loop_rounds 1 ?_
  rw [rounds_succ]
  go_wp2
  go_ret
  exact ⟨rfl, rfl⟩
theorem sz_in {w : World} {v : Value} {l : List ByteArray} (h : In w v l) (left : Int) (h0 : 0 ≤ left) (h1 : left ≤ 1048576) :
    Calls Tryz.prog 7 #[v, .int .i64 left] w fun e w' => (e = .returned (.int .i64 (-1)) ∨ ∃ m : Int, e = .returned (.int .i64 m) ∧ 0 ≤ m ∧ m ≤ 1048576 ∧ l.length ≤ 1048576) ∧ Below w.heap.size w w' := by
  rcases h with ⟨rfl, a, cap, rfl⟩ | ⟨b, off, cap, rfl, k2, k3, k4, k5⟩
  · refine (sz_nil a cap left w h0 h1).mono ?_
    rintro e w' ⟨rfl, rfl⟩
    exact ⟨Or.inr ⟨left, rfl, h0, h1, by simp⟩, Below.refl _ _⟩
  · refine (szStringS b off cap l left w k4 k3 k5 h0 h1 k2).mono ?_
    rintro e w' ⟨rfl | ⟨m, rfl, m0, m1, hn⟩, hb⟩
    · exact ⟨Or.inl rfl, hb⟩
    · exact ⟨Or.inr ⟨m, rfl, m0, m1, by omega⟩, hb⟩

theorem make_texts (n : Nat) (hn : n ≤ 1048576) : ∃ C : Array Value, C.size = n * 1 ∧ ∀ w : World, Sem.run Tryz.prog (Instr.makeSlice 22 (.int .i64 (n : Int)) (.int .i64 (n : Int))) w = .ok (.slice (some ⟨w.heap.size, 0, none⟩) n n) (w.alloc (.cells C 9)) := by
  have hq : (Tryz.prog.info? 9).map (fun i => (i.size, i.bytes, i.zero)) = some (1, 16, some (.string ⟨#[]⟩)) := by kernel_rfl
  cases hi : Tryz.prog.info? 9 with
  | none => rw [hi] at hq; simp at hq
  | some i =>
    rw [hi] at hq
    simp only [Option.map_some, Option.some.injEq, Prod.mk.injEq] at hq
    obtain ⟨h1, h2, h3⟩ := hq
    refine ⟨madeCells (Value.cells (.string ⟨#[]⟩)) (n * i.size), (size_madeCells _ _).trans (by rw [h1]), fun w => ?_⟩
    have := run_make (P := Tryz.prog) w 22 9 i _ Tryz.underlying22 hi h3 .i64 .i64 n n (by omega) (by omega) (by rw [h2]; omega) (by omega)
    simpa using this

theorem there_new {w : World} {C : Array Value} {t : TypeId} {n : Nat} (hC : C.size = n * 1) : (w.alloc (.cells C t)).there w.heap.size 0 n :=
  fun j hj => ⟨by simp [go_sem]; omega, by simp [go_sem]⟩
theorem rows_step {x : World} {g k : Nat} {xs : List ByteArray} {r : ByteArray} (hr : xs[k]? = some r) (h : RowsAt x g 0 (xs.take k)) (ht : ∃ v, x.cell? ⟨g, k, none⟩ = some v) : RowsAt (x.setCell ⟨g, k, none⟩ (.string r)) g 0 (xs.take (k + 1)) := by
  intro j q hj
  rw [List.getElem?_take] at hj
  split at hj
  case isFalse => cases hj
  rename_i hlt
  rw [Nat.zero_add]
  by_cases e : j = k
  · subst e
    rw [hr] at hj
    cases hj
    obtain ⟨v, hv⟩ := ht
    exact World.cell?_setCell_same _ _ _ hv
  · rw [World.cell?_setCell_other _ _ _ _ (fun h' => e (by have := congrArg Addr.off h'; exact this.symm))]
    have := h j q (by rw [List.getElem?_take, if_pos (by omega)]; exact hj)
    rwa [Nat.zero_add] at this

set_option maxRecDepth 4000 in
set_option maxHeartbeats 2000000 in
theorem toStringS (b off cap : Nat) (xs : List ByteArray) (w : World) (hR : RowsAt w b off xs) (hb : b < w.heap.size) (hl : xs.length ≤ 1048576) :
    Calls Tryz.prog 9 #[.slice (some ⟨b, off, none⟩) xs.length cap] w fun e w' => e = .returned (.slice (some ⟨w.heap.size, 0, none⟩) xs.length xs.length) ∧ RowsAt w' w.heap.size 0 xs ∧ w'.there w.heap.size 0 xs.length ∧ w.heap.size < w'.heap.size ∧ Below w.heap.size w w' := by
  obtain ⟨C, hC, hmk⟩ := make_texts xs.length hl
  go_enter Tryz.func9, Tryz.ntmps9
  go_wp2
  go_loopw [4] (fun i wx => ∃ (k : Nat), k ≤ xs.length ∧ i = .int .i64 k ∧ Hid (RowsAt wx w.heap.size 0 (xs.take k)) ∧ Hid (wx.there w.heap.size 0 xs.length) ∧ w.heap.size < wx.heap.size ∧ Hid (Below w.heap.size w wx)) (fun i _ => xs.length - (intOf i).toNat)
  case atStart => exact ⟨0, Nat.zero_le _, rfl, (fun k r h => by simp at h), there_new hC, by simp, bl_alloc (Below.refl _ _) _⟩
  case round =>
    obtain ⟨k, hk, rfl, Hq, Ht, hgz, HB⟩ := hrel
    clear hmk
    by_cases hlt : k < xs.length
    · obtain ⟨x, hx⟩ : ∃ x, xs[k]? = some x := ⟨xs[k], List.getElem?_eq_getElem hlt⟩
      have c0 := (hR.keep hb HB.out) k x hx
      have Hx : Hid (xs[k]? = some x) := hx
      have ht := Ht.out k (by omega)
      rw [Nat.zero_add] at ht
      obtain ⟨v0, e0⟩ := Option.isSome_iff_exists.1 ht.1
      have f0 := ht.2
      have hne : b ≠ w.heap.size := by omega
      clear hx ht
      go_wp2
      exact ⟨⟨k + 1, by omega, by go_num, rows_step Hx.out Hq.out ⟨v0, e0⟩, World.there_setCells Ht.out w.heap.size k [.string x], Nat.lt_of_lt_of_le hgz ((Ex.refl w.heap.size _).set k (.string x)).size, Ex.mono HB.out ((Ex.refl w.heap.size _).set k (.string x)) (Nat.le_refl _)⟩, by simp [intOf]; omega⟩
    · go_wp2
      go_ret
      have e : xs.take k = xs := List.take_of_length_le (by omega)
      have := Hq.out
      rw [e] at this
      exact ⟨rfl, this, Ht.out, hgz, HB.out⟩
theorem to_nil (a : Option Addr) (cap : Nat) (w : World) :
    Calls Tryz.prog 9 #[.slice a 0 cap] w fun e w' => e = .returned (.slice (some ⟨w.heap.size, 0, none⟩) 0 0) ∧ w.heap.size < w'.heap.size ∧ Below w.heap.size w w' := by
  obtain ⟨C, hC, hmk0⟩ := make_texts 0 (by omega)
  have hmk : ∀ w : World, Sem.run Tryz.prog (Instr.makeSlice 22 (.int .i64 0) (.int .i64 0)) w = .ok (.slice (some ⟨w.heap.size, 0, none⟩) 0 0) (w.alloc (.cells C 9)) := fun w => hmk0 w
  clear hmk0 hC
  go_enter Tryz.func9, Tryz.ntmps9
  go_wp2
  refine wp_loop_rounds 1 ?_
  rw [rounds_succ]
  go_wp2
  go_ret
  exact ⟨rfl, by simp, bl_alloc (Below.refl _ _) _⟩
theorem to_in {w : World} {v : Value} {l : List ByteArray} (h : In w v l) (hl : l.length ≤ 1048576) :
    Calls Tryz.prog 9 #[v] w fun e w' => e = .returned (.slice (some ⟨w.heap.size, 0, none⟩) l.length l.length) ∧ RowsAt w' w.heap.size 0 l ∧ w'.there w.heap.size 0 l.length ∧ w.heap.size < w'.heap.size ∧ Below w.heap.size w w' := by
  rcases h with ⟨rfl, a, cap, rfl⟩ | ⟨b, off, cap, rfl, k2, k3, k4, k5⟩
  · refine (to_nil a cap w).mono ?_
    rintro e w' ⟨rfl, h1, h2⟩
    exact ⟨rfl, (fun k r h => by simp at h), (fun j hj => by simp at hj), h1, h2⟩
  · exact toStringS b off cap l w k4 k3 hl

set_option maxHeartbeats 1000000 in
theorem eqStringS (b1 o1 n1 b2 o2 n2 : Nat) (xs : List ByteArray) (w : World) (h1 : RowsAt w b1 o1 xs) (h2 : RowsAt w b2 o2 xs) (hl : xs.length ≤ 1048576) :
    Calls Tryz.prog 12 #[.slice (some ⟨b1, o1, none⟩) xs.length n1, .slice (some ⟨b2, o2, none⟩) xs.length n2] w fun e w' => e = .returned (.bool true) ∧ Below w.heap.size w w' := by
  go_enter Tryz.func12, Tryz.ntmps12
  go_wp2
  go_loopw [5] (fun i wx => ∃ (k : Nat), k ≤ xs.length ∧ i = .int .i64 k ∧ Hid (Below w.heap.size w wx) ∧ (∀ a, wx.cell? a = w.cell? a)) (fun i _ => xs.length - (intOf i).toNat)
  case atStart => exact ⟨0, Nat.zero_le _, rfl, Below.refl _ _, fun _ => rfl⟩
  case round =>
    obtain ⟨k, hk, rfl, HB, hc⟩ := hrel
    by_cases hlt : k < xs.length
    · obtain ⟨x, hx⟩ : ∃ x, xs[k]? = some x := ⟨xs[k], List.getElem?_eq_getElem hlt⟩
      have c1 := (hc _).trans (h1 k x hx)
      have c2 := (hc _).trans (h2 k x hx)
      have HC : Hid (∀ a, wr.cell? a = w.cell? a) := hc
      have i0 : (0 : Int) ≤ (k : Int) := by omega
      have i1 : (k : Int) < (xs.length : Int) := by omega
      clear hx hc
      go_wp2_with fail
      go_quiet (fail)
      go_wp2
      exact ⟨⟨k + 1, by omega, by go_num, bl_dnT HB.out, fun a => by rw [← HC.out a]; simp⟩, by simp [intOf]; omega⟩
    · go_wp2
      go_ret
      exact ⟨rfl, HB.out⟩
end Go.Proofs.YtdkjhonaafadjaaGreat.Tx
/- What the reading of a list of texts says of memory. -/
namespace Go.Proofs.YtdkjhonaafadjaaGreat.Tx
open Go.ChangeShapes Go.WideShapes Go.ChangeAt Go.RowKit

section
variable {H : Type} {enc : TypeId × Value → H} {Z : World} {base : Nat} {spare : Nat → Bool} {held : Bool} {fuel : Nat} {cs : List Value} {x : DataW H × List MemPlace}
/-- A list of texts that came in: it is empty, or lies in a block of old memory. -/
theorem read_texts (hx : DataW.trod enc Tryz.prog Z base spare held fuel 22 cs = some x) :
    (∃ (a : Option Addr) (cap : Nat), cs = [.slice a 0 cap]) ∨
    ∃ (b off cap : Nat) (rs : List ByteArray), cs = [.slice (some ⟨b, off, none⟩) rs.length cap] ∧ 0 < rs.length ∧ rs.length ≤ maxLen ∧ b < Z.heap.size ∧ RowsAt Z b off rs ∧ ∀ r ∈ rs, r.size ≤ maxLen := by
  rcases DataW.trod_slice Tryz.underlying22 hx with ⟨hcs, -⟩ | ⟨a, len, cap, elems, rest, n, -, hcs, -, hb, hlc, hcm, hel, hat, -⟩
  · exact Or.inl ⟨none, 0, hcs⟩
  by_cases h0 : len = 0
  · subst h0; exact Or.inl ⟨some a, cap, hcs⟩
  refine Or.inr ?_
  rw [cells_string] at hat
  have hall : ∀ i, i < len → ∃ r : ByteArray, Z.cells? base (a.add (i * 1)) 1 = some [.string r] ∧ r.size ≤ maxLen := by
    intro i hi
    have h1 := hat i hi
    rw [List.getElem?_eq_getElem (by omega)] at h1
    obtain ⟨ws, hw, ht⟩ := Option.bind_eq_some_iff.1 h1
    obtain ⟨r, rfl, -, w0⟩ := DataW.trod_string Tryz.underlying9 ht
    exact ⟨r, hw, w0⟩
  obtain ⟨rs, hlen, hrs⟩ := W.exists_list _ len hall
  have hcell : ∀ i r, rs[i]? = some r → Z.cell? (a.add (i * 1)) = some (.string r) := by
    intro i r hr
    obtain ⟨hw, -⟩ := hrs i r hr
    have h2 := (World.cells?_some hw).2.2 0 (by omega)
    have e0 : (a.add (i * 1)).add 0 = a.add (i * 1) := by simp [Addr.add]
    rw [e0] at h2
    rw [h2]; rfl
  obtain ⟨r0, hr0⟩ : ∃ r, rs[0]? = some r := ⟨rs[0]'(by omega), List.getElem?_eq_getElem (by omega)⟩
  have hc0 := hcell 0 r0 hr0
  obtain ⟨b, off, spot⟩ := a
  have hspot : spot = none := by
    have := World.cell?_spot hc0
    simpa [Addr.add] using this
  subst hspot
  have hblk : b < Z.heap.size := World.cells?_block (hrs 0 r0 hr0).1 (by omega)
  refine ⟨b, off, cap, rs, by rw [hlen]; exact hcs, by omega, by omega, hblk, fun i r hr => ?_, fun r hr => ?_⟩
  · have := hcell i r hr
    rw [Addr.add_mid, Nat.mul_one] at this
    exact this
  · obtain ⟨i, hi⟩ := List.getElem?_of_mem hr
    exact (hrs i r hi).2
end
end Go.Proofs.YtdkjhonaafadjaaGreat.Tx
/- A mate is copied. -/
namespace Go.Proofs.YtdkjhonaafadjaaGreat
open Go.RowKit
set_option linter.unusedVariables false

/-- While a mate is copied: what came in, what is laid out so far. -/
structure St (w : World) (L O : Array Value) (x : World) : Prop where
  a : ∀ k, x.cell? ⟨w.heap.size, k, none⟩ = L[k]?
  b : ∀ k, x.cell? ⟨w.heap.size + 1 + 1, k, none⟩ = O[k]?
  c : ∀ k, x.frozen? ⟨w.heap.size + 1 + 1, k, none⟩ = false
  d : x.there (w.heap.size + 1) 0 9
  e : Below w.heap.size w x
  f : w.heap.size + 1 + 1 < x.heap.size
theorem St.below {w x y : World} {L O : Array Value} (h : St w L O x) (hb : Below x.heap.size x y) : St w L O y :=
  have hf := h.f
  ⟨fun k => (hb.cell (p := ⟨w.heap.size, k, none⟩) (by show w.heap.size < _; omega)).trans (h.a k), fun k => (hb.cell (p := ⟨w.heap.size + 1 + 1, k, none⟩) hf).trans (h.b k), fun k => (hb.frozen (p := ⟨w.heap.size + 1 + 1, k, none⟩) hf).trans (h.c k),
    fun j hj => ⟨by rw [hb.cell (p := ⟨w.heap.size + 1, 0 + j, none⟩) (by show w.heap.size + 1 < _; omega)]; exact (h.d j hj).1, by rw [hb.frozen (p := ⟨w.heap.size + 1, 0 + j, none⟩) (by show w.heap.size + 1 < _; omega)]; exact (h.d j hj).2⟩,
    bl_trans h.e hb, Nat.lt_of_lt_of_le hf hb.size⟩
theorem St.set {w x : World} {L O : Array Value} (h : St w L O x) (j : Nat) (hj : j < O.size) (u : Value) : St w L (O.setIfInBounds j u) (x.setCell ⟨w.heap.size + 1 + 1, j, none⟩ u) := by
  have he : Ex (w.heap.size + 1 + 1) x (x.setCell ⟨w.heap.size + 1 + 1, j, none⟩ u) := (Ex.refl _ _).set j u
  have hf := h.f
  refine ⟨fun k => (he.cell (p := ⟨w.heap.size, k, none⟩) (by show w.heap.size < _; omega) (by show w.heap.size ≠ _; omega)).trans (h.a k), fun k => ?_, fun k => ?_, there_ex h.d (by omega) he (by omega), bl_set (p := ⟨w.heap.size + 1 + 1, j, none⟩) h.e (by show w.heap.size ≤ w.heap.size + 1 + 1; omega) u, Nat.lt_of_lt_of_le hf he.size⟩
  · by_cases e : k = j
    · subst e
      have h1 := h.b k
      have h2 := h.c k
      rw [Array.getElem?_eq_getElem hj] at h1
      rw [Array.getElem?_setIfInBounds_self_of_lt hj]
      exact World.cell?_setCell_same _ _ _ h1
    · rw [Array.getElem?_setIfInBounds_ne (fun h' => e h'.symm), ← h.b k]
      exact World.cell?_setCell_other _ _ _ _ (fun h' => e (by have := congrArg Addr.off h'; exact this.symm))
  · rw [World.frozen?_setCell]; exact h.c k
theorem st_new (m : MateD) (v1 v2 v3 v4 : Value) (w : World) : St w #[.string m.nm, .bool m.up, .int .i64 m.ck, .bool m.kn, .int .i64 m.se, v1, v2, v3, v4] #[.string m.nm, .bool m.up, .int .i64 m.ck, .bool m.kn, .int .i64 m.se, .slice none 0 0, .slice none 0 0, .slice none 0 0, .slice none 0 0] ((((w.alloc (.cells #[.string m.nm, .bool m.up, .int .i64 m.ck, .bool m.kn, .int .i64 m.se, v1, v2, v3, v4] 99))).alloc (.cells #[.string { data := #[] }, .bool false, .int .i64 0, .bool false, .int .i64 0, .slice none 0 0, .slice none 0 0, .slice none 0 0, .slice none 0 0] 52)).alloc (.cells #[.string m.nm, .bool m.up, .int .i64 m.ck, .bool m.kn, .int .i64 m.se, .slice none 0 0, .slice none 0 0, .slice none 0 0, .slice none 0 0] 52)) := by
  refine ⟨fun k => by simp [go_sem, World.cell?_alloc_past], fun k => by simp [go_sem], fun k => by simp [go_sem], fun j hj => ⟨by simp [go_sem, World.cell?_alloc_past] <;> omega, by simp [go_sem]⟩, bl_alloc (bl_alloc (bl_alloc (Below.refl _ _) _) _) _, by simp⟩

set_option maxRecDepth 4000 in
set_option maxHeartbeats 4000000 in
theorem toMate_any (m : MateD) (v1 v2 v3 v4 : Value) (w : World) (i1 : W.In w v1 m.ws) (i2 : In w v2 m.rs) (i3 : A.In w v3 m.qs) (i4 : A.In w v4 m.gs) (l1 : m.ws.length ≤ 1048576) (l2 : m.rs.length ≤ 1048576) (l3 : m.qs.length ≤ 1048576) (l4 : m.gs.length ≤ 1048576) :
    Calls Tryz.prog 79 #[.agg #[.string m.nm, .bool m.up, .int .i64 m.ck, .bool m.kn, .int .i64 m.se, v1, v2, v3, v4]] w fun e w' => ∃ b1 b2 b3 b4, e = .returned (.agg #[.string m.nm, .bool m.up, .int .i64 m.ck, .bool m.kn, .int .i64 m.se, .slice (some ⟨b1, 0, none⟩) m.ws.length m.ws.length, .slice (some ⟨b2, 0, none⟩) m.rs.length m.rs.length, .slice (some ⟨b3, 0, none⟩) m.qs.length m.qs.length, .slice (some ⟨b4, 0, none⟩) m.gs.length m.gs.length]) ∧ Lists w' m b1 b2 b3 b4 ∧ Below w.heap.size w w' := by
  have S0 : Hid (St w #[.string m.nm, .bool m.up, .int .i64 m.ck, .bool m.kn, .int .i64 m.se, v1, v2, v3, v4] #[.string m.nm, .bool m.up, .int .i64 m.ck, .bool m.kn, .int .i64 m.se, .slice none 0 0, .slice none 0 0, .slice none 0 0, .slice none 0 0] ((((w.alloc (.cells #[.string m.nm, .bool m.up, .int .i64 m.ck, .bool m.kn, .int .i64 m.se, v1, v2, v3, v4] 99))).alloc (.cells #[.string { data := #[] }, .bool false, .int .i64 0, .bool false, .int .i64 0, .slice none 0 0, .slice none 0 0, .slice none 0 0, .slice none 0 0] 52)).alloc (.cells #[.string m.nm, .bool m.up, .int .i64 m.ck, .bool m.kn, .int .i64 m.se, .slice none 0 0, .slice none 0 0, .slice none 0 0, .slice none 0 0] 52))) := st_new m v1 v2 v3 v4 w
  have hinfo : (Tryz.prog.info? 52).map (·.size) = some 9 := by kernel_rfl
  go_enter Tryz.func79, Tryz.ntmps79
  go_wp2_with fail
  have hto1 := W.to_in (i1.keep S0.out.e) l1
  refine hto1.mono ?_
  clear hto1
  rintro e w1 ⟨rfl, r1, z1, c1⟩
  have T1 : Hid (St w #[.string m.nm, .bool m.up, .int .i64 m.ck, .bool m.kn, .int .i64 m.se, v1, v2, v3, v4] #[.string m.nm, .bool m.up, .int .i64 m.ck, .bool m.kn, .int .i64 m.se, .slice none 0 0, .slice none 0 0, .slice none 0 0, .slice none 0 0] w1) := S0.out.below c1
  have ka1 := T1.out.a
  have ko1 := T1.out.b
  have kf1 := T1.out.c
  have kz1 := T1.out.f
  obtain ⟨B1, hB1⟩ : ∃ B, B = ((((w.alloc (.cells #[.string m.nm, .bool m.up, .int .i64 m.ck, .bool m.kn, .int .i64 m.se, v1, v2, v3, v4] 99))).alloc (.cells #[.string { data := #[] }, .bool false, .int .i64 0, .bool false, .int .i64 0, .slice none 0 0, .slice none 0 0, .slice none 0 0, .slice none 0 0] 52)).alloc (.cells #[.string m.nm, .bool m.up, .int .i64 m.ck, .bool m.kn, .int .i64 m.se, .slice none 0 0, .slice none 0 0, .slice none 0 0, .slice none 0 0] 52)).heap.size := ⟨_, rfl⟩
  have HB1 : Hid (w.heap.size + 1 + 1 < B1) := by rw [hB1]; exact S0.out.f
  have Q1 : Hid (W.RowsAt w1 B1 0 m.ws) := by rw [hB1]; exact r1
  have LT1 : Hid (B1 < w1.heap.size) := by rw [hB1]; exact z1
  have Y1 : Hid (Below ((((w.alloc (.cells #[.string m.nm, .bool m.up, .int .i64 m.ck, .bool m.kn, .int .i64 m.se, v1, v2, v3, v4] 99))).alloc (.cells #[.string { data := #[] }, .bool false, .int .i64 0, .bool false, .int .i64 0, .slice none 0 0, .slice none 0 0, .slice none 0 0, .slice none 0 0] 52)).alloc (.cells #[.string m.nm, .bool m.up, .int .i64 m.ck, .bool m.kn, .int .i64 m.se, .slice none 0 0, .slice none 0 0, .slice none 0 0, .slice none 0 0] 52)).heap.size ((((w.alloc (.cells #[.string m.nm, .bool m.up, .int .i64 m.ck, .bool m.kn, .int .i64 m.se, v1, v2, v3, v4] 99))).alloc (.cells #[.string { data := #[] }, .bool false, .int .i64 0, .bool false, .int .i64 0, .slice none 0 0, .slice none 0 0, .slice none 0 0, .slice none 0 0] 52)).alloc (.cells #[.string m.nm, .bool m.up, .int .i64 m.ck, .bool m.kn, .int .i64 m.se, .slice none 0 0, .slice none 0 0, .slice none 0 0, .slice none 0 0] 52)) w1) := c1
  rw [← hB1]
  clear hB1 r1 z1 c1
  have S1 : Hid (St w #[.string m.nm, .bool m.up, .int .i64 m.ck, .bool m.kn, .int .i64 m.se, v1, v2, v3, v4] #[.string m.nm, .bool m.up, .int .i64 m.ck, .bool m.kn, .int .i64 m.se, .slice (some ⟨B1, 0, none⟩) m.ws.length m.ws.length, .slice none 0 0, .slice none 0 0, .slice none 0 0] (w1.setCell ⟨w.heap.size + 1 + 1, 5, none⟩ (.slice (some ⟨B1, 0, none⟩) m.ws.length m.ws.length))) := T1.out.set 5 (by simp) _
  have X1 : Hid (Ex (w.heap.size + 1 + 1) w1 (w1.setCell ⟨w.heap.size + 1 + 1, 5, none⟩ (.slice (some ⟨B1, 0, none⟩) m.ws.length m.ws.length))) := Ex.set (Ex.refl _ _) 5 _
  go_wp2_with fail
  clear ka1 ko1 kf1
  have hto2 := to_in (i2.keep S1.out.e) l2
  refine hto2.mono ?_
  clear hto2
  rintro e w2 ⟨rfl, r2, z2, c2⟩
  have T2 : Hid (St w #[.string m.nm, .bool m.up, .int .i64 m.ck, .bool m.kn, .int .i64 m.se, v1, v2, v3, v4] #[.string m.nm, .bool m.up, .int .i64 m.ck, .bool m.kn, .int .i64 m.se, .slice (some ⟨B1, 0, none⟩) m.ws.length m.ws.length, .slice none 0 0, .slice none 0 0, .slice none 0 0] w2) := S1.out.below c2
  have ka2 := T2.out.a
  have ko2 := T2.out.b
  have kf2 := T2.out.c
  have kz2 := T2.out.f
  obtain ⟨B2, hB2⟩ : ∃ B, B = (w1.setCell ⟨w.heap.size + 1 + 1, 5, none⟩ (.slice (some ⟨B1, 0, none⟩) m.ws.length m.ws.length)).heap.size := ⟨_, rfl⟩
  have HB2 : Hid (w.heap.size + 1 + 1 < B2) := by rw [hB2]; exact S1.out.f
  have Q2 : Hid (RowsAt w2 B2 0 m.rs) := by rw [hB2]; exact r2
  have LT2 : Hid (B2 < w2.heap.size) := by rw [hB2]; exact z2
  have Y2 : Hid (Below (w1.setCell ⟨w.heap.size + 1 + 1, 5, none⟩ (.slice (some ⟨B1, 0, none⟩) m.ws.length m.ws.length)).heap.size (w1.setCell ⟨w.heap.size + 1 + 1, 5, none⟩ (.slice (some ⟨B1, 0, none⟩) m.ws.length m.ws.length)) w2) := c2
  rw [← hB2]
  clear hB2 r2 z2 c2
  have S2 : Hid (St w #[.string m.nm, .bool m.up, .int .i64 m.ck, .bool m.kn, .int .i64 m.se, v1, v2, v3, v4] #[.string m.nm, .bool m.up, .int .i64 m.ck, .bool m.kn, .int .i64 m.se, .slice (some ⟨B1, 0, none⟩) m.ws.length m.ws.length, .slice (some ⟨B2, 0, none⟩) m.rs.length m.rs.length, .slice none 0 0, .slice none 0 0] (w2.setCell ⟨w.heap.size + 1 + 1, 6, none⟩ (.slice (some ⟨B2, 0, none⟩) m.rs.length m.rs.length))) := T2.out.set 6 (by simp) _
  have X2 : Hid (Ex (w.heap.size + 1 + 1) w2 (w2.setCell ⟨w.heap.size + 1 + 1, 6, none⟩ (.slice (some ⟨B2, 0, none⟩) m.rs.length m.rs.length))) := Ex.set (Ex.refl _ _) 6 _
  go_wp2_with fail
  clear ka2 ko2 kf2
  have hto3 := A.to_in (i3.keep S2.out.e) l3
  refine hto3.mono ?_
  clear hto3
  rintro e w3 ⟨rfl, r3, z3, c3⟩
  have T3 : Hid (St w #[.string m.nm, .bool m.up, .int .i64 m.ck, .bool m.kn, .int .i64 m.se, v1, v2, v3, v4] #[.string m.nm, .bool m.up, .int .i64 m.ck, .bool m.kn, .int .i64 m.se, .slice (some ⟨B1, 0, none⟩) m.ws.length m.ws.length, .slice (some ⟨B2, 0, none⟩) m.rs.length m.rs.length, .slice none 0 0, .slice none 0 0] w3) := S2.out.below c3
  have ka3 := T3.out.a
  have ko3 := T3.out.b
  have kf3 := T3.out.c
  have kz3 := T3.out.f
  obtain ⟨B3, hB3⟩ : ∃ B, B = (w2.setCell ⟨w.heap.size + 1 + 1, 6, none⟩ (.slice (some ⟨B2, 0, none⟩) m.rs.length m.rs.length)).heap.size := ⟨_, rfl⟩
  have HB3 : Hid (w.heap.size + 1 + 1 < B3) := by rw [hB3]; exact S2.out.f
  have Q3 : Hid (A.RowsAt w3 B3 0 m.qs) := by rw [hB3]; exact r3
  have LT3 : Hid (B3 < w3.heap.size) := by rw [hB3]; exact z3
  have Y3 : Hid (Below (w2.setCell ⟨w.heap.size + 1 + 1, 6, none⟩ (.slice (some ⟨B2, 0, none⟩) m.rs.length m.rs.length)).heap.size (w2.setCell ⟨w.heap.size + 1 + 1, 6, none⟩ (.slice (some ⟨B2, 0, none⟩) m.rs.length m.rs.length)) w3) := c3
  rw [← hB3]
  clear hB3 r3 z3 c3
  have S3 : Hid (St w #[.string m.nm, .bool m.up, .int .i64 m.ck, .bool m.kn, .int .i64 m.se, v1, v2, v3, v4] #[.string m.nm, .bool m.up, .int .i64 m.ck, .bool m.kn, .int .i64 m.se, .slice (some ⟨B1, 0, none⟩) m.ws.length m.ws.length, .slice (some ⟨B2, 0, none⟩) m.rs.length m.rs.length, .slice (some ⟨B3, 0, none⟩) m.qs.length m.qs.length, .slice none 0 0] (w3.setCell ⟨w.heap.size + 1 + 1, 7, none⟩ (.slice (some ⟨B3, 0, none⟩) m.qs.length m.qs.length))) := T3.out.set 7 (by simp) _
  have X3 : Hid (Ex (w.heap.size + 1 + 1) w3 (w3.setCell ⟨w.heap.size + 1 + 1, 7, none⟩ (.slice (some ⟨B3, 0, none⟩) m.qs.length m.qs.length))) := Ex.set (Ex.refl _ _) 7 _
  go_wp2_with fail
  clear ka3 ko3 kf3
  have hto4 := A.to_in (i4.keep S3.out.e) l4
  refine hto4.mono ?_
  clear hto4
  rintro e w4 ⟨rfl, r4, z4, c4⟩
  have T4 : Hid (St w #[.string m.nm, .bool m.up, .int .i64 m.ck, .bool m.kn, .int .i64 m.se, v1, v2, v3, v4] #[.string m.nm, .bool m.up, .int .i64 m.ck, .bool m.kn, .int .i64 m.se, .slice (some ⟨B1, 0, none⟩) m.ws.length m.ws.length, .slice (some ⟨B2, 0, none⟩) m.rs.length m.rs.length, .slice (some ⟨B3, 0, none⟩) m.qs.length m.qs.length, .slice none 0 0] w4) := S3.out.below c4
  have ka4 := T4.out.a
  have ko4 := T4.out.b
  have kf4 := T4.out.c
  have kz4 := T4.out.f
  obtain ⟨B4, hB4⟩ : ∃ B, B = (w3.setCell ⟨w.heap.size + 1 + 1, 7, none⟩ (.slice (some ⟨B3, 0, none⟩) m.qs.length m.qs.length)).heap.size := ⟨_, rfl⟩
  have HB4 : Hid (w.heap.size + 1 + 1 < B4) := by rw [hB4]; exact S3.out.f
  have Q4 : Hid (A.RowsAt w4 B4 0 m.gs) := by rw [hB4]; exact r4
  have LT4 : Hid (B4 < w4.heap.size) := by rw [hB4]; exact z4
  have Y4 : Hid (Below (w3.setCell ⟨w.heap.size + 1 + 1, 7, none⟩ (.slice (some ⟨B3, 0, none⟩) m.qs.length m.qs.length)).heap.size (w3.setCell ⟨w.heap.size + 1 + 1, 7, none⟩ (.slice (some ⟨B3, 0, none⟩) m.qs.length m.qs.length)) w4) := c4
  rw [← hB4]
  clear hB4 r4 z4 c4
  have S4 : Hid (St w #[.string m.nm, .bool m.up, .int .i64 m.ck, .bool m.kn, .int .i64 m.se, v1, v2, v3, v4] #[.string m.nm, .bool m.up, .int .i64 m.ck, .bool m.kn, .int .i64 m.se, .slice (some ⟨B1, 0, none⟩) m.ws.length m.ws.length, .slice (some ⟨B2, 0, none⟩) m.rs.length m.rs.length, .slice (some ⟨B3, 0, none⟩) m.qs.length m.qs.length, .slice (some ⟨B4, 0, none⟩) m.gs.length m.gs.length] (w4.setCell ⟨w.heap.size + 1 + 1, 8, none⟩ (.slice (some ⟨B4, 0, none⟩) m.gs.length m.gs.length))) := T4.out.set 8 (by simp) _
  have X4 : Hid (Ex (w.heap.size + 1 + 1) w4 (w4.setCell ⟨w.heap.size + 1 + 1, 8, none⟩ (.slice (some ⟨B4, 0, none⟩) m.gs.length m.gs.length))) := Ex.set (Ex.refl _ _) 8 _
  have hx1 : Ex (w.heap.size + 1) (w4.setCell ⟨w.heap.size + 1 + 1, 8, none⟩ (.slice (some ⟨B4, 0, none⟩) m.gs.length m.gs.length)) (World.setCells (w4.setCell ⟨w.heap.size + 1 + 1, 8, none⟩ (.slice (some ⟨B4, 0, none⟩) m.gs.length m.gs.length)) (w.heap.size + 1) 0 [.string m.nm, .bool m.up, .int .i64 m.ck, .bool m.kn, .int .i64 m.se, .slice (some ⟨B1, 0, none⟩) m.ws.length m.ws.length, .slice (some ⟨B2, 0, none⟩) m.rs.length m.rs.length, .slice (some ⟨B3, 0, none⟩) m.qs.length m.qs.length, .slice (some ⟨B4, 0, none⟩) m.gs.length m.gs.length]) := (Ex.refl _ _).cells _ _
  have B4' := X4.out.size
  have P4 : Hid (A.RowsAt (World.setCells (w4.setCell ⟨w.heap.size + 1 + 1, 8, none⟩ (.slice (some ⟨B4, 0, none⟩) m.gs.length m.gs.length)) (w.heap.size + 1) 0 [.string m.nm, .bool m.up, .int .i64 m.ck, .bool m.kn, .int .i64 m.se, .slice (some ⟨B1, 0, none⟩) m.ws.length m.ws.length, .slice (some ⟨B2, 0, none⟩) m.rs.length m.rs.length, .slice (some ⟨B3, 0, none⟩) m.qs.length m.qs.length, .slice (some ⟨B4, 0, none⟩) m.gs.length m.gs.length]) B4 0 m.gs) := A.RowsAt.exq (A.RowsAt.exq Q4.out LT4.out X4.out (by have := HB4.out; omega)) (Nat.lt_of_lt_of_le LT4.out X4.out.size) hx1 (by have := HB4.out; omega)
  have P3 : Hid (A.RowsAt (World.setCells (w4.setCell ⟨w.heap.size + 1 + 1, 8, none⟩ (.slice (some ⟨B4, 0, none⟩) m.gs.length m.gs.length)) (w.heap.size + 1) 0 [.string m.nm, .bool m.up, .int .i64 m.ck, .bool m.kn, .int .i64 m.se, .slice (some ⟨B1, 0, none⟩) m.ws.length m.ws.length, .slice (some ⟨B2, 0, none⟩) m.rs.length m.rs.length, .slice (some ⟨B3, 0, none⟩) m.qs.length m.qs.length, .slice (some ⟨B4, 0, none⟩) m.gs.length m.gs.length]) B3 0 m.qs) := A.RowsAt.exq (A.RowsAt.exq ((A.RowsAt.exq Q3.out LT3.out X3.out (by have := HB3.out; omega)).keep (Nat.lt_of_lt_of_le LT3.out X3.out.size) Y4.out) (Nat.lt_of_lt_of_le (Nat.lt_of_lt_of_le LT3.out X3.out.size) Y4.out.size) X4.out (by have := HB3.out; omega)) (Nat.lt_of_lt_of_le (Nat.lt_of_lt_of_le (Nat.lt_of_lt_of_le LT3.out X3.out.size) Y4.out.size) X4.out.size) hx1 (by have := HB3.out; omega)
  have LZ3 : Hid (B3 < w4.heap.size) := Nat.lt_of_lt_of_le (Nat.lt_of_lt_of_le LT3.out X3.out.size) Y4.out.size
  have q2a := RowsAt.exq Q2.out LT2.out X2.out (by have := HB2.out; omega)
  have q2b := q2a.keep (Nat.lt_of_lt_of_le LT2.out X2.out.size) Y3.out
  have z2b : B2 < w3.heap.size := Nat.lt_of_lt_of_le (Nat.lt_of_lt_of_le LT2.out X2.out.size) Y3.out.size
  have q2c := (RowsAt.exq q2b z2b X3.out (by have := HB2.out; omega)).keep (Nat.lt_of_lt_of_le z2b X3.out.size) Y4.out
  have z2c : B2 < w4.heap.size := Nat.lt_of_lt_of_le (Nat.lt_of_lt_of_le z2b X3.out.size) Y4.out.size
  have P2 : Hid (RowsAt (World.setCells (w4.setCell ⟨w.heap.size + 1 + 1, 8, none⟩ (.slice (some ⟨B4, 0, none⟩) m.gs.length m.gs.length)) (w.heap.size + 1) 0 [.string m.nm, .bool m.up, .int .i64 m.ck, .bool m.kn, .int .i64 m.se, .slice (some ⟨B1, 0, none⟩) m.ws.length m.ws.length, .slice (some ⟨B2, 0, none⟩) m.rs.length m.rs.length, .slice (some ⟨B3, 0, none⟩) m.qs.length m.qs.length, .slice (some ⟨B4, 0, none⟩) m.gs.length m.gs.length]) B2 0 m.rs) := RowsAt.exq (RowsAt.exq q2c z2c X4.out (by have := HB2.out; omega)) (Nat.lt_of_lt_of_le z2c X4.out.size) hx1 (by have := HB2.out; omega)
  have q1a := W.RowsAt.exq Q1.out LT1.out X1.out (by have := HB1.out; omega)
  have q1b := q1a.keep (Nat.lt_of_lt_of_le LT1.out X1.out.size) Y2.out
  have z1b : B1 < w2.heap.size := Nat.lt_of_lt_of_le (Nat.lt_of_lt_of_le LT1.out X1.out.size) Y2.out.size
  have q1c := (W.RowsAt.exq q1b z1b X2.out (by have := HB1.out; omega)).keep (Nat.lt_of_lt_of_le z1b X2.out.size) Y3.out
  have z1c : B1 < w3.heap.size := Nat.lt_of_lt_of_le (Nat.lt_of_lt_of_le z1b X2.out.size) Y3.out.size
  have q1d := (W.RowsAt.exq q1c z1c X3.out (by have := HB1.out; omega)).keep (Nat.lt_of_lt_of_le z1c X3.out.size) Y4.out
  have z1d : B1 < w4.heap.size := Nat.lt_of_lt_of_le (Nat.lt_of_lt_of_le z1c X3.out.size) Y4.out.size
  have P1 : Hid (W.RowsAt (World.setCells (w4.setCell ⟨w.heap.size + 1 + 1, 8, none⟩ (.slice (some ⟨B4, 0, none⟩) m.gs.length m.gs.length)) (w.heap.size + 1) 0 [.string m.nm, .bool m.up, .int .i64 m.ck, .bool m.kn, .int .i64 m.se, .slice (some ⟨B1, 0, none⟩) m.ws.length m.ws.length, .slice (some ⟨B2, 0, none⟩) m.rs.length m.rs.length, .slice (some ⟨B3, 0, none⟩) m.qs.length m.qs.length, .slice (some ⟨B4, 0, none⟩) m.gs.length m.gs.length]) B1 0 m.ws) := W.RowsAt.exq (W.RowsAt.exq q1d z1d X4.out (by have := HB1.out; omega)) (Nat.lt_of_lt_of_le z1d X4.out.size) hx1 (by have := HB1.out; omega)
  have zz : w4.heap.size ≤ (World.setCells (w4.setCell ⟨w.heap.size + 1 + 1, 8, none⟩ (.slice (some ⟨B4, 0, none⟩) m.gs.length m.gs.length)) (w.heap.size + 1) 0 [.string m.nm, .bool m.up, .int .i64 m.ck, .bool m.kn, .int .i64 m.se, .slice (some ⟨B1, 0, none⟩) m.ws.length m.ws.length, .slice (some ⟨B2, 0, none⟩) m.rs.length m.rs.length, .slice (some ⟨B3, 0, none⟩) m.qs.length m.qs.length, .slice (some ⟨B4, 0, none⟩) m.gs.length m.gs.length]).heap.size := Nat.le_trans X4.out.size hx1.size
  have LS : Hid (Lists (World.setCells (w4.setCell ⟨w.heap.size + 1 + 1, 8, none⟩ (.slice (some ⟨B4, 0, none⟩) m.gs.length m.gs.length)) (w.heap.size + 1) 0 [.string m.nm, .bool m.up, .int .i64 m.ck, .bool m.kn, .int .i64 m.se, .slice (some ⟨B1, 0, none⟩) m.ws.length m.ws.length, .slice (some ⟨B2, 0, none⟩) m.rs.length m.rs.length, .slice (some ⟨B3, 0, none⟩) m.qs.length m.qs.length, .slice (some ⟨B4, 0, none⟩) m.gs.length m.gs.length]) m B1 B2 B3 B4) := ⟨P1.out, P2.out, P3.out, P4.out, Nat.lt_of_lt_of_le z1d zz, Nat.lt_of_lt_of_le z2c zz, Nat.lt_of_lt_of_le LZ3.out zz, Nat.lt_of_lt_of_le LT4.out zz⟩
  have BE : Hid (Below w.heap.size w (World.setCells (w4.setCell ⟨w.heap.size + 1 + 1, 8, none⟩ (.slice (some ⟨B4, 0, none⟩) m.gs.length m.gs.length)) (w.heap.size + 1) 0 [.string m.nm, .bool m.up, .int .i64 m.ck, .bool m.kn, .int .i64 m.se, .slice (some ⟨B1, 0, none⟩) m.ws.length m.ws.length, .slice (some ⟨B2, 0, none⟩) m.rs.length m.rs.length, .slice (some ⟨B3, 0, none⟩) m.qs.length m.qs.length, .slice (some ⟨B4, 0, none⟩) m.gs.length m.gs.length])) := ⟨hx1.os.trans S4.out.e.os, hx1.tape.trans S4.out.e.tape, hx1.output.trans S4.out.e.output, Nat.le_trans S4.out.e.size hx1.size, fun k hk => (hx1.block k (Nat.lt_of_lt_of_le hk S4.out.e.size) (by omega)).trans (S4.out.e.block k hk)⟩
  have RG : Hid _ := World.rangeAt_setCells_same (w4.setCell ⟨w.heap.size + 1 + 1, 8, none⟩ (.slice (some ⟨B4, 0, none⟩) m.gs.length m.gs.length)) (w.heap.size + 1) 0 [.string m.nm, .bool m.up, .int .i64 m.ck, .bool m.kn, .int .i64 m.se, .slice (some ⟨B1, 0, none⟩) m.ws.length m.ws.length, .slice (some ⟨B2, 0, none⟩) m.rs.length m.rs.length, .slice (some ⟨B3, 0, none⟩) m.qs.length m.qs.length, .slice (some ⟨B4, 0, none⟩) m.gs.length m.gs.length] S4.out.d
  clear q2a q2b q2c z2b z2c q1a q1b q1c q1d z1b z1c z1d zz hx1 P1 P2 P3 P4 LZ3 B4'
  have kd := S4.out.d
  go_wp2_with (refine wpList_store_mid (by rfl) 52 _ _ (by rfl) (w.heap.size + 1) 0 #[.string m.nm, .bool m.up, .int .i64 m.ck, .bool m.kn, .int .i64 m.se, .slice (some ⟨B1, 0, none⟩) m.ws.length m.ws.length, .slice (some ⟨B2, 0, none⟩) m.rs.length m.rs.length, .slice (some ⟨B3, 0, none⟩) m.qs.length m.qs.length, .slice (some ⟨B4, 0, none⟩) m.gs.length m.gs.length] (by rfl) (by rfl) (by exact kd) hinfo (by simp [Value.oneCell']) ?_)
  have hrg := RG.out
  have d0 := hrg 0 _ rfl
  have d1 := hrg 1 _ rfl
  have d2 := hrg 2 _ rfl
  have d3 := hrg 3 _ rfl
  have d4 := hrg 4 _ rfl
  have d5 := hrg 5 _ rfl
  have d6 := hrg 6 _ rfl
  have d7 := hrg 7 _ rfl
  have d8 := hrg 8 _ rfl
  simp only [Nat.zero_add] at d0 d1 d2 d3 d4 d5 d6 d7 d8
  exact bodyPost_ret (v := .agg #[.string m.nm, .bool m.up, .int .i64 m.ck, .bool m.kn, .int .i64 m.se, .slice (some ⟨B1, 0, none⟩) m.ws.length m.ws.length, .slice (some ⟨B2, 0, none⟩) m.rs.length m.rs.length, .slice (some ⟨B3, 0, none⟩) m.qs.length m.qs.length, .slice (some ⟨B4, 0, none⟩) m.gs.length m.gs.length]) (by simp [results, Tryz.results79, go_sem, d0, d1, d2, d3, d4, d5, d6, d7, d8]) rfl ⟨B1, B2, B3, B4, rfl, LS.out, BE.out⟩
end Go.Proofs.YtdkjhonaafadjaaGreat
