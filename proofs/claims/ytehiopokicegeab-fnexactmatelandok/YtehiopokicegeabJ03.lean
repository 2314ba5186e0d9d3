import Derived.Test.YtehiopokicegeabJ01
import Derived.Deep.MidRow
import Derived.Test.YtehiopokicegeabJ02
import Derived.ChangeOld
import Derived.Laws.MakeOwn
import Derived.Deep.RegionHeld3
import Derived.Laws.Pointers
import Derived.StillTactics
/- Lists of grants in memory. -/
namespace Go.Proofs.Ytehiopokicegeab.G
open Go.RowKit
set_option linter.unusedVariables false

theorem szGrant_yes (h b c : ByteArray) (t u left : Int) (h0 : 0 ≤ left) (h1 : left ≤ 1048576) (k : (h.size : Int) + b.size + c.size ≤ left) (w : World) :
    Calls Try.prog 126 #[.agg #[.string h, .string b, .string c, .int .i64 t, .int .i64 u], .int .i64 left] w fun e w' => e = .returned (.int .i64 (left - h.size - b.size - c.size)) ∧ Below w.heap.size w w' := by
  go_enter Try.func126, Try.ntmps126
  go_wp2
  go_ret
  exact ⟨rfl, (Below.refl _ _).alloc (Nat.le_refl _) _⟩
theorem szGrant_no (h b c : ByteArray) (t u left : Int) (h0 : 0 ≤ left) (h1 : left ≤ 1048576) (hh : h.size ≤ maxLen) (hb : b.size ≤ maxLen) (hc : c.size ≤ maxLen) (k : ¬ (h.size : Int) + b.size + c.size ≤ left) (w : World) :
    Calls Try.prog 126 #[.agg #[.string h, .string b, .string c, .int .i64 t, .int .i64 u], .int .i64 left] w fun e w' => e = .returned (.int .i64 (-1)) ∧ Below w.heap.size w w' := by
  unfold maxLen at hc hh hb
  by_cases k1 : (h.size : Int) ≤ left
  · by_cases k2 : (h.size : Int) + b.size ≤ left
    · go_enter Try.func126, Try.ntmps126
      go_wp2
      go_ret
      exact ⟨rfl, (Below.refl _ _).alloc (Nat.le_refl _) _⟩
    · go_enter Try.func126, Try.ntmps126
      go_wp2
      go_ret
      exact ⟨rfl, (Below.refl _ _).alloc (Nat.le_refl _) _⟩
  · go_enter Try.func126, Try.ntmps126
    go_wp2
    go_ret
    exact ⟨rfl, (Below.refl _ _).alloc (Nat.le_refl _) _⟩
theorem toGrant_b (h b c : ByteArray) (t u : Int) (w : World) :
    Calls Try.prog 128 #[.agg #[.string h, .string b, .string c, .int .i64 t, .int .i64 u]] w fun e w' => e = .returned (.agg #[.string h, .string b, .string c, .int .i64 t, .int .i64 u]) ∧ Below w.heap.size w w' := by
  go_enter Try.func128, Try.ntmps128
  go_wp2
  exact bodyPost_ret (v := .agg #[.string h, .string b, .string c, .int .i64 t, .int .i64 u]) (by simp [results, Try.results128, go_sem]) rfl ⟨rfl, by repeat (first | exact Below.refl _ _ | refine bl_alloc ?_ _)⟩

structure GrantD where
  h : ByteArray
  b : ByteArray
  c : ByteArray
  t : Int
  u : Int
def GrantD.cells (r : GrantD) : List Value := [.string r.h, .string r.b, .string r.c, .int .i64 r.t, .int .i64 r.u]
/-- What a run's parts may be. -/
def GrantD.fits (r : GrantD) : Prop := r.h.size ≤ maxLen ∧ r.b.size ≤ maxLen ∧ r.c.size ≤ maxLen
/-- The grants rs lie in block b from off on. -/
def RowsAt (w : World) (b off : Nat) (rs : List GrantD) : Prop := ∀ k r, rs[k]? = some r → w.rangeAt b (off + k * 5) r.cells

theorem RowsAt.keep {w w' : World} {b off : Nat} {rs : List GrantD} (h : RowsAt w b off rs) (hb : b < w.heap.size) (hB : Below w.heap.size w w') : RowsAt w' b off rs :=
  fun k r hk j v hj => (hB.cell (p := ⟨b, off + k * 5 + j, none⟩) hb).trans (h k r hk j v hj)
theorem RowsAt.at {w : World} {b off : Nat} {rs : List GrantD} (h : RowsAt w b off rs) {k : Nat} {r : GrantD} (hk : rs[k]? = some r) :
    w.cell? ⟨b, off + k * 5, none⟩ = some (.string r.h) ∧ w.cell? ⟨b, off + k * 5 + 1, none⟩ = some (.string r.b) ∧ w.cell? ⟨b, off + k * 5 + 2, none⟩ = some (.string r.c) ∧ w.cell? ⟨b, off + k * 5 + 3, none⟩ = some (.int .i64 r.t) ∧ w.cell? ⟨b, off + k * 5 + 4, none⟩ = some (.int .i64 r.u) :=
  ⟨h k r hk 0 _ rfl, h k r hk 1 _ rfl, h k r hk 2 _ rfl, h k r hk 3 _ rfl, h k r hk 4 _ rfl⟩

set_option maxHeartbeats 1000000 in
theorem szGrantS (b off cap : Nat) (rs : List GrantD) (left : Int) (w : World) (hR : RowsAt w b off rs) (hb : b < w.heap.size) (hf : ∀ r ∈ rs, r.fits) (h0 : 0 ≤ left) (h1 : left ≤ 1048576) (hl : rs.length ≤ maxLen) :
    Calls Try.prog 83 #[.slice (some ⟨b, off, none⟩) rs.length cap, .int .i64 left] w fun e w' => (e = .returned (.int .i64 (-1)) ∨ ∃ m : Int, e = .returned (.int .i64 m) ∧ 0 ≤ m ∧ (rs.length : Int) ≤ left) ∧ Below w.heap.size w w' := by
  unfold maxLen at hl
  by_cases hn : (rs.length : Int) ≤ left
  · go_enter Try.func83, Try.ntmps83
    go_wp2
    go_loopw [1, 5] (fun l i wx => ∃ (k : Nat) (lv : Int), k ≤ rs.length ∧ i = .int .i64 k ∧ l = .int .i64 lv ∧ 0 ≤ lv ∧ lv ≤ 1048576 ∧ Below w.heap.size w wx) (fun _ i _ => rs.length - (intOf i).toNat)
    case atStart => exact ⟨0, _, Nat.zero_le _, rfl, rfl, by omega, by omega, Below.refl _ _⟩
    case round =>
      obtain ⟨k, lv, hk, rfl, rfl, l0, l1, hB⟩ := hrel
      by_cases hlt : k < rs.length
      · obtain ⟨r, hr⟩ : ∃ r, rs[k]? = some r := ⟨rs[k], List.getElem?_eq_getElem hlt⟩
        obtain ⟨c0, c1, c2, c3, c4⟩ := (hR.keep hb hB).at hr
        have hfr : r.fits := hf r (List.mem_of_getElem? hr)
        clear hr
        by_cases hsz : (r.h.size : Int) + r.b.size + r.c.size ≤ lv
        · go_wp2_with fail
          refine (szGrant_yes r.h r.b r.c r.t r.u lv l0 l1 hsz _).mono ?_
          rintro e w1 ⟨rfl, hb1⟩
          go_wp2
          exact ⟨⟨k + 1, _, by omega, by go_num, rfl, by omega, by omega, bl_trans hB hb1⟩, by simp [intOf]; omega⟩
        · go_wp2_with fail
          refine (szGrant_no r.h r.b r.c r.t r.u lv l0 l1 hfr.1 hfr.2.1 hfr.2.2 (by omega) _).mono ?_
          rintro e w1 ⟨rfl, hb1⟩
          go_wp2
          go_ret
          exact ⟨Or.inl rfl, bl_trans hB hb1⟩
      · go_wp2
        go_ret
        exact ⟨Or.inr ⟨_, rfl, l0, hn⟩, hB⟩
  · go_enter Try.func83, Try.ntmps83
    go_wp2
    go_ret
    exact ⟨Or.inl rfl, Below.refl _ _⟩
end Go.Proofs.Ytehiopokicegeab.G
/- What the reading of a grant says of the cells. -/
namespace Go.Proofs.Ytehiopokicegeab
open Go.ChangeShapes Go.WideShapes Go.ChangeAt Go.RowKit

theorem cells_grant : Try.prog.cellsOf 146 = 5 := by kernel_rfl
theorem list5 {α : Type} {l : List α} (h : l.length = 5) : ∃ a b c d e, l = [a, b, c, d, e] := by
  match l, h with
  | [a, b, c, d, e], _ => exact ⟨a, b, c, d, e, rfl⟩

section
variable {H : Type} {enc : TypeId × Value → H} {W : World} {base : Nat} {spare : Nat → Bool} {held : Bool} {fuel : Nat} {cs : List Value} {x : DataW H × List MemPlace}
theorem read_grant (hx : DataW.trod enc Try.prog W base spare held fuel 146 cs = some x) :
    ∃ (h b c : ByteArray) (t u : Int), cs = [.string h, .string b, .string c, .int .i64 t, .int .i64 u] ∧ h.size ≤ maxLen ∧ b.size ≤ maxLen ∧ c.size ≤ maxLen := by
  obtain ⟨xs, n, rfl, -, hl, hn, hf⟩ := DataW.trod_struct Try.underlying146 hx
  rw [cells_grant] at hl
  obtain ⟨c0, c1, c2, c3, c4, rfl⟩ := list5 hl
  have hn' : xs.length = 5 := hn
  have f0 : DataW.trod enc Try.prog W base spare held n 9 (List.take (Try.prog.cellsOf 9) [c0, c1, c2, c3, c4]) = xs[0]? := hf 0 _ rfl
  have f1 : DataW.trod enc Try.prog W base spare held n 9 (List.take (Try.prog.cellsOf 9) [c1, c2, c3, c4]) = xs[1]? := hf 1 _ rfl
  have f2 : DataW.trod enc Try.prog W base spare held n 9 (List.take (Try.prog.cellsOf 9) [c2, c3, c4]) = xs[2]? := hf 2 _ rfl
  have f3 : DataW.trod enc Try.prog W base spare held n 3 (List.take (Try.prog.cellsOf 3) [c3, c4]) = xs[3]? := hf 3 _ rfl
  have f4 : DataW.trod enc Try.prog W base spare held n 3 (List.take (Try.prog.cellsOf 3) [c4]) = xs[4]? := hf 4 _ rfl
  simp only [cells_int, cells_string, List.take_succ_cons, List.take_zero] at f0 f1 f2 f3 f4
  obtain ⟨y0, g0⟩ := some_of hn' (by decide) f0
  obtain ⟨y1, g1⟩ := some_of hn' (by decide) f1
  obtain ⟨y2, g2⟩ := some_of hn' (by decide) f2
  obtain ⟨y3, g3⟩ := some_of hn' (by decide) f3
  obtain ⟨y4, g4⟩ := some_of hn' (by decide) f4
  obtain ⟨h, e0, -, w0⟩ := DataW.trod_string Try.underlying9 g0
  obtain ⟨b, e1, -, w1⟩ := DataW.trod_string Try.underlying9 g1
  obtain ⟨c, e2, -, w2⟩ := DataW.trod_string Try.underlying9 g2
  obtain ⟨t, e3, -, w3⟩ := DataW.trod_int Try.underlying3 g3
  obtain ⟨u, e4, -, w4⟩ := DataW.trod_int Try.underlying3 g4
  simp only [List.cons.injEq, and_true] at e0 e1 e2 e3 e4
  subst e0 e1 e2 e3 e4
  exact ⟨h, b, c, t, u, rfl, w0, w1, w2⟩
end
end Go.Proofs.Ytehiopokicegeab
/- What the reading of a list of grants says of memory. -/
namespace Go.Proofs.Ytehiopokicegeab.G
open Go.ChangeShapes Go.WideShapes Go.ChangeAt Go.RowKit

theorem exists_list {α : Type} (P : Nat → α → Prop) : ∀ (n : Nat), (∀ i, i < n → ∃ r, P i r) → ∃ rs : List α, rs.length = n ∧ ∀ i r, rs[i]? = some r → P i r
  | 0, _ => ⟨[], rfl, fun i r h => by simp at h⟩
  | n + 1, h => by
    obtain ⟨rs, hl, hr⟩ := exists_list P n (fun i hi => h i (by omega))
    obtain ⟨r, hp⟩ := h n (by omega)
    refine ⟨rs ++ [r], by simp [hl], fun i q hq => ?_⟩
    rcases Nat.lt_or_ge i n with hi | hi
    · rw [List.getElem?_append_left (by omega)] at hq; exact hr i q hq
    · rw [List.getElem?_append_right (by omega)] at hq
      by_cases e : i = n
      · subst e; simp [hl] at hq; subst hq; exact hp
      · rw [List.getElem?_eq_none (by simp; omega)] at hq; cases hq

section
variable {H : Type} {enc : TypeId × Value → H} {W : World} {base : Nat} {spare : Nat → Bool} {held : Bool} {fuel : Nat} {cs : List Value} {x : DataW H × List MemPlace}

/-- A list of grants that came in: it is empty, or lies in a block of old memory. -/
theorem read_grants (hx : DataW.trod enc Try.prog W base spare held fuel 63 cs = some x) :
    (∃ (a : Option Addr) (cap : Nat), cs = [.slice a 0 cap]) ∨
    ∃ (b off cap : Nat) (rs : List GrantD), cs = [.slice (some ⟨b, off, none⟩) rs.length cap] ∧ 0 < rs.length ∧ rs.length ≤ maxLen ∧ b < W.heap.size ∧ RowsAt W b off rs ∧ ∀ r ∈ rs, r.fits := by
  rcases DataW.trod_slice Try.underlying63 hx with ⟨hcs, -⟩ | ⟨a, len, cap, elems, rest, n, -, hcs, -, hb, hlc, hcm, hel, hat, -⟩
  · exact Or.inl ⟨none, 0, hcs⟩
  by_cases h0 : len = 0
  · subst h0; exact Or.inl ⟨some a, cap, hcs⟩
  refine Or.inr ?_
  rw [cells_grant] at hat
  have hall : ∀ i, i < len → ∃ r : GrantD, W.cells? base (a.add (i * 5)) 5 = some r.cells ∧ r.fits := by
    intro i hi
    have h1 := hat i hi
    rw [List.getElem?_eq_getElem (by omega)] at h1
    obtain ⟨ws, hw, ht⟩ := Option.bind_eq_some_iff.1 h1
    obtain ⟨h, b', c, t, u, rfl, w0, w1, w2⟩ := read_grant ht
    exact ⟨⟨h, b', c, t, u⟩, hw, w0, w1, w2⟩
  obtain ⟨rs, hlen, hrs⟩ := exists_list _ len hall
  have hcell : ∀ i r, rs[i]? = some r → ∀ j v, r.cells[j]? = some v → W.cell? ((a.add (i * 5)).add j) = some v := by
    intro i r hr j v hj
    obtain ⟨hw, -⟩ := hrs i r hr
    have hlt : j < 5 := by
      rcases Nat.lt_or_ge j 5 with h' | h'
      · exact h'
      · rw [List.getElem?_eq_none (by simpa [GrantD.cells] using h')] at hj; cases hj
    have h2 := (World.cells?_some hw).2.2 j hlt
    rw [h2, hj]
  obtain ⟨r0, hr0⟩ : ∃ r, rs[0]? = some r := ⟨rs[0]'(by omega), List.getElem?_eq_getElem (by omega)⟩
  have hc0 := hcell 0 r0 hr0 0 (.string r0.h) rfl
  obtain ⟨b, off, spot⟩ := a
  have hspot : spot = none := by
    have := World.cell?_spot hc0
    simpa [Addr.add] using this
  subst hspot
  have hblk : b < W.heap.size := World.cells?_block (hrs 0 r0 hr0).1 (by omega)
  refine ⟨b, off, cap, rs, by rw [hlen]; exact hcs, by omega, by omega, hblk, fun i r hr j v hj => ?_, fun r hr => ?_⟩
  · have := hcell i r hr j v hj
    rw [Addr.add_mid, Addr.add_mid] at this
    exact this
  · obtain ⟨i, hi⟩ := List.getElem?_of_mem hr
    exact (hrs i r hi).2
end
end Go.Proofs.Ytehiopokicegeab.G
/- A list of grants is copied. -/
namespace Go.Proofs.Ytehiopokicegeab.G
open Go.RowKit
set_option linter.unusedVariables false

theorem make_grants (n : Nat) (hn : n ≤ 1048576) : ∃ C : Array Value, C.size = n * 5 ∧ ∀ w : World, Sem.run Try.prog (Instr.makeSlice 69 (.int .i64 (n : Int)) (.int .i64 (n : Int))) w = .ok (.slice (some ⟨w.heap.size, 0, none⟩) n n) (w.alloc (.cells C 118)) := by
  have hq : (Try.prog.info? 118).map (fun i => (i.size, i.bytes, i.zero)) = some (5, 64, some (.agg #[.string ⟨#[]⟩, .string ⟨#[]⟩, .string ⟨#[]⟩, .int .i64 0, .int .i64 0])) := by kernel_rfl
  cases hi : Try.prog.info? 118 with
  | none => rw [hi] at hq; simp at hq
  | some i =>
    rw [hi] at hq
    simp only [Option.map_some, Option.some.injEq, Prod.mk.injEq] at hq
    obtain ⟨h1, h2, h3⟩ := hq
    refine ⟨madeCells (Value.cells (.agg #[.string ⟨#[]⟩, .string ⟨#[]⟩, .string ⟨#[]⟩, .int .i64 0, .int .i64 0])) (n * i.size), (size_madeCells _ _).trans (by rw [h1]), fun w => ?_⟩
    have := run_make (P := Try.prog) w 69 118 i _ Try.underlying69 hi h3 .i64 .i64 n n (by omega) (by omega) (by rw [h2]; omega) (by omega)
    simpa using this

theorem bl_cells {A : World} {k : Nat} (hk : A.heap.size ≤ k) : ∀ (vs : List Value) (o : Nat) (w' : World), Below A.heap.size A w' → Below A.heap.size A (w'.setCells k o vs)
  | [], _, _, h => h
  | v :: r, o, w', h => bl_cells hk r (o + 1) _ (bl_set h (by exact hk) v)
theorem size_cells {k : Nat} : ∀ (vs : List Value) (o : Nat) (w' : World), (w'.setCells k o vs).heap.size = w'.heap.size
  | [], _, _ => rfl
  | v :: r, o, w' => (size_cells r (o + 1) _).trans (by simp [World.setCell])
theorem there_keep {x y : World} {k o n : Nat} (h : x.there k o n) (hk : k < x.heap.size) (hb : Below x.heap.size x y) : y.there k o n :=
  fun j hj => ⟨by rw [hb.cell (p := ⟨k, o + j, none⟩) hk]; exact (h j hj).1, by rw [hb.frozen (p := ⟨k, o + j, none⟩) hk]; exact (h j hj).2⟩
theorem there_part {x : World} {g n k : Nat} (h : x.there g 0 (n * 5)) (hk : k < n) : x.there g (k * 5) 5 :=
  fun j hj => by have := h (k * 5 + j) (by omega); simpa using this
theorem there_new {w : World} {C : Array Value} {t : TypeId} {n : Nat} (hC : C.size = n * 5) : (w.alloc (.cells C t)).there w.heap.size 0 (n * 5) :=
  fun j hj => ⟨by simp [go_sem]; omega, by simp [go_sem]⟩
theorem rows_step {x : World} {g k : Nat} {rs : List GrantD} {r : GrantD} (hr : rs[k]? = some r) (h : RowsAt x g 0 (rs.take k)) (ht : x.there g (k * 5) 5) : RowsAt (x.setCells g (k * 5) r.cells) g 0 (rs.take (k + 1)) := by
  intro j q hj
  rw [List.getElem?_take] at hj
  split at hj
  case isFalse => cases hj
  rename_i hlt
  by_cases e : j = k
  · subst e
    rw [hr] at hj
    cases hj
    have := World.rangeAt_setCells_same x g (j * 5) r.cells ht
    simpa using this
  · have hj' : (rs.take k)[j]? = some q := by rw [List.getElem?_take, if_pos (by omega)]; exact hj
    exact World.rangeAt_setCells_apart (h j q hj') g (k * 5) r.cells (Or.inr (Or.inl (by show 0 + j * 5 + 5 ≤ k * 5; omega)))

set_option maxHeartbeats 1000000 in
theorem toGrantS (b off cap : Nat) (rs : List GrantD) (w : World) (hR : RowsAt w b off rs) (hb : b < w.heap.size) (hl : rs.length ≤ 1048576) :
    Calls Try.prog 87 #[.slice (some ⟨b, off, none⟩) rs.length cap] w fun e w' => e = .returned (.slice (some ⟨w.heap.size, 0, none⟩) rs.length rs.length) ∧ RowsAt w' w.heap.size 0 rs ∧ w'.there w.heap.size 0 (rs.length * 5) ∧ w.heap.size < w'.heap.size ∧ Below w.heap.size w w' := by
  obtain ⟨C, hC, hmk⟩ := make_grants rs.length hl
  have hinfo : (Try.prog.info? 118).map (·.size) = some 5 := by kernel_rfl
  go_enter Try.func87, Try.ntmps87
  go_wp2
  go_loopw [4] (fun i wx => ∃ (k : Nat), k ≤ rs.length ∧ i = .int .i64 k ∧ RowsAt wx w.heap.size 0 (rs.take k) ∧ wx.there w.heap.size 0 (rs.length * 5) ∧ w.heap.size < wx.heap.size ∧ Below w.heap.size w wx) (fun i _ => rs.length - (intOf i).toNat)
  case atStart => exact ⟨0, Nat.zero_le _, rfl, fun k r h => by simp at h, there_new hC, by simp, bl_alloc (Below.refl _ _) _⟩
  case round =>
    obtain ⟨k, hk, rfl, hrows, hth, hgz, hB⟩ := hrel
    clear hmk
    by_cases hlt : k < rs.length
    · obtain ⟨r, hr⟩ : ∃ r, rs[k]? = some r := ⟨rs[k], List.getElem?_eq_getElem hlt⟩
      obtain ⟨c0, c1, c2, c3, c4⟩ := (hR.keep hb hB).at hr
      have Hr : Hid _ := hr
      clear hr
      go_wp2_with fail
      refine (toGrant_b r.h r.b r.c r.t r.u _).mono ?_
      rintro e w1 ⟨rfl, hb1⟩
      clear c0 c1 c2 c3 c4
      have hth1 := there_keep hth hgz hb1
      have hrows1 := hrows.keep hgz hb1
      have hB1 := bl_trans hB hb1
      have hgz1 : w.heap.size < w1.heap.size := Nat.lt_of_lt_of_le hgz hb1.size
      clear hth hrows hB hb1
      go_wp2_with (refine wpList_store_mid (by rfl) 118 _ _ (by rfl) w.heap.size (k * 5) #[.string r.h, .string r.b, .string r.c, .int .i64 r.t, .int .i64 r.u] (by rfl) (by rfl) (by exact there_part hth1 hlt) hinfo (by simp [Value.oneCell']) ?_)
      exact ⟨⟨k + 1, by omega, by go_num, rows_step Hr.out hrows1 (there_part hth1 hlt), World.there_setCells hth1 _ _ _, by rw [size_cells]; exact hgz1, bl_cells (Nat.le_refl _) _ _ _ hB1⟩, by simp [intOf]; omega⟩
    · go_wp2
      go_ret
      have e : rs.take k = rs := List.take_of_length_le (by omega)
      rw [e] at hrows
      exact ⟨rfl, hrows, hth, hgz, hB⟩
end Go.Proofs.Ytehiopokicegeab.G
/- Sizes of lists, and what is left. -/
namespace Go.Proofs.Ytehiopokicegeab.G
open Go.RowKit
set_option linter.unusedVariables false

set_option maxHeartbeats 1000000 in
theorem szGrantS_m (b off cap : Nat) (rs : List GrantD) (left : Int) (w : World) (hR : RowsAt w b off rs) (hb : b < w.heap.size) (hf : ∀ r ∈ rs, r.fits) (h0 : 0 ≤ left) (h1 : left ≤ 1048576) (hl : rs.length ≤ maxLen) :
    Calls Try.prog 83 #[.slice (some ⟨b, off, none⟩) rs.length cap, .int .i64 left] w fun e w' => (e = .returned (.int .i64 (-1)) ∨ ∃ m : Int, e = .returned (.int .i64 m) ∧ 0 ≤ m ∧ m ≤ 1048576 ∧ (rs.length : Int) ≤ left) ∧ Below w.heap.size w w' := by
  unfold maxLen at hl
  by_cases hn : (rs.length : Int) ≤ left
  · go_enter Try.func83, Try.ntmps83
    go_wp2
    go_loopw [1, 5] (fun l i wx => ∃ (k : Nat) (lv : Int), k ≤ rs.length ∧ i = .int .i64 k ∧ l = .int .i64 lv ∧ 0 ≤ lv ∧ lv ≤ 1048576 ∧ Below w.heap.size w wx) (fun _ i _ => rs.length - (intOf i).toNat)
    case atStart => exact ⟨0, _, Nat.zero_le _, rfl, rfl, by omega, by omega, Below.refl _ _⟩
    case round =>
      obtain ⟨k, lv, hk, rfl, rfl, l0, l1, hB⟩ := hrel
      by_cases hlt : k < rs.length
      · obtain ⟨r, hr⟩ : ∃ r, rs[k]? = some r := ⟨rs[k], List.getElem?_eq_getElem hlt⟩
        obtain ⟨c0, c1, c2, c3, c4⟩ := (hR.keep hb hB).at hr
        have hfr : r.fits := hf r (List.mem_of_getElem? hr)
        clear hr
        by_cases hsz : (r.h.size : Int) + r.b.size + r.c.size ≤ lv
        · go_wp2_with fail
          refine (szGrant_yes r.h r.b r.c r.t r.u lv l0 l1 hsz _).mono ?_
          rintro e w1 ⟨rfl, hb1⟩
          go_wp2
          exact ⟨⟨k + 1, _, by omega, by go_num, rfl, by omega, by omega, bl_trans hB hb1⟩, by simp [intOf]; omega⟩
        · go_wp2_with fail
          refine (szGrant_no r.h r.b r.c r.t r.u lv l0 l1 hfr.1 hfr.2.1 hfr.2.2 (by omega) _).mono ?_
          rintro e w1 ⟨rfl, hb1⟩
          go_wp2
          go_ret
          exact ⟨Or.inl rfl, bl_trans hB hb1⟩
      · go_wp2
        go_ret
        exact ⟨Or.inr ⟨_, rfl, l0, l1, hn⟩, hB⟩
  · go_enter Try.func83, Try.ntmps83
    go_wp2
    go_ret
    exact ⟨Or.inl rfl, Below.refl _ _⟩
theorem sz_nil (a : Option Addr) (cap : Nat) (left : Int) (w : World) (h0 : 0 ≤ left) (h1 : left ≤ 1048576) :
    Calls Try.prog 83 #[.slice a 0 cap, .int .i64 left] w fun e w' => e = .returned (.int .i64 left) ∧ w' = w := by
  go_enter Try.func83, Try.ntmps83
  go_wp2
  refine wp_loop_rounds 1 ?_
  rw [rounds_succ]
  go_wp2
  go_ret
  exact ⟨rfl, rfl⟩
theorem to_nil (a : Option Addr) (cap : Nat) (w : World) :
    Calls Try.prog 87 #[.slice a 0 cap] w fun e w' => e = .returned (.slice (some ⟨w.heap.size, 0, none⟩) 0 0) ∧ w.heap.size < w'.heap.size ∧ Below w.heap.size w w' := by
  obtain ⟨C, hC, hmk0⟩ := make_grants 0 (by omega)
  have hmk : ∀ w : World, Sem.run Try.prog (Instr.makeSlice 69 (.int .i64 0) (.int .i64 0)) w = .ok (.slice (some ⟨w.heap.size, 0, none⟩) 0 0) (w.alloc (.cells C 118)) := fun w => hmk0 w
  clear hmk0 hC
  go_enter Try.func87, Try.ntmps87
  go_wp2
  refine wp_loop_rounds 1 ?_
  rw [rounds_succ]
  go_wp2
  go_ret
  exact ⟨rfl, by simp, bl_alloc (Below.refl _ _) _⟩
/-- A list that came in. -/
def In (w : World) (v : Value) (l : List GrantD) : Prop := (l = [] ∧ ∃ a cap, v = .slice a 0 cap) ∨ ∃ b off cap, v = .slice (some ⟨b, off, none⟩) l.length cap ∧ l.length ≤ maxLen ∧ b < w.heap.size ∧ RowsAt w b off l ∧ ∀ r ∈ l, r.fits
theorem In.keep {w w' : World} {v : Value} {l : List GrantD} (h : In w v l) (hb : Below w.heap.size w w') : In w' v l := by
  rcases h with h | ⟨b, off, cap, h1, h2, h3, h4, h5⟩
  · exact Or.inl h
  · exact Or.inr ⟨b, off, cap, h1, h2, Nat.lt_of_lt_of_le h3 hb.size, h4.keep h3 hb, h5⟩
theorem In.fits {w : World} {v : Value} {l : List GrantD} (h : In w v l) : ∀ r ∈ l, r.fits := by
  rcases h with ⟨rfl, -⟩ | ⟨b, off, cap, h1, h2, h3, h4, h5⟩
  · intro r hr; cases hr
  · exact h5
theorem sz_in {w : World} {v : Value} {l : List GrantD} (h : In w v l) (left : Int) (h0 : 0 ≤ left) (h1 : left ≤ 1048576) :
    Calls Try.prog 83 #[v, .int .i64 left] w fun e w' => (e = .returned (.int .i64 (-1)) ∨ ∃ m : Int, e = .returned (.int .i64 m) ∧ 0 ≤ m ∧ m ≤ 1048576 ∧ l.length ≤ 1048576) ∧ Below w.heap.size w w' := by
  rcases h with ⟨rfl, a, cap, rfl⟩ | ⟨b, off, cap, rfl, k2, k3, k4, k5⟩
  · refine (sz_nil a cap left w h0 h1).mono ?_
    rintro e w' ⟨rfl, rfl⟩
    exact ⟨Or.inr ⟨left, rfl, h0, h1, by simp⟩, Below.refl _ _⟩
  · refine (szGrantS_m b off cap l left w k4 k3 k5 h0 h1 k2).mono ?_
    rintro e w' ⟨rfl | ⟨m, rfl, m0, m1, hn⟩, hb⟩
    · exact ⟨Or.inl rfl, hb⟩
    · exact ⟨Or.inr ⟨m, rfl, m0, m1, by omega⟩, hb⟩
theorem to_in {w : World} {v : Value} {l : List GrantD} (h : In w v l) (hl : l.length ≤ 1048576) :
    Calls Try.prog 87 #[v] w fun e w' => e = .returned (.slice (some ⟨w.heap.size, 0, none⟩) l.length l.length) ∧ RowsAt w' w.heap.size 0 l ∧ w.heap.size < w'.heap.size ∧ Below w.heap.size w w' := by
  rcases h with ⟨rfl, a, cap, rfl⟩ | ⟨b, off, cap, rfl, k2, k3, k4, k5⟩
  · refine (to_nil a cap w).mono ?_
    rintro e w' ⟨rfl, h1, h2⟩
    exact ⟨rfl, fun k r h => by simp at h, h1, h2⟩
  · refine (toGrantS b off cap l w k4 k3 hl).mono ?_
    rintro e w' ⟨rfl, h1, -, h2, h3⟩
    exact ⟨rfl, h1, h2, h3⟩
end Go.Proofs.Ytehiopokicegeab.G
/- Two lists of the same grants are told to be equal. -/
namespace Go.Proofs.Ytehiopokicegeab.G
open Go.RowKit
set_option linter.unusedVariables false

theorem eqGrant_b (h b c : ByteArray) (t u : Int) (w : World) :
    Calls Try.prog 140 #[.agg #[.string h, .string b, .string c, .int .i64 t, .int .i64 u], .agg #[.string h, .string b, .string c, .int .i64 t, .int .i64 u]] w fun e w' => e = .returned (.bool true) ∧ Below w.heap.size w w' := by
  go_enter Try.func140, Try.ntmps140
  go_wp2
  go_ret
  exact ⟨rfl, bl_alloc (bl_alloc (Below.refl _ _) _) _⟩
theorem keepR {x w' : World} {b1 o1 b2 o2 k : Nat} {rs : List GrantD} {r : GrantD} (hk : rs[k]? = some r) (h1 : RowsAt x b1 o1 rs) (h2 : RowsAt x b2 o2 rs) (l1 : b1 < x.heap.size) (l2 : b2 < x.heap.size) (hb : Below x.heap.size x w') :
    Below x.heap.size x w' ∧ (w'.cell? ⟨b1, o1 + k * 5, none⟩ = some (.string r.h) ∧ w'.cell? ⟨b1, o1 + k * 5 + 1, none⟩ = some (.string r.b) ∧ w'.cell? ⟨b1, o1 + k * 5 + 2, none⟩ = some (.string r.c) ∧ w'.cell? ⟨b1, o1 + k * 5 + 3, none⟩ = some (.int .i64 r.t) ∧ w'.cell? ⟨b1, o1 + k * 5 + 4, none⟩ = some (.int .i64 r.u)) ∧ (w'.cell? ⟨b2, o2 + k * 5, none⟩ = some (.string r.h) ∧ w'.cell? ⟨b2, o2 + k * 5 + 1, none⟩ = some (.string r.b) ∧ w'.cell? ⟨b2, o2 + k * 5 + 2, none⟩ = some (.string r.c) ∧ w'.cell? ⟨b2, o2 + k * 5 + 3, none⟩ = some (.int .i64 r.t) ∧ w'.cell? ⟨b2, o2 + k * 5 + 4, none⟩ = some (.int .i64 r.u)) :=
  ⟨hb, (h1.keep l1 hb).at hk, (h2.keep l2 hb).at hk⟩

set_option maxHeartbeats 1000000 in
theorem eqGrantS (b1 o1 n1 b2 o2 n2 : Nat) (rs : List GrantD) (w : World) (h1 : RowsAt w b1 o1 rs) (h2 : RowsAt w b2 o2 rs) (l1 : b1 < w.heap.size) (l2 : b2 < w.heap.size) (hl : rs.length ≤ 1048576) :
    Calls Try.prog 94 #[.slice (some ⟨b1, o1, none⟩) rs.length n1, .slice (some ⟨b2, o2, none⟩) rs.length n2] w fun e w' => e = .returned (.bool true) ∧ Below w.heap.size w w' := by
  go_enter Try.func94, Try.ntmps94
  go_wp2
  go_loopw [5] (fun i wx => ∃ (k : Nat), k ≤ rs.length ∧ i = .int .i64 k ∧ Below w.heap.size w wx) (fun i _ => rs.length - (intOf i).toNat)
  case atStart => exact ⟨0, Nat.zero_le _, rfl, Below.refl _ _⟩
  case round =>
    obtain ⟨k, hk, rfl, hB⟩ := hrel
    by_cases hlt : k < rs.length
    · obtain ⟨r, hr⟩ : ∃ r, rs[k]? = some r := ⟨rs[k], List.getElem?_eq_getElem hlt⟩
      have Hr : Hid _ := hr
      clear hr
      have g1 := h1.keep l1 hB
      have g2 := h2.keep l2 hB
      have z1 : b1 < wr.heap.size := Nat.lt_of_lt_of_le l1 hB.size
      have z2 : b2 < wr.heap.size := Nat.lt_of_lt_of_le l2 hB.size
      have i0 : (0 : Int) ≤ (k : Int) := by omega
      have i1 : (k : Int) < (rs.length : Int) := by omega
      go_wp2_with fail
      go_region_held3 (fun w' => Below wr.heap.size wr w' ∧ (w'.cell? ⟨b1, o1 + k * 5, none⟩ = some (.string r.h) ∧ w'.cell? ⟨b1, o1 + k * 5 + 1, none⟩ = some (.string r.b) ∧ w'.cell? ⟨b1, o1 + k * 5 + 2, none⟩ = some (.string r.c) ∧ w'.cell? ⟨b1, o1 + k * 5 + 3, none⟩ = some (.int .i64 r.t) ∧ w'.cell? ⟨b1, o1 + k * 5 + 4, none⟩ = some (.int .i64 r.u)) ∧ (w'.cell? ⟨b2, o2 + k * 5, none⟩ = some (.string r.h) ∧ w'.cell? ⟨b2, o2 + k * 5 + 1, none⟩ = some (.string r.b) ∧ w'.cell? ⟨b2, o2 + k * 5 + 2, none⟩ = some (.string r.c) ∧ w'.cell? ⟨b2, o2 + k * 5 + 3, none⟩ = some (.int .i64 r.t) ∧ w'.cell? ⟨b2, o2 + k * 5 + 4, none⟩ = some (.int .i64 r.u)))
        (first | exact keepR Hr.out g1 g2 z1 z2 (bl_drew (Below.refl _ _)) | exact keepR Hr.out g1 g2 z1 z2 (bl_trans (bl_drew (Below.refl _ _)) hb))
        (first | (go_at_call 140; refine (eqGrant_b r.h r.b r.c r.t r.u _).mono ?_; rintro e w' ⟨rfl, hb⟩))
      go_wp2
      exact ⟨⟨k + 1, by omega, by go_num, bl_trans hB (bl_trans (bl_drew (Below.refl _ _)) hb)⟩, by simp [intOf]; omega⟩
    · go_wp2
      go_ret
      exact ⟨rfl, hB⟩
end Go.Proofs.Ytehiopokicegeab.G
/- Rows that lie elsewhere stay. -/
namespace Go.Proofs.Ytehiopokicegeab.W
theorem RowsAt.exq {kr : Nat} {w w' : World} {b off : Nat} {rs : List WantD} (h : RowsAt w b off rs) (hb : b < w.heap.size) (hE : Ex kr w w') (hne : b ≠ kr) : RowsAt w' b off rs :=
  fun k r hk j v hj => (hE.cell (p := ⟨b, off + k * 7 + j, none⟩) hb hne).trans (h k r hk j v hj)
end Go.Proofs.Ytehiopokicegeab.W
namespace Go.Proofs.Ytehiopokicegeab.A
theorem RowsAt.exq {kr : Nat} {w w' : World} {b off : Nat} {rs : List AskD} (h : RowsAt w b off rs) (hb : b < w.heap.size) (hE : Ex kr w w') (hne : b ≠ kr) : RowsAt w' b off rs :=
  fun k r hk j v hj => (hE.cell (p := ⟨b, off + k * 4 + j, none⟩) hb hne).trans (h k r hk j v hj)
end Go.Proofs.Ytehiopokicegeab.A
namespace Go.Proofs.Ytehiopokicegeab
open Go.RowKit
set_option linter.unusedVariables false

theorem RowsAt.exq {kr : Nat} {w w' : World} {b off : Nat} {rs : List RunD} (h : RowsAt w b off rs) (hb : b < w.heap.size) (hE : Ex kr w w') (hne : b ≠ kr) : RowsAt w' b off rs :=
  fun k r hk j v hj => (hE.cell (p := ⟨b, off + k * 11 + j, none⟩) hb hne).trans (h k r hk j v hj)
end Go.Proofs.Ytehiopokicegeab
/- A list of places is copied. -/
namespace Go.Proofs.Ytehiopokicegeab.P
open Go.RowKit
set_option linter.unusedVariables false

theorem make_places (n : Nat) (hn : n ≤ 1048576) : ∃ C : Array Value, C.size = n * 3 ∧ ∀ w : World, Sem.run Try.prog (Instr.makeSlice 70 (.int .i64 (n : Int)) (.int .i64 (n : Int))) w = .ok (.slice (some ⟨w.heap.size, 0, none⟩) n n) (w.alloc (.cells C 151)) := by
  have hq : (Try.prog.info? 151).map (fun i => (i.size, i.bytes, i.zero)) = some (3, 48, some (.agg #[.string ⟨#[]⟩, .int .i64 0, .slice none 0 0])) := by kernel_rfl
  cases hi : Try.prog.info? 151 with
  | none => rw [hi] at hq; simp at hq
  | some i =>
    rw [hi] at hq
    simp only [Option.map_some, Option.some.injEq, Prod.mk.injEq] at hq
    obtain ⟨h1, h2, h3⟩ := hq
    refine ⟨madeCells (Value.cells (.agg #[.string ⟨#[]⟩, .int .i64 0, .slice none 0 0])) (n * i.size), (size_madeCells _ _).trans (by rw [h1]), fun w => ?_⟩
    have := run_make (P := Try.prog) w 70 151 i _ Try.underlying70 hi h3 .i64 .i64 n n (by omega) (by omega) (by rw [h2]; omega) (by omega)
    simpa using this

theorem there_part {x : World} {g n k : Nat} (h : x.there g 0 (n * 3)) (hk : k < n) : x.there g (k * 3) 3 :=
  fun j hj => by have := h (k * 3 + j) (by omega); simpa using this
theorem there_new {w : World} {C : Array Value} {t : TypeId} {n : Nat} (hC : C.size = n * 3) : (w.alloc (.cells C t)).there w.heap.size 0 (n * 3) :=
  fun j hj => ⟨by simp [go_sem]; omega, by simp [go_sem]⟩
theorem rows_snoc {x : World} {g : Nat} {qs : List PlaceD} {q : PlaceD} (h : RowsAt x g 0 qs) (ht : x.there g (qs.length * 3) 3) : RowsAt (x.setCells g (qs.length * 3) q.cells) g 0 (qs ++ [q]) := by
  intro j p hj
  by_cases e : j < qs.length
  · have hj' : qs[j]? = some p := by rw [List.getElem?_append_left e] at hj; exact hj
    exact World.rangeAt_setCells_apart (h j p hj') g (qs.length * 3) q.cells (Or.inr (Or.inl (by show 0 + j * 3 + 3 ≤ qs.length * 3; omega)))
  · rw [List.getElem?_append_right (by omega)] at hj
    have hz : j - qs.length = 0 := by
      have := (List.getElem?_eq_some_iff.1 hj).1
      simp at this; omega
    rw [hz] at hj
    cases hj
    have e2 : j = qs.length := by omega
    subst e2
    have := World.rangeAt_setCells_same x g (qs.length * 3) q.cells ht
    simpa using this
theorem PlaceD.blk.ex {B k : Nat} {w w' : World} {r : PlaceD} (h : r.blk B w) (he : Ex k w w') (hk : k ≤ B) : r.blk B w' := by
  obtain ⟨g, h1, hc, h2, h3, h4⟩ := h
  exact ⟨g, h1, hc, h2, Nat.lt_of_lt_of_le h3 he.size, W.RowsAt.exq h4 h3 he (by omega)⟩
/-- While a mate is copied: what came in, what is laid out so far. -/
structure St3 (w : World) (L O : Array Value) (x : World) : Prop where
  a : ∀ k, x.cell? ⟨w.heap.size, k, none⟩ = L[k]?
  b : ∀ k, x.cell? ⟨w.heap.size + 1 + 1, k, none⟩ = O[k]?
  c : ∀ k, x.frozen? ⟨w.heap.size + 1 + 1, k, none⟩ = false
  d : x.there (w.heap.size + 1) 0 3
  e : Below w.heap.size w x
  f : w.heap.size + 1 + 1 < x.heap.size
theorem St3.below {w x y : World} {L O : Array Value} (h : St3 w L O x) (hb : Below x.heap.size x y) : St3 w L O y :=
  have hf := h.f
  ⟨fun k => (hb.cell (p := ⟨w.heap.size, k, none⟩) (by show w.heap.size < _; omega)).trans (h.a k), fun k => (hb.cell (p := ⟨w.heap.size + 1 + 1, k, none⟩) hf).trans (h.b k), fun k => (hb.frozen (p := ⟨w.heap.size + 1 + 1, k, none⟩) hf).trans (h.c k),
    fun j hj => ⟨by rw [hb.cell (p := ⟨w.heap.size + 1, 0 + j, none⟩) (by show w.heap.size + 1 < _; omega)]; exact (h.d j hj).1, by rw [hb.frozen (p := ⟨w.heap.size + 1, 0 + j, none⟩) (by show w.heap.size + 1 < _; omega)]; exact (h.d j hj).2⟩,
    bl_trans h.e hb, Nat.lt_of_lt_of_le hf hb.size⟩
theorem St3.set {w x : World} {L O : Array Value} (h : St3 w L O x) (j : Nat) (hj : j < O.size) (u : Value) : St3 w L (O.setIfInBounds j u) (x.setCell ⟨w.heap.size + 1 + 1, j, none⟩ u) := by
  have he : Ex (w.heap.size + 1 + 1) x (x.setCell ⟨w.heap.size + 1 + 1, j, none⟩ u) := (Ex.refl _ _).set j u
  have hf := h.f
  refine ⟨fun k => (he.cell (p := ⟨w.heap.size, k, none⟩) (by show w.heap.size < _; omega) (by show w.heap.size ≠ _; omega)).trans (h.a k), fun k => ?_, fun k => ?_, there_ex h.d (by omega) he (by omega), bl_set (p := ⟨w.heap.size + 1 + 1, j, none⟩) h.e (by show w.heap.size ≤ w.heap.size + 1 + 1; omega) u, Nat.lt_of_lt_of_le hf he.size⟩
  · by_cases e : k = j
    · subst e
      have h1 := h.b k
      have h2 := h.c k
      rw [Array.getElem?_eq_getElem hj] at h1
      rw [Array.getElem?_setIfInBounds_self_of_lt hj]
      exact World.cell?_setCell_same _ _ _ h1
    · rw [Array.getElem?_setIfInBounds_ne (fun h' => e h'.symm), ← h.b k]
      exact World.cell?_setCell_other _ _ _ _ (fun h' => e (by have := congrArg Addr.off h'; exact this.symm))
  · rw [World.frozen?_setCell]; exact h.c k
theorem st3_new (r : PlaceD) (w : World) : St3 w #[.string r.b, .int .i64 r.s, .slice r.a r.ws.length r.c] #[.string r.b, .int .i64 r.s, .slice none 0 0] (((w.alloc (.cells #[.string r.b, .int .i64 r.s, .slice r.a r.ws.length r.c] 149)).alloc (.cells #[.string { data := #[] }, .int .i64 0, .slice none 0 0] 151)).alloc (.cells #[.string r.b, .int .i64 r.s, .slice none 0 0] 151)) := by
  refine ⟨fun k => by simp [go_sem, World.cell?_alloc_past], fun k => by simp [go_sem], fun k => by simp [go_sem], fun j hj => ⟨by simp [go_sem, World.cell?_alloc_past] <;> omega, by simp [go_sem]⟩, bl_alloc (bl_alloc (bl_alloc (Below.refl _ _) _) _) _, by simp⟩

set_option maxRecDepth 4000 in
set_option maxHeartbeats 4000000 in
theorem toPlace (r : PlaceD) (w : World) (hi : r.inn w) (hl : r.ws.length ≤ 1048576) :
    Calls Try.prog 129 #[.agg #[.string r.b, .int .i64 r.s, .slice r.a r.ws.length r.c]] w fun e w' => (∃ g, e = .returned (.agg #[.string r.b, .int .i64 r.s, .slice (some ⟨g, 0, none⟩) r.ws.length r.ws.length]) ∧ w.heap.size ≤ g ∧ g < w'.heap.size ∧ W.RowsAt w' g 0 r.ws) ∧ Below w.heap.size w w' := by
  have S0 : Hid (St3 w #[.string r.b, .int .i64 r.s, .slice r.a r.ws.length r.c] #[.string r.b, .int .i64 r.s, .slice none 0 0] (((w.alloc (.cells #[.string r.b, .int .i64 r.s, .slice r.a r.ws.length r.c] 149)).alloc (.cells #[.string { data := #[] }, .int .i64 0, .slice none 0 0] 151)).alloc (.cells #[.string r.b, .int .i64 r.s, .slice none 0 0] 151))) := st3_new r w
  have Hi : Hid (r.inn w) := hi
  clear hi
  have hinfo : (Try.prog.info? 151).map (·.size) = some 3 := by kernel_rfl
  go_enter Try.func129, Try.ntmps129
  go_wp2_with fail
  have hto1 := W.to_in (Hi.out.2.keep S0.out.e) hl
  refine hto1.mono ?_
  clear hto1
  rintro e w1 ⟨rfl, r1, z1, c1⟩
  have T1 : Hid (St3 w #[.string r.b, .int .i64 r.s, .slice r.a r.ws.length r.c] #[.string r.b, .int .i64 r.s, .slice none 0 0] w1) := S0.out.below c1
  have ka1 := T1.out.a
  have ko1 := T1.out.b
  have kf1 := T1.out.c
  have kz1 := T1.out.f
  obtain ⟨B, hB1⟩ : ∃ B, B = (((w.alloc (.cells #[.string r.b, .int .i64 r.s, .slice r.a r.ws.length r.c] 149)).alloc (.cells #[.string { data := #[] }, .int .i64 0, .slice none 0 0] 151)).alloc (.cells #[.string r.b, .int .i64 r.s, .slice none 0 0] 151)).heap.size := ⟨_, rfl⟩
  have HB1 : Hid (w.heap.size + 1 + 1 < B) := by rw [hB1]; exact S0.out.f
  have Q1 : Hid (W.RowsAt w1 B 0 r.ws) := by rw [hB1]; exact r1
  have LT1 : Hid (B < w1.heap.size) := by rw [hB1]; exact z1
  rw [← hB1]
  clear hB1 r1 z1 c1
  have S1 : Hid (St3 w #[.string r.b, .int .i64 r.s, .slice r.a r.ws.length r.c] #[.string r.b, .int .i64 r.s, .slice (some ⟨B, 0, none⟩) r.ws.length r.ws.length] (w1.setCell ⟨w.heap.size + 1 + 1, 2, none⟩ (.slice (some ⟨B, 0, none⟩) r.ws.length r.ws.length))) := T1.out.set 2 (by simp) _
  have X1 : Hid (Ex (w.heap.size + 1 + 1) w1 (w1.setCell ⟨w.heap.size + 1 + 1, 2, none⟩ (.slice (some ⟨B, 0, none⟩) r.ws.length r.ws.length))) := Ex.set (Ex.refl _ _) 2 _
  have hx2 : Hid (Ex (w.heap.size + 1) (w1.setCell ⟨w.heap.size + 1 + 1, 2, none⟩ (.slice (some ⟨B, 0, none⟩) r.ws.length r.ws.length)) (World.setCells (w1.setCell ⟨w.heap.size + 1 + 1, 2, none⟩ (.slice (some ⟨B, 0, none⟩) r.ws.length r.ws.length)) (w.heap.size + 1) 0 [.string r.b, .int .i64 r.s, .slice (some ⟨B, 0, none⟩) r.ws.length r.ws.length])) := (Ex.refl _ _).cells _ _
  have RG : Hid _ := World.rangeAt_setCells_same (w1.setCell ⟨w.heap.size + 1 + 1, 2, none⟩ (.slice (some ⟨B, 0, none⟩) r.ws.length r.ws.length)) (w.heap.size + 1) 0 [.string r.b, .int .i64 r.s, .slice (some ⟨B, 0, none⟩) r.ws.length r.ws.length] S1.out.d
  have BE : Hid (Below w.heap.size w (World.setCells (w1.setCell ⟨w.heap.size + 1 + 1, 2, none⟩ (.slice (some ⟨B, 0, none⟩) r.ws.length r.ws.length)) (w.heap.size + 1) 0 [.string r.b, .int .i64 r.s, .slice (some ⟨B, 0, none⟩) r.ws.length r.ws.length])) := Ex.mono S1.out.e hx2.out (Nat.le_succ _)
  have RW : Hid (W.RowsAt (World.setCells (w1.setCell ⟨w.heap.size + 1 + 1, 2, none⟩ (.slice (some ⟨B, 0, none⟩) r.ws.length r.ws.length)) (w.heap.size + 1) 0 [.string r.b, .int .i64 r.s, .slice (some ⟨B, 0, none⟩) r.ws.length r.ws.length]) B 0 r.ws) := W.RowsAt.exq (W.RowsAt.exq Q1.out LT1.out X1.out (by have := HB1.out; omega)) (Nat.lt_of_lt_of_le LT1.out X1.out.size) hx2.out (by have := HB1.out; omega)
  have LB : Hid (w.heap.size ≤ B ∧ B < (World.setCells (w1.setCell ⟨w.heap.size + 1 + 1, 2, none⟩ (.slice (some ⟨B, 0, none⟩) r.ws.length r.ws.length)) (w.heap.size + 1) 0 [.string r.b, .int .i64 r.s, .slice (some ⟨B, 0, none⟩) r.ws.length r.ws.length]).heap.size) := ⟨by have := HB1.out; omega, Nat.lt_of_lt_of_le (Nat.lt_of_lt_of_le LT1.out X1.out.size) hx2.out.size⟩
  go_wp2_with (refine wpList_store_mid (by rfl) 151 _ _ (by rfl) (w.heap.size + 1) 0 #[.string r.b, .int .i64 r.s, .slice (some ⟨B, 0, none⟩) r.ws.length r.ws.length] (by rfl) (by rfl) (by exact S1.out.d) hinfo (by simp [Value.oneCell']) ?_)
  have hrg := RG.out
  have d0 := hrg 0 _ rfl
  have d1 := hrg 1 _ rfl
  have d2 := hrg 2 _ rfl
  simp only [Nat.zero_add] at d0 d1 d2
  exact bodyPost_ret (v := .agg #[.string r.b, .int .i64 r.s, .slice (some ⟨B, 0, none⟩) r.ws.length r.ws.length]) (by simp [results, Try.results129, go_sem, d0, d1, d2]) rfl ⟨⟨B, rfl, LB.out.1, LB.out.2, RW.out⟩, BE.out⟩

set_option maxRecDepth 4000 in
set_option maxHeartbeats 2000000 in
theorem toPlaceS (b off cap : Nat) (rs : List PlaceD) (w : World) (hR : RowsAt w b off rs) (hb : b < w.heap.size) (hf : ∀ r ∈ rs, r.inn w) (hl : rs.length ≤ 1048576) (hL : Lns rs) :
    Calls Try.prog 88 #[.slice (some ⟨b, off, none⟩) rs.length cap] w fun e w' => (∃ qs : List PlaceD, Like qs rs ∧ e = .returned (.slice (some ⟨w.heap.size, 0, none⟩) qs.length qs.length) ∧ RowsAt w' w.heap.size 0 qs ∧ (∀ q ∈ qs, q.blk w.heap.size w') ∧ w.heap.size < w'.heap.size) ∧ Below w.heap.size w w' := by
  obtain ⟨C, hC, hmk⟩ := make_places rs.length hl
  have hinfo : (Try.prog.info? 151).map (·.size) = some 3 := by kernel_rfl
  have HF : Hid _ := hf
  have HL : Hid _ := hL
  clear hf hL
  go_enter Try.func88, Try.ntmps88
  go_wp2
  go_loopw [4] (fun i wx => ∃ (k : Nat), k ≤ rs.length ∧ i = .int .i64 k ∧ Hid (∃ qs : List PlaceD, Like qs (rs.take k) ∧ RowsAt wx w.heap.size 0 qs ∧ ∀ q ∈ qs, q.blk w.heap.size wx) ∧ wx.there w.heap.size 0 (rs.length * 3) ∧ w.heap.size < wx.heap.size ∧ Below w.heap.size w wx) (fun i _ => rs.length - (intOf i).toNat)
  case atStart => exact ⟨0, Nat.zero_le _, rfl, ⟨[], rfl, (fun k r h => by simp at h), fun q hq => by cases hq⟩, there_new hC, by simp, bl_alloc (Below.refl _ _) _⟩
  case round =>
    obtain ⟨k, hk, rfl, Hq, hth, hgz, hB⟩ := hrel
    clear hmk
    by_cases hlt : k < rs.length
    · obtain ⟨r, hr⟩ : ∃ r, rs[k]? = some r := ⟨rs[k], List.getElem?_eq_getElem hlt⟩
      obtain ⟨c0, c1, c2⟩ := (hR.keep hb hB).at hr
      have Hr : Hid _ := hr
      clear hr
      go_wp2_with fail
      refine (toPlace r _ ((HF.out r (List.mem_of_getElem? Hr.out)).keep hB) (HL.out r (List.mem_of_getElem? Hr.out))).mono ?_
      rintro e w1 ⟨⟨g, rfl, g0, g1, hrw⟩, hb1⟩
      clear c0 c1 c2
      have hth1 : w1.there w.heap.size 0 (rs.length * 3) := fun j hj => ⟨by rw [hb1.cell (p := ⟨w.heap.size, 0 + j, none⟩) hgz]; exact (hth j hj).1, by rw [hb1.frozen (p := ⟨w.heap.size, 0 + j, none⟩) hgz]; exact (hth j hj).2⟩
      have hB1 := bl_trans hB hb1
      have hgz1 : w.heap.size < w1.heap.size := Nat.lt_of_lt_of_le hgz hb1.size
      have Hrw : Hid (w.heap.size < g ∧ g < w1.heap.size ∧ W.RowsAt w1 g 0 r.ws) := ⟨Nat.lt_of_lt_of_le hgz g0, g1, hrw⟩
      have Hq1 : Hid (∃ qs : List PlaceD, Like qs (rs.take k) ∧ RowsAt w1 w.heap.size 0 qs ∧ ∀ q ∈ qs, q.blk w.heap.size w1) := by
        obtain ⟨qs, q1, q2, q3⟩ := Hq.out
        exact ⟨qs, q1, q2.keep hgz hb1, fun q hq => (q3 q hq).keep hb1⟩
      clear hth hB hb1 hrw g0 g1 Hq
      go_wp2_with (refine wpList_store_mid (by rfl) 151 _ _ (by rfl) w.heap.size (k * 3) #[.string r.b, .int .i64 r.s, .slice (some ⟨g, 0, none⟩) r.ws.length r.ws.length] (by rfl) (by rfl) (by exact there_part hth1 hlt) hinfo (by simp [Value.oneCell']) ?_)
      have hex : Ex w.heap.size w1 (w1.setCells w.heap.size (k * 3) [.string r.b, .int .i64 r.s, .slice (some ⟨g, 0, none⟩) r.ws.length r.ws.length]) := (Ex.refl _ _).cells _ _
      refine ⟨⟨k + 1, by omega, by go_num, ?_, World.there_setCells hth1 _ _ _, Nat.lt_of_lt_of_le hgz1 hex.size, Ex.mono hB1 hex (Nat.le_refl _)⟩, by simp [intOf]; omega⟩
      obtain ⟨qs, q1, q2, q3⟩ := Hq1.out
      have hz : qs.length = k := by have := q1.len; rw [List.length_take] at this; omega
      refine ⟨qs ++ [⟨r.b, r.s, some ⟨g, 0, none⟩, r.ws.length, r.ws⟩], ?_, ?_, ?_⟩
      · have hr := Hr.out
        have he : rs[k] = r := by rw [List.getElem?_eq_getElem hlt] at hr; exact Option.some.inj hr
        unfold Like at q1 ⊢
        rw [List.take_succ_eq_append_getElem hlt, List.map_append, List.map_append, q1, he]
        rfl
      · have := rows_snoc (q := ⟨r.b, r.s, some ⟨g, 0, none⟩, r.ws.length, r.ws⟩) q2 (by rw [hz]; exact there_part hth1 hlt)
        rw [hz] at this
        exact this
      · intro q hq
        rcases List.mem_append.1 hq with h | h
        · exact (q3 q h).ex hex (Nat.le_refl _)
        · obtain rfl := List.mem_singleton.1 h
          exact PlaceD.blk.ex ⟨g, rfl, rfl, Hrw.out.1, Hrw.out.2.1, Hrw.out.2.2⟩ hex (Nat.le_refl _)
    · go_wp2
      go_ret
      have e : rs.take k = rs := List.take_of_length_le (by omega)
      obtain ⟨qs, q1, q2, q3⟩ := Hq.out
      rw [e] at q1
      exact ⟨⟨qs, q1, by rw [q1.len]; rfl, q2, q3, hgz⟩, hB⟩
theorem to_nil (a : Option Addr) (cap : Nat) (w : World) :
    Calls Try.prog 88 #[.slice a 0 cap] w fun e w' => e = .returned (.slice (some ⟨w.heap.size, 0, none⟩) 0 0) ∧ w.heap.size < w'.heap.size ∧ Below w.heap.size w w' := by
  obtain ⟨C, hC, hmk0⟩ := make_places 0 (by omega)
  have hmk : ∀ w : World, Sem.run Try.prog (Instr.makeSlice 70 (.int .i64 0) (.int .i64 0)) w = .ok (.slice (some ⟨w.heap.size, 0, none⟩) 0 0) (w.alloc (.cells C 151)) := fun w => hmk0 w
  clear hmk0 hC
  go_enter Try.func88, Try.ntmps88
  go_wp2
  refine wp_loop_rounds 1 ?_
  rw [rounds_succ]
  go_wp2
  go_ret
  exact ⟨rfl, by simp, bl_alloc (Below.refl _ _) _⟩
theorem to_in {w : World} {v : Value} {l : List PlaceD} (h : In w v l) (hl : l.length ≤ 1048576) (hL : Lns l) :
    Calls Try.prog 88 #[v] w fun e w' => (∃ qs : List PlaceD, Like qs l ∧ e = .returned (.slice (some ⟨w.heap.size, 0, none⟩) qs.length qs.length) ∧ RowsAt w' w.heap.size 0 qs ∧ (∀ q ∈ qs, q.blk w.heap.size w') ∧ w.heap.size < w'.heap.size) ∧ Below w.heap.size w w' := by
  rcases h with ⟨rfl, a, cap, rfl⟩ | ⟨b, off, cap, rfl, k2, k3, k4, k5⟩
  · refine (to_nil a cap w).mono ?_
    rintro e w' ⟨rfl, h1, h2⟩
    exact ⟨⟨[], rfl, rfl, (fun k r h => by simp at h), (fun q hq => by cases hq), h1⟩, h2⟩
  · exact toPlaceS b off cap l w k4 k3 k5 hl hL
end Go.Proofs.Ytehiopokicegeab.P
