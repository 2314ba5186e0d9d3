import Derived.Test.YtkebokkckmgloaaRows
import Derived.WalkKit
import Derived.WalkSpells
import Derived.WalkLawsBesides
import Derived.Below
import Derived.Outline
import Derived.Deep.MidRow
import Derived.Laws.MakeOwn
import Derived.Laws.AppendOwn
import Derived.Laws.EntriesVeiled
import Derived.Laws.StructEq
import Derived.Deep.RegionHeld3
import Derived.Laws.Pointers
import Derived.StillTactics
import Derived.Laws.BytesString
/- The contracts of what the exact laws are made of: sizes, copies of a want and of a run. -/
namespace Go.Proofs.Ytkebokkckmgloaa
open Go.RowKit

/-- Old cells and old marks, behind a call that only lays new blocks. -/
theorem bcell {W w1 : World} (hb : Below W.heap.size W w1) : (∀ b o, b < W.heap.size → w1.cell? ⟨b, o, none⟩ = W.cell? ⟨b, o, none⟩) ∧ (∀ b o, b < W.heap.size → w1.frozen? ⟨b, o, none⟩ = W.frozen? ⟨b, o, none⟩) :=
  ⟨fun b o h => hb.cell (p := ⟨b, o, none⟩) h, fun b o h => hb.frozen (p := ⟨b, o, none⟩) h⟩

theorem bl_alloc {w w' : World} (h : Below w.heap.size w w') (o : Obj) : Below w.heap.size w (w'.alloc o) := h.alloc h.size o
theorem bl_drew {w w' : World} (h : Below w.heap.size w w') : Below w.heap.size w w'.drew := h.drew
theorem bl_trans {w w1 w2 : World} (h : Below w.heap.size w w1) (k : Below w1.heap.size w1 w2) : Below w.heap.size w w2 := h.trans (k.mono h.size)
theorem bl_set {w w' : World} (h : Below w.heap.size w w') {p : Addr} (hp : w.heap.size ≤ p.block) (u : Value) : Below w.heap.size w (w'.setCell p u) := h.setCell hp u

/-- The box of a call's own parameter, behind later blocks. -/
theorem box_keep {w w1 : World} {o : Obj} (h : Below (w.alloc o).heap.size (w.alloc o) w1) : ∀ k, w1.cell? ⟨w.heap.size, k, none⟩ = (w.alloc o).cell? ⟨w.heap.size, k, none⟩ :=
  fun k => h.cell (p := ⟨w.heap.size, k, none⟩) (by simp)

theorem szWant_yes (c h : ByteArray) (v p s d g left : Int) (h0 : 0 ≤ left) (h1 : left ≤ 1048576) (k : (c.size : Int) + h.size ≤ left) (w : World) :
    Calls Try.prog 44 #[.agg #[.string c, .int .i64 v, .string h, .int .i64 p, .int .i64 s, .int .i64 d, .int .i64 g], .int .i64 left] w fun e w' => e = .returned (.int .i64 (left - c.size - h.size)) ∧ Below w.heap.size w w' := by
  go_enter Try.func44, Try.ntmps44
  go_wp2
  go_ret
  exact ⟨rfl, (Below.refl _ _).alloc (Nat.le_refl _) _⟩

theorem szWant_no (c h : ByteArray) (v p s d g left : Int) (h0 : 0 ≤ left) (h1 : left ≤ 1048576) (hc : c.size ≤ maxLen) (hh : h.size ≤ maxLen) (k : ¬ (c.size : Int) + h.size ≤ left) (w : World) :
    Calls Try.prog 44 #[.agg #[.string c, .int .i64 v, .string h, .int .i64 p, .int .i64 s, .int .i64 d, .int .i64 g], .int .i64 left] w fun e w' => e = .returned (.int .i64 (-1)) ∧ Below w.heap.size w w' := by
  unfold maxLen at hc hh
  by_cases k1 : (c.size : Int) ≤ left
  · go_enter Try.func44, Try.ntmps44
    go_wp2
    go_ret
    exact ⟨rfl, (Below.refl _ _).alloc (Nat.le_refl _) _⟩
  · go_enter Try.func44, Try.ntmps44
    go_wp2
    go_ret
    exact ⟨rfl, (Below.refl _ _).alloc (Nat.le_refl _) _⟩

theorem toWant_any (c h : ByteArray) (v p s d g : Int) (w : World) :
    Calls Try.prog 45 #[.agg #[.string c, .int .i64 v, .string h, .int .i64 p, .int .i64 s, .int .i64 d, .int .i64 g]] w fun e w' =>
      e = .returned (.agg #[.string c, .int .i64 v, .string h, .int .i64 p, .int .i64 s, .int .i64 d, .int .i64 g]) ∧ w' = ((w.alloc (.cells #[.string c, .int .i64 v, .string h, .int .i64 p, .int .i64 s, .int .i64 d, .int .i64 g] 51)).alloc (.cells #[.string c, .int .i64 v, .string h, .int .i64 p, .int .i64 s, .int .i64 d, .int .i64 g] 36)).alloc (.cells #[.string c, .int .i64 v, .string h, .int .i64 p, .int .i64 s, .int .i64 d, .int .i64 g] 36) := by
  go_enter Try.func45, Try.ntmps45
  go_wp2
  exact bodyPost_ret (v := .agg #[.string c, .int .i64 v, .string h, .int .i64 p, .int .i64 s, .int .i64 d, .int .i64 g]) (by simp [results, Try.results45, go_sem]) rfl ⟨rfl, rfl⟩

theorem toRun_any (c h : ByteArray) (v p s d g a b i u : Int) (w : World) :
    Calls Try.prog 34 #[.agg #[.string c, .int .i64 v, .string h, .int .i64 p, .int .i64 s, .int .i64 d, .int .i64 g, .int .i64 a, .int .i64 b, .int .i64 i, .int .i64 u]] w fun e w' =>
      e = .returned (.agg #[.string c, .int .i64 v, .string h, .int .i64 p, .int .i64 s, .int .i64 d, .int .i64 g, .int .i64 a, .int .i64 b, .int .i64 i, .int .i64 u]) ∧ Below w.heap.size w w' := by
  go_enter Try.func34, Try.ntmps34
  go_wp2_with (go_at_call 45; refine (toWant_any c h v p s d g _).mono ?_; rintro e w' ⟨rfl, rfl⟩)
  exact bodyPost_ret (v := .agg #[.string c, .int .i64 v, .string h, .int .i64 p, .int .i64 s, .int .i64 d, .int .i64 g, .int .i64 a, .int .i64 b, .int .i64 i, .int .i64 u]) (by simp [results, Try.results34, go_sem]) rfl ⟨rfl, bl_alloc (bl_alloc (bl_alloc (bl_alloc (bl_alloc (bl_alloc (Below.refl _ _) _) _) _) _) _) _⟩

theorem szRun_yes (c h : ByteArray) (v p s d g a b i u left : Int) (h0 : 0 ≤ left) (h1 : left ≤ 1048576) (k : (c.size : Int) + h.size ≤ left) (w : World) :
    Calls Try.prog 33 #[.agg #[.string c, .int .i64 v, .string h, .int .i64 p, .int .i64 s, .int .i64 d, .int .i64 g, .int .i64 a, .int .i64 b, .int .i64 i, .int .i64 u], .int .i64 left] w fun e w' => e = .returned (.int .i64 (left - c.size - h.size)) ∧ Below w.heap.size w w' := by
  go_enter Try.func33, Try.ntmps33
  go_wp2_with (go_at_call 44; refine (szWant_yes c h v p s d g left h0 h1 k _).mono ?_; rintro e w' ⟨rfl, hb⟩)
  go_ret
  exact ⟨rfl, bl_trans (bl_alloc (Below.refl _ _) _) hb⟩

theorem szRun_no (c h : ByteArray) (v p s d g a b i u left : Int) (h0 : 0 ≤ left) (h1 : left ≤ 1048576) (hc : c.size ≤ maxLen) (hh : h.size ≤ maxLen) (k : ¬ (c.size : Int) + h.size ≤ left) (w : World) :
    Calls Try.prog 33 #[.agg #[.string c, .int .i64 v, .string h, .int .i64 p, .int .i64 s, .int .i64 d, .int .i64 g, .int .i64 a, .int .i64 b, .int .i64 i, .int .i64 u], .int .i64 left] w fun e w' => e = .returned (.int .i64 (-1)) ∧ Below w.heap.size w w' := by
  go_enter Try.func33, Try.ntmps33
  go_wp2_with (go_at_call 44; refine (szWant_no c h v p s d g left h0 h1 hc hh k _).mono ?_; rintro e w' ⟨rfl, hb⟩)
  go_ret
  exact ⟨rfl, bl_trans (bl_alloc (Below.refl _ _) _) hb⟩

end Go.Proofs.Ytkebokkckmgloaa
/- Lists of runs in memory. -/
namespace Go.Proofs.Ytkebokkckmgloaa
open Go.RowKit
set_option linter.unusedVariables false

structure RunD where
  c : ByteArray
  h : ByteArray
  v : Int
  p : Int
  s : Int
  d : Int
  g : Int
  a : Int
  b : Int
  i : Int
  u : Int
def RunD.cells (r : RunD) : List Value := [.string r.c, .int .i64 r.v, .string r.h, .int .i64 r.p, .int .i64 r.s, .int .i64 r.d, .int .i64 r.g, .int .i64 r.a, .int .i64 r.b, .int .i64 r.i, .int .i64 r.u]
/-- What a run's parts may be. -/
def RunD.fits (r : RunD) : Prop := r.c.size ≤ maxLen ∧ r.h.size ≤ maxLen ∧ r.b ≤ 9223372036854775807 ∧ -9223372036854775808 ≤ r.i
/-- The runs rs lie in block b from off on. -/
def RowsAt (w : World) (b off : Nat) (rs : List RunD) : Prop := ∀ k r, rs[k]? = some r → w.rangeAt b (off + k * 11) r.cells

theorem RowsAt.keep {w w' : World} {b off : Nat} {rs : List RunD} (h : RowsAt w b off rs) (hb : b < w.heap.size) (hB : Below w.heap.size w w') : RowsAt w' b off rs :=
  fun k r hk j v hj => (hB.cell (p := ⟨b, off + k * 11 + j, none⟩) hb).trans (h k r hk j v hj)
theorem RowsAt.at {w : World} {b off : Nat} {rs : List RunD} (h : RowsAt w b off rs) {k : Nat} {r : RunD} (hk : rs[k]? = some r) :
    w.cell? ⟨b, off + k * 11, none⟩ = some (.string r.c) ∧ w.cell? ⟨b, off + k * 11 + 1, none⟩ = some (.int .i64 r.v) ∧ w.cell? ⟨b, off + k * 11 + 2, none⟩ = some (.string r.h) ∧ w.cell? ⟨b, off + k * 11 + 3, none⟩ = some (.int .i64 r.p) ∧ w.cell? ⟨b, off + k * 11 + 4, none⟩ = some (.int .i64 r.s) ∧ w.cell? ⟨b, off + k * 11 + 5, none⟩ = some (.int .i64 r.d) ∧ w.cell? ⟨b, off + k * 11 + 6, none⟩ = some (.int .i64 r.g) ∧ w.cell? ⟨b, off + k * 11 + 7, none⟩ = some (.int .i64 r.a) ∧ w.cell? ⟨b, off + k * 11 + 8, none⟩ = some (.int .i64 r.b) ∧ w.cell? ⟨b, off + k * 11 + 9, none⟩ = some (.int .i64 r.i) ∧ w.cell? ⟨b, off + k * 11 + 10, none⟩ = some (.int .i64 r.u) :=
  ⟨h k r hk 0 _ rfl, h k r hk 1 _ rfl, h k r hk 2 _ rfl, h k r hk 3 _ rfl, h k r hk 4 _ rfl, h k r hk 5 _ rfl, h k r hk 6 _ rfl, h k r hk 7 _ rfl, h k r hk 8 _ rfl, h k r hk 9 _ rfl, h k r hk 10 _ rfl⟩

set_option maxHeartbeats 1000000 in
theorem szRunS (b off cap : Nat) (rs : List RunD) (left : Int) (w : World) (hR : RowsAt w b off rs) (hb : b < w.heap.size) (hf : ∀ r ∈ rs, r.fits) (h0 : 0 ≤ left) (h1 : left ≤ 1048576) (hl : rs.length ≤ maxLen) :
    Calls Try.prog 35 #[.slice (some ⟨b, off, none⟩) rs.length cap, .int .i64 left] w fun e w' => (e = .returned (.int .i64 (-1)) ∨ ∃ m : Int, e = .returned (.int .i64 m) ∧ 0 ≤ m ∧ (rs.length : Int) ≤ left) ∧ Below w.heap.size w w' := by
  unfold maxLen at hl
  by_cases hn : (rs.length : Int) ≤ left
  · go_enter Try.func35, Try.ntmps35
    go_wp2
    go_loopw [1, 5] (fun l i wx => ∃ (k : Nat) (lv : Int), k ≤ rs.length ∧ i = .int .i64 k ∧ l = .int .i64 lv ∧ 0 ≤ lv ∧ lv ≤ 1048576 ∧ Below w.heap.size w wx) (fun _ i _ => rs.length - (intOf i).toNat)
    case atStart => exact ⟨0, _, Nat.zero_le _, rfl, rfl, by omega, by omega, Below.refl _ _⟩
    case round =>
      obtain ⟨k, lv, hk, rfl, rfl, l0, l1, hB⟩ := hrel
      by_cases hlt : k < rs.length
      · obtain ⟨r, hr⟩ : ∃ r, rs[k]? = some r := ⟨rs[k], List.getElem?_eq_getElem hlt⟩
        obtain ⟨c0, c1, c2, c3, c4, c5, c6, c7, c8, c9, c10⟩ := (hR.keep hb hB).at hr
        have hfr : r.fits := hf r (List.mem_of_getElem? hr)
        clear hr
        by_cases hsz : (r.c.size : Int) + r.h.size ≤ lv
        · go_wp2_with fail
          refine (szRun_yes r.c r.h r.v r.p r.s r.d r.g r.a r.b r.i r.u lv l0 l1 hsz _).mono ?_
          rintro e w1 ⟨rfl, hb1⟩
          go_wp2
          exact ⟨⟨k + 1, _, by omega, by go_num, rfl, by omega, by omega, bl_trans hB hb1⟩, by simp [intOf]; omega⟩
        · go_wp2_with fail
          refine (szRun_no r.c r.h r.v r.p r.s r.d r.g r.a r.b r.i r.u lv l0 l1 hfr.1 hfr.2.1 (by omega) _).mono ?_
          rintro e w1 ⟨rfl, hb1⟩
          go_wp2
          go_ret
          exact ⟨Or.inl rfl, bl_trans hB hb1⟩
      · go_wp2
        go_ret
        exact ⟨Or.inr ⟨_, rfl, l0, hn⟩, hB⟩
  · go_enter Try.func35, Try.ntmps35
    go_wp2
    go_ret
    exact ⟨Or.inl rfl, Below.refl _ _⟩
end Go.Proofs.Ytkebokkckmgloaa
/- A list of runs is copied. -/
namespace Go.Proofs.Ytkebokkckmgloaa
open Go.RowKit
set_option linter.unusedVariables false

theorem make_runs (n : Nat) (hn : n ≤ 1048576) : ∃ C : Array Value, C.size = n * 11 ∧ ∀ w : World, Sem.run Try.prog (Instr.makeSlice 24 (.int .i64 (n : Int)) (.int .i64 (n : Int))) w = .ok (.slice (some ⟨w.heap.size, 0, none⟩) n n) (w.alloc (.cells C 38)) := by
  have hq : (Try.prog.info? 38).map (fun i => (i.size, i.bytes, i.zero)) = some (11, 104, some (.agg #[.string ⟨#[]⟩, .int .i64 0, .string ⟨#[]⟩, .int .i64 0, .int .i64 0, .int .i64 0, .int .i64 0, .int .i64 0, .int .i64 0, .int .i64 0, .int .i64 0])) := by kernel_rfl
  cases hi : Try.prog.info? 38 with
  | none => rw [hi] at hq; simp at hq
  | some i =>
    rw [hi] at hq
    simp only [Option.map_some, Option.some.injEq, Prod.mk.injEq] at hq
    obtain ⟨h1, h2, h3⟩ := hq
    refine ⟨madeCells (Value.cells (.agg #[.string ⟨#[]⟩, .int .i64 0, .string ⟨#[]⟩, .int .i64 0, .int .i64 0, .int .i64 0, .int .i64 0, .int .i64 0, .int .i64 0, .int .i64 0, .int .i64 0])) (n * i.size), (size_madeCells _ _).trans (by rw [h1]), fun w => ?_⟩
    have := run_make (P := Try.prog) w 24 38 i _ Try.underlying24 hi h3 .i64 .i64 n n (by omega) (by omega) (by rw [h2]; omega) (by omega)
    simpa using this

theorem bl_cells {A : World} {k : Nat} (hk : A.heap.size ≤ k) : ∀ (vs : List Value) (o : Nat) (w' : World), Below A.heap.size A w' → Below A.heap.size A (w'.setCells k o vs)
  | [], _, _, h => h
  | v :: r, o, w', h => bl_cells hk r (o + 1) _ (bl_set h (by exact hk) v)
theorem size_cells {k : Nat} : ∀ (vs : List Value) (o : Nat) (w' : World), (w'.setCells k o vs).heap.size = w'.heap.size
  | [], _, _ => rfl
  | v :: r, o, w' => (size_cells r (o + 1) _).trans (by simp [World.setCell])
theorem there_keep {x y : World} {k o n : Nat} (h : x.there k o n) (hk : k < x.heap.size) (hb : Below x.heap.size x y) : y.there k o n :=
  fun j hj => ⟨by rw [hb.cell (p := ⟨k, o + j, none⟩) hk]; exact (h j hj).1, by rw [hb.frozen (p := ⟨k, o + j, none⟩) hk]; exact (h j hj).2⟩
theorem there_part {x : World} {g n k : Nat} (h : x.there g 0 (n * 11)) (hk : k < n) : x.there g (k * 11) 11 :=
  fun j hj => by have := h (k * 11 + j) (by omega); simpa using this
theorem there_new {w : World} {C : Array Value} {t : TypeId} {n : Nat} (hC : C.size = n * 11) : (w.alloc (.cells C t)).there w.heap.size 0 (n * 11) :=
  fun j hj => ⟨by simp [go_sem]; omega, by simp [go_sem]⟩
theorem rows_step {x : World} {g k : Nat} {rs : List RunD} {r : RunD} (hr : rs[k]? = some r) (h : RowsAt x g 0 (rs.take k)) (ht : x.there g (k * 11) 11) : RowsAt (x.setCells g (k * 11) r.cells) g 0 (rs.take (k + 1)) := by
  intro j q hj
  rw [List.getElem?_take] at hj
  split at hj
  case isFalse => cases hj
  rename_i hlt
  by_cases e : j = k
  · subst e
    rw [hr] at hj
    cases hj
    have := World.rangeAt_setCells_same x g (j * 11) r.cells ht
    simpa using this
  · have hj' : (rs.take k)[j]? = some q := by rw [List.getElem?_take, if_pos (by omega)]; exact hj
    exact World.rangeAt_setCells_apart (h j q hj') g (k * 11) r.cells (Or.inr (Or.inl (by show 0 + j * 11 + 11 ≤ k * 11; omega)))

set_option maxHeartbeats 1000000 in
theorem toRunS (b off cap : Nat) (rs : List RunD) (w : World) (hR : RowsAt w b off rs) (hb : b < w.heap.size) (hl : rs.length ≤ 1048576) :
    Calls Try.prog 37 #[.slice (some ⟨b, off, none⟩) rs.length cap] w fun e w' => e = .returned (.slice (some ⟨w.heap.size, 0, none⟩) rs.length rs.length) ∧ RowsAt w' w.heap.size 0 rs ∧ w'.there w.heap.size 0 (rs.length * 11) ∧ w.heap.size < w'.heap.size ∧ Below w.heap.size w w' := by
  obtain ⟨C, hC, hmk⟩ := make_runs rs.length hl
  have hinfo : (Try.prog.info? 38).map (·.size) = some 11 := by kernel_rfl
  go_enter Try.func37, Try.ntmps37
  go_wp2
  go_loopw [4] (fun i wx => ∃ (k : Nat), k ≤ rs.length ∧ i = .int .i64 k ∧ RowsAt wx w.heap.size 0 (rs.take k) ∧ wx.there w.heap.size 0 (rs.length * 11) ∧ w.heap.size < wx.heap.size ∧ Below w.heap.size w wx) (fun i _ => rs.length - (intOf i).toNat)
  case atStart => exact ⟨0, Nat.zero_le _, rfl, fun k r h => by simp at h, there_new hC, by simp, bl_alloc (Below.refl _ _) _⟩
  case round =>
    obtain ⟨k, hk, rfl, hrows, hth, hgz, hB⟩ := hrel
    clear hmk
    by_cases hlt : k < rs.length
    · obtain ⟨r, hr⟩ : ∃ r, rs[k]? = some r := ⟨rs[k], List.getElem?_eq_getElem hlt⟩
      obtain ⟨c0, c1, c2, c3, c4, c5, c6, c7, c8, c9, c10⟩ := (hR.keep hb hB).at hr
      have Hr : Hid _ := hr
      clear hr
      go_wp2_with fail
      refine (toRun_any r.c r.h r.v r.p r.s r.d r.g r.a r.b r.i r.u _).mono ?_
      rintro e w1 ⟨rfl, hb1⟩
      clear c0 c1 c2 c3 c4 c5 c6 c7 c8 c9 c10
      have hth1 := there_keep hth hgz hb1
      have hrows1 := hrows.keep hgz hb1
      have hB1 := bl_trans hB hb1
      have hgz1 : w.heap.size < w1.heap.size := Nat.lt_of_lt_of_le hgz hb1.size
      clear hth hrows hB hb1
      go_wp2_with (refine wpList_store_mid (by rfl) 38 _ _ (by rfl) w.heap.size (k * 11) #[.string r.c, .int .i64 r.v, .string r.h, .int .i64 r.p, .int .i64 r.s, .int .i64 r.d, .int .i64 r.g, .int .i64 r.a, .int .i64 r.b, .int .i64 r.i, .int .i64 r.u] (by rfl) (by rfl) (by exact there_part hth1 hlt) hinfo (by simp [Value.oneCell']) ?_)
      exact ⟨⟨k + 1, by omega, by go_num, rows_step Hr.out hrows1 (there_part hth1 hlt), World.there_setCells hth1 _ _ _, by rw [size_cells]; exact hgz1, bl_cells (Nat.le_refl _) _ _ _ hB1⟩, by simp [intOf]; omega⟩
    · go_wp2
      go_ret
      have e : rs.take k = rs := List.take_of_length_le (by omega)
      rw [e] at hrows
      exact ⟨rfl, hrows, hth, hgz, hB⟩
end Go.Proofs.Ytkebokkckmgloaa
/- Nothing has turned but for one block. -/
namespace Go.Proofs.Ytkebokkckmgloaa
open Go.RowKit
set_option linter.unusedVariables false

/-- Nothing that was there has turned but for one block. -/
structure Ex (kr : Nat) (w w' : World) : Prop where
  os : w'.os = w.os
  tape : w'.tape = w.tape
  output : w'.output = w.output
  size : w.heap.size ≤ w'.heap.size
  block : ∀ k, k < w.heap.size → k ≠ kr → w'.heap[k]? = w.heap[k]?
theorem Ex.refl (kr : Nat) (w : World) : Ex kr w w := ⟨rfl, rfl, rfl, Nat.le_refl _, fun _ _ _ => rfl⟩
theorem Ex.trans {kr : Nat} {a b c : World} (h : Ex kr a b) (k : Ex kr b c) : Ex kr a c :=
  ⟨k.os.trans h.os, k.tape.trans h.tape, k.output.trans h.output, Nat.le_trans h.size k.size, fun i hi hne => (k.block i (Nat.lt_of_lt_of_le hi h.size) hne).trans (h.block i hi hne)⟩
theorem Ex.of_below {kr : Nat} {a b : World} (h : Below a.heap.size a b) : Ex kr a b := ⟨h.os, h.tape, h.output, h.size, fun i hi _ => h.block i hi⟩
theorem Ex.below {kr B : Nat} {a b : World} (h : Ex kr a b) (hB : B ≤ kr) (hz : B ≤ a.heap.size) : Below B a b := ⟨h.os, h.tape, h.output, h.size, fun i hi => h.block i (by omega) (by omega)⟩
theorem Ex.set {kr : Nat} {a b : World} (h : Ex kr a b) (o : Nat) (u : Value) : Ex kr a (b.setCell ⟨kr, o, none⟩ u) :=
  h.trans ⟨rfl, rfl, rfl, by simp [World.setCell], fun i hi hne => Below.heap_setCell _ _ _ _ hne⟩
theorem Ex.drewN {kr : Nat} {a b : World} (h : Ex kr a b) (n : Nat) : Ex kr a (b.drewN n) := ⟨h.os, h.tape, h.output, h.size, h.block⟩
theorem Ex.cell {kr : Nat} {a b : World} (h : Ex kr a b) {p : Addr} (hp : p.block < a.heap.size) (hne : p.block ≠ kr) : b.cell? p = a.cell? p := World.cell?_of_block (w := a) (h.block p.block hp hne)
theorem Ex.frozen {kr : Nat} {a b : World} (h : Ex kr a b) {p : Addr} (hp : p.block < a.heap.size) (hne : p.block ≠ kr) : b.frozen? p = a.frozen? p := World.frozen?_of_block (w := a) (h.block p.block hp hne)

theorem Ex.cells {kr : Nat} : ∀ (vs : List Value) (o : Nat) {a b : World}, Ex kr a b → Ex kr a (b.setCells kr o vs)
  | [], _, _, _, h => h
  | v :: r, o, _, _, h => Ex.cells r (o + 1) (h.set o v)
theorem Ex.mono {kr : Nat} {a b c : World} (h : Below a.heap.size a b) (k : Ex kr b c) (hk : a.heap.size ≤ kr) : Below a.heap.size a c := h.trans (k.below hk h.size)
theorem there_ex {kr : Nat} {x y : World} {k o n : Nat} (h : x.there k o n) (hk : k < x.heap.size) (hE : Ex kr x y) (hne : k ≠ kr) : y.there k o n :=
  fun j hj => ⟨by rw [hE.cell (p := ⟨k, o + j, none⟩) hk hne]; exact (h j hj).1, by rw [hE.frozen (p := ⟨k, o + j, none⟩) hk hne]; exact (h j hj).2⟩
theorem there_keep2 {x y : World} {k o n : Nat} (h : x.there k o n) (hk : k < x.heap.size) (hb : Below x.heap.size x y) : y.there k o n :=
  fun j hj => ⟨by rw [hb.cell (p := ⟨k, o + j, none⟩) hk]; exact (h j hj).1, by rw [hb.frozen (p := ⟨k, o + j, none⟩) hk]; exact (h j hj).2⟩
theorem range_keep {w w' : World} {b o : Nat} {vs : List Value} (h : w.rangeAt b o vs) (hb : b < w.heap.size) (hB : Below w.heap.size w w') : w'.rangeAt b o vs :=
  fun j v hj => (hB.cell (p := ⟨b, o + j, none⟩) hb).trans (h j v hj)
theorem range_append {w : World} {b o : Nat} {xs ys : List Value} (h1 : w.rangeAt b o xs) (h2 : w.rangeAt b (o + xs.length) ys) : w.rangeAt b o (xs ++ ys) := by
  intro j v hj
  rcases Nat.lt_or_ge j xs.length with hl | hl
  · rw [List.getElem?_append_left hl] at hj; exact h1 j v hj
  · rw [List.getElem?_append_right hl] at hj
    have := h2 (j - xs.length) v hj
    rwa [show o + xs.length + (j - xs.length) = o + j from by omega] at this
end Go.Proofs.Ytkebokkckmgloaa
/- Rows of runs, behind a step that turns one block. -/
namespace Go.Proofs.Ytkebokkckmgloaa
open Go.RowKit
set_option linter.unusedVariables false

theorem RowsAt.ex {kr : Nat} {w w' : World} {b off : Nat} {rs : List RunD} (h : RowsAt w b off rs) (hb : b < w.heap.size) (hE : Ex kr w w') (hne : b ≠ kr) : RowsAt w' b off rs :=
  fun k r hk j v hj => (hE.cell (p := ⟨b, off + k * 11 + j, none⟩) hb hne).trans (h k r hk j v hj)
end Go.Proofs.Ytkebokkckmgloaa
/- A list of runs in a row that the call itself made. -/
namespace Go.Proofs.Ytkebokkckmgloaa
open Go.RowKit
set_option linter.unusedVariables false

def flatR (rs : List RunD) : List Value := rs.flatMap RunD.cells
theorem flatR_len : ∀ rs : List RunD, (flatR rs).length = rs.length * 11
  | [] => rfl
  | r :: rs => by
    have := flatR_len rs
    simp only [flatR, List.flatMap_cons, List.length_append] at this ⊢
    simp only [this, List.length_cons]
    show 11 + rs.length * 11 = _
    omega
theorem flatR_snoc (rs : List RunD) (r : RunD) : flatR (rs ++ [r]) = flatR rs ++ r.cells := by simp [flatR]
theorem flatR_at : ∀ (rs : List RunD) (k : Nat) (r : RunD), rs[k]? = some r → ∀ j, j < 11 → (flatR rs)[k * 11 + j]? = r.cells[j]?
  | [], k, r, h, j, hj => by simp at h
  | q :: rs, 0, r, h, j, hj => by
    simp at h; subst h
    rw [flatR, List.flatMap_cons, List.getElem?_append_left (by show _ < 11; omega)]
    simp
  | q :: rs, k + 1, r, h, j, hj => by
    have ih := flatR_at rs k r (by simpa using h) j hj
    rw [flatR, List.flatMap_cons, List.getElem?_append_right (by show 11 ≤ _; omega)]
    rw [← ih]
    show (flatR rs)[(k + 1) * 11 + j - 11]? = _
    rw [show (k + 1) * 11 + j - 11 = k * 11 + j from by omega]
theorem flatR_one (rs : List RunD) : ∀ u ∈ flatR rs, u.oneCell' = true := by
  intro u hu
  obtain ⟨r, -, h⟩ := List.mem_flatMap.1 hu
  simp [RunD.cells] at h
  rcases h with rfl | rfl | rfl | rfl | rfl | rfl | rfl | rfl | rfl | rfl | rfl <;> rfl

theorem rows_of_owns {w : World} {base : Nat} {v : Value} {rs : List RunD} (h : w.ownsRow base 38 11 v rs.length (flatR rs)) :
    (v = .slice none 0 0 ∧ rs = []) ∨ ∃ g cap, v = .slice (some ⟨g, 0, none⟩) rs.length cap ∧ base ≤ g ∧ g < w.heap.size ∧ RowsAt w g 0 rs ∧ w.there g 0 (rs.length * 11) := by
  obtain ⟨hl, ⟨rfl, hn⟩ | ⟨g, cap, cur, rfl, hb, hg, hnc, hcm, hcs, htk⟩⟩ := h
  · exact Or.inl ⟨rfl, List.length_eq_zero_iff.1 hn⟩
  · refine Or.inr ⟨g, cap, rfl, hb, (Array.getElem?_eq_some_iff.1 hg).1, ?_, ?_⟩
    · intro k r hk j u hj
      have hj11 : j < 11 := by
        rcases Nat.lt_or_ge j 11 with h' | h'
        · exact h'
        · rw [List.getElem?_eq_none (by simpa [RunD.cells] using h')] at hj; cases hj
      have hf := flatR_at rs k r hk j hj11
      rw [hj, ← htk, List.getElem?_take] at hf
      split at hf
      · rw [cell_of_row w g _ cur _ (0, 0) hg, Nat.zero_add]
        simpa using hf
      · cases hf
    · intro j hj
      have hlt : j < cur.size := by
        have : rs.length * 11 ≤ cap * 11 := Nat.mul_le_mul_right 11 hnc
        omega
      refine ⟨?_, ?_⟩
      · rw [cell_of_row w g _ cur _ (0, 0) hg, Nat.zero_add]
        simp [Array.getElem?_eq_getElem hlt]
      · simp [World.frozen?, hg]

theorem owns_below {x y : World} {base : Nat} {e : TypeId} {size : Nat} {v : Value} {n : Nat} {xs : List Value} (h : x.ownsRow base e size v n xs) (hb : Below x.heap.size x y) : y.ownsRow base e size v n xs :=
  h.kept (row := none) ⟨hb.os, hb.tape, hb.output, hb.size, fun k hk _ => hb.block k hk⟩ (by cases hv : v.ownBlock <;> simp)
theorem owns_ge {x : World} {base : Nat} {e : TypeId} {size : Nat} {v : Value} {n : Nat} {xs : List Value} (h : x.ownsRow base e size v n xs) : ∀ k, v.ownBlock = some k → base ≤ k := fun k hk => (h.lt k hk).1
theorem new_cells (x : World) (N : Nat) (hN : N = x.heap.size) (arr : Array Value) (t : TypeId) (vs : List Value) (hv : arr.toList = vs) : ∀ j u, vs[j]? = some u → (x.alloc (.cells arr t)).cell? ((⟨N, 0, none⟩ : Addr).add j) = some u := by
  intro j u hj
  subst hN hv
  rw [Addr.add_mid, Nat.zero_add, World.cell?_alloc_new]
  simpa using hj
theorem cellsR_one (r : RunD) : ∀ u ∈ r.cells, u.oneCell' = true := fun u hu => flatR_one [r] u (by simpa [flatR] using hu)
theorem infoR : (Try.prog.info? 38).map (fun i => (i.zero, i.size, i.bytes)) = some (some (.agg #[.string ⟨#[]⟩, .int .i64 0, .string ⟨#[]⟩, .int .i64 0, .int .i64 0, .int .i64 0, .int .i64 0, .int .i64 0, .int .i64 0, .int .i64 0, .int .i64 0]), 11, 104) := by kernel_rfl
end Go.Proofs.Ytkebokkckmgloaa
/- Is a state alive? -/
namespace Go.Proofs.Ytkebokkckmgloaa
open Go.RowKit

def aliveB (a : Int) : Bool := a == 3 || a == 4 || a == 6

theorem alive_any (a : Int) (w : World) :
    Calls Try.prog 76 #[.int .i64 a] w fun e w' => e = .returned (.bool (aliveB a)) ∧ w' = w := by
  by_cases h3 : a = 3
  · subst h3
    go_enter Try.func76, Try.ntmps76
    go_wp2
    go_ret
    exact ⟨rfl, rfl⟩
  · by_cases h4 : a = 4
    · subst h4
      go_enter Try.func76, Try.ntmps76
      go_wp2
      go_ret
      exact ⟨rfl, rfl⟩
    · have e3 : (a == 3) = false := by simpa using h3
      have e4 : (a == 4) = false := by simpa using h4
      have ea : aliveB a = (a == 6) := by simp [aliveB, e3, e4]
      rw [ea]
      clear ea h3 h4
      go_enter Try.func76, Try.ntmps76
      go_wp2
      go_ret
      exact ⟨rfl, rfl⟩

end Go.Proofs.Ytkebokkckmgloaa
/- A run as the program has it, and what it may. -/
namespace Go.Proofs.Ytkebokkckmgloaa
open Go.RowKit
set_option linter.unusedVariables false

theorem runOf_any (c h : ByteArray) (v p s d g a b i u : Int) (w : World) :
    Calls Try.prog 80 #[.agg #[.string c, .int .i64 v, .string h, .int .i64 p, .int .i64 s, .int .i64 d, .int .i64 g, .int .i64 a, .int .i64 b, .int .i64 i, .int .i64 u]] w fun e w' => e = .returned (.agg #[.string c, .int .i64 v, .string h, .int .i64 p, .int .i64 s, .int .i64 d, .int .i64 g, .int .i64 a, .int .i64 b, .int .i64 i, .int .i64 u]) ∧ w' = (w.alloc (.cells #[.string c, .int .i64 v, .string h, .int .i64 p, .int .i64 s, .int .i64 d, .int .i64 g, .int .i64 a, .int .i64 b, .int .i64 i, .int .i64 u] 38)).alloc (.cells #[.string c, .int .i64 v, .string h, .int .i64 p, .int .i64 s, .int .i64 d, .int .i64 g, .int .i64 a, .int .i64 b, .int .i64 i, .int .i64 u] 108) := by
  go_enter Try.func80, Try.ntmps80
  go_wp2
  exact bodyPost_ret (v := .agg #[.string c, .int .i64 v, .string h, .int .i64 p, .int .i64 s, .int .i64 d, .int .i64 g, .int .i64 a, .int .i64 b, .int .i64 i, .int .i64 u]) (by simp [results, Try.results80, go_sem]) rfl ⟨rfl, rfl⟩

/-- Has a run its hold for long enough, or none? -/
def leasedB (h : ByteArray) (u clock : Int) : Bool := h.toList.isEmpty || decide (wrap64 (clock + 4) ≤ u)

theorem mayLive_any (c h : ByteArray) (v p s d g a b i u clock : Int) (w : World) :
    Calls Try.prog 148 #[.agg #[.string c, .int .i64 v, .string h, .int .i64 p, .int .i64 s, .int .i64 d, .int .i64 g, .int .i64 a, .int .i64 b, .int .i64 i, .int .i64 u], .int .i64 clock] w fun e w' => e = .returned (.bool (leasedB h u clock)) ∧ w' = w.alloc (.cells #[.string c, .int .i64 v, .string h, .int .i64 p, .int .i64 s, .int .i64 d, .int .i64 g, .int .i64 a, .int .i64 b, .int .i64 i, .int .i64 u] 108) := by
  unfold leasedB
  cases hh : h.toList.isEmpty
  · go_enter Try.func148, Try.ntmps148
    go_wp2
    go_ret
    exact ⟨by simp, rfl⟩
  · go_enter Try.func148, Try.ntmps148
    go_wp2
    go_ret
    exact ⟨by simp, rfl⟩

theorem leased_any (c h : ByteArray) (v p s d g a b i u clock : Int) (w : World) :
    Calls Try.prog 98 #[.agg #[.string c, .int .i64 v, .string h, .int .i64 p, .int .i64 s, .int .i64 d, .int .i64 g, .int .i64 a, .int .i64 b, .int .i64 i, .int .i64 u], .int .i64 clock] w fun e w' => e = .returned (.bool (leasedB h u clock)) ∧ w' = w.alloc (.cells #[.string c, .int .i64 v, .string h, .int .i64 p, .int .i64 s, .int .i64 d, .int .i64 g, .int .i64 a, .int .i64 b, .int .i64 i, .int .i64 u] 38) := by
  unfold leasedB
  cases hh : h.toList.isEmpty
  · go_enter Try.func98, Try.ntmps98
    go_wp2
    go_ret
    exact ⟨by simp, rfl⟩
  · go_enter Try.func98, Try.ntmps98
    go_wp2
    go_ret
    exact ⟨by simp, rfl⟩

theorem specAlive_x (c h : ByteArray) (v p s d g a b i u : Int) (w : World) :
    Calls Try.prog 22 #[.agg #[.string c, .int .i64 v, .string h, .int .i64 p, .int .i64 s, .int .i64 d, .int .i64 g, .int .i64 a, .int .i64 b, .int .i64 i, .int .i64 u]] w fun e w' => e = .returned (.bool (aliveB a)) ∧ w' = w.alloc (.cells #[.string c, .int .i64 v, .string h, .int .i64 p, .int .i64 s, .int .i64 d, .int .i64 g, .int .i64 a, .int .i64 b, .int .i64 i, .int .i64 u] 38) := by
  by_cases h3 : a = 3
  · subst h3
    go_enter Try.func22, Try.ntmps22
    go_wp2
    go_ret
    exact ⟨rfl, rfl⟩
  · by_cases h4 : a = 4
    · subst h4
      go_enter Try.func22, Try.ntmps22
      go_wp2
      go_ret
      exact ⟨rfl, rfl⟩
    · have e3 : (a == 3) = false := by simpa using h3
      have e4 : (a == 4) = false := by simpa using h4
      have ea : aliveB a = (a == 6) := by simp [aliveB, e3, e4]
      rw [ea]
      clear ea h3 h4
      go_enter Try.func22, Try.ntmps22
      go_wp2
      go_ret
      exact ⟨rfl, rfl⟩

end Go.Proofs.Ytkebokkckmgloaa
/- What a run answers that is told, or waits. -/
namespace Go.Proofs.Ytkebokkckmgloaa
open Go.RowKit
set_option linter.unusedVariables false

theorem told_any (c h : ByteArray) (v p s d g a b i u : Int) (w : World) :
    Calls Try.prog 82 #[.agg #[.string c, .int .i64 v, .string h, .int .i64 p, .int .i64 s, .int .i64 d, .int .i64 g, .int .i64 a, .int .i64 b, .int .i64 i, .int .i64 u]] w fun e w' => e = .returned (.agg #[.string c, .int .i64 v, .string h, .int .i64 p, .int .i64 s, .int .i64 d, .int .i64 g, .int .i64 a, .int .i64 b, .int .i64 i, .int .i64 u]) ∧ w' = (w.alloc (.cells #[.string c, .int .i64 v, .string h, .int .i64 p, .int .i64 s, .int .i64 d, .int .i64 g, .int .i64 a, .int .i64 b, .int .i64 i, .int .i64 u] 108)).alloc (.cells #[.string c, .int .i64 v, .string h, .int .i64 p, .int .i64 s, .int .i64 d, .int .i64 g, .int .i64 a, .int .i64 b, .int .i64 i, .int .i64 u] 38) := by
  go_enter Try.func82, Try.ntmps82
  go_wp2
  exact bodyPost_ret (v := .agg #[.string c, .int .i64 v, .string h, .int .i64 p, .int .i64 s, .int .i64 d, .int .i64 g, .int .i64 a, .int .i64 b, .int .i64 i, .int .i64 u]) (by simp [results, Try.results82, go_sem]) rfl ⟨rfl, rfl⟩

theorem waiting_any (c h : ByteArray) (v p s d g a b i u : Int) (w : World) :
    Calls Try.prog 149 #[.agg #[.string c, .int .i64 v, .string h, .int .i64 p, .int .i64 s, .int .i64 d, .int .i64 g, .int .i64 a, .int .i64 b, .int .i64 i, .int .i64 u]] w fun e w' => e = .returned (.agg #[.string c, .int .i64 v, .string h, .int .i64 p, .int .i64 s, .int .i64 d, .int .i64 g, .int .i64 2, .int .i64 0, .int .i64 i, .int .i64 u]) ∧ w' = (w.alloc (.cells #[.string c, .int .i64 v, .string h, .int .i64 p, .int .i64 s, .int .i64 d, .int .i64 g, .int .i64 2, .int .i64 0, .int .i64 i, .int .i64 u] 108)).alloc (.cells #[.string c, .int .i64 v, .string h, .int .i64 p, .int .i64 s, .int .i64 d, .int .i64 g, .int .i64 2, .int .i64 0, .int .i64 i, .int .i64 u] 108) := by
  go_enter Try.func149, Try.ntmps149
  go_wp2
  exact bodyPost_ret (v := .agg #[.string c, .int .i64 v, .string h, .int .i64 p, .int .i64 s, .int .i64 d, .int .i64 g, .int .i64 2, .int .i64 0, .int .i64 i, .int .i64 u]) (by simp [results, Try.results149, go_sem]) rfl ⟨rfl, rfl⟩
end Go.Proofs.Ytkebokkckmgloaa
/- MateWatchdog: the specification's side. -/
namespace Go.Proofs.Ytkebokkckmgloaa
open Go.RowKit
set_option linter.unusedVariables false

/-- What the watchdog leaves of a run. -/
def watchD (clock : Int) (r : RunD) : RunD := if aliveB r.a = true ∧ leasedB r.h r.u clock = false then { r with a := 2, b := 0 } else r
theorem watch_yes {clock : Int} {r : RunD} (h1 : aliveB r.a = true) (h2 : leasedB r.h r.u clock = false) : watchD clock r = { r with a := 2, b := 0 } := if_pos ⟨h1, h2⟩
theorem watch_no1 {clock : Int} {r : RunD} (h1 : aliveB r.a = false) : watchD clock r = r := if_neg (fun h => by rw [h1] at h; cases h.1)
theorem watch_no2 {clock : Int} {r : RunD} (h2 : leasedB r.h r.u clock = true) : watchD clock r = r := if_neg (fun h => by rw [h2] at h; cases h.2)
theorem build_none (w : World) : Sem.run Try.prog (Instr.buildSlice 24 0 #[]) w = .ok (.slice (some ⟨w.heap.size, 0, none⟩) 0 0) (w.alloc (.cells #[] 38)) := by kernel_rfl
theorem not_none {g n c : Nat} : Value.slice (some ⟨g, 0, none⟩) n c ≠ .slice none 0 0 := by intro h; cases h

theorem owns_step {x' : World} {base k : Nat} {v' : Value} {f : RunD → RunD} {rs : List RunD} {r : RunD} (hr : rs[k]? = some r)
    (h : x'.ownsRow base 38 11 v' (k + 1) (flatR ((rs.take k).map f) ++ (f r).cells)) : x'.ownsRow base 38 11 v' (k + 1) (flatR ((rs.take (k + 1)).map f)) := by
  have hlt : k < rs.length := (List.getElem?_eq_some_iff.1 hr).1
  have he : rs[k] = r := by rw [List.getElem?_eq_getElem hlt] at hr; exact Option.some.inj hr
  rw [List.take_succ_eq_append_getElem hlt, List.map_append, List.map_singleton, he, flatR_snoc]
  exact h

set_option maxHeartbeats 1000000 in
theorem specWatch (b off cap : Nat) (rs : List RunD) (clock : Int) (w : World) (hR : RowsAt w b off rs) (hb : b < w.heap.size) (hl : rs.length ≤ 1048576) :
    Calls Try.prog 40 #[.slice (some ⟨b, off, none⟩) rs.length cap, .int .i64 clock] w fun e w' => (∃ g cap', e = .returned (.slice (some ⟨g, 0, none⟩) rs.length cap') ∧ w.heap.size ≤ g ∧ g < w'.heap.size ∧ RowsAt w' g 0 (rs.map (watchD clock)) ∧ w'.there g 0 (rs.length * 11)) ∧ Below w.heap.size w w' := by
  obtain ⟨i0, hi, hz0, hz1, hz2⟩ := info_parts infoR
  have hbn := build_none
  go_enter Try.func40, Try.ntmps40
  go_wp2
  clear hbn
  go_loopw [5, 6] (fun v i wx => ∃ (k : Nat), k ≤ rs.length ∧ i = .int .i64 k ∧ wx.ownsRow w.heap.size 38 11 v k (flatR ((rs.take k).map (watchD clock))) ∧ v ≠ .slice none 0 0 ∧ Below w.heap.size w wx) (fun _ i _ => rs.length - (intOf i).toNat)
  case atStart => exact ⟨0, Nat.zero_le _, rfl, World.ownsRow_made w #[] 0 (Nat.le_refl _) (Nat.zero_le _) rfl, not_none, bl_alloc (Below.refl _ _) _⟩
  case round =>
    obtain ⟨k, hk, rfl, hown, hnn, hB⟩ := hrel
    by_cases hlt : k < rs.length
    · obtain ⟨r, hr⟩ : ∃ r, rs[k]? = some r := ⟨rs[k], List.getElem?_eq_getElem hlt⟩
      have Hr : Hid _ := hr
      have Hn : Hid _ := hnn
      have Ho : Hid (wr.ownsRow w.heap.size 38 11 u5 k (flatR ((rs.take k).map (watchD clock)))) := hown
      obtain ⟨c0, c1, c2, c3, c4, c5, c6, c7, c8, c9, c10⟩ := (hR.keep hb hB).at hr
      clear hr hnn hown
      cases hal : aliveB r.a
      · go_wp2_with (first | (at_builtin; (refine wpList_append_own _ rfl _ _ 24 rfl w.heap.size 38 i0 _ 11 104 Try.underlying24 hi hz0 hz1 hz2 rfl (by decide) _ k _ rfl (by exact owns_below Ho.out (by repeat (first | exact Below.refl _ _ | refine bl_alloc ?_ _))) ⟨_, 0, none⟩ 1 1 r.cells rfl rfl (new_cells _ _ (by simp) _ _ _ rfl) (cellsR_one _) (by unfold maxLen; omega) (by omega) (by have := hB.size; simp; omega) ?_); intro v' w1 ho1 hg1 hn1) | (go_at_call 22; refine (specAlive_x r.c r.h r.v r.p r.s r.d r.g r.a r.b r.i r.u _).mono ?_; rintro e w' ⟨rfl, rfl⟩) | (go_at_call 98; refine (leased_any r.c r.h r.v r.p r.s r.d r.g r.a r.b r.i r.u clock _).mono ?_; rintro e w' ⟨rfl, rfl⟩))
        exact ⟨⟨k + 1, by omega, by go_num, owns_step (f := watchD clock) Hr.out (by rw [watch_no1 hal]; exact ho1), fun h => (by have := hn1.1 h; simp at this), Below.grown (by repeat (first | exact hB | refine bl_alloc ?_ _)) hg1 (by have := hB.size; simp; omega) (owns_ge Ho.out)⟩, by simp [intOf]; omega⟩
      · cases hle : leasedB r.h r.u clock
        · go_wp2_with (first | (at_builtin; (refine wpList_append_own _ rfl _ _ 24 rfl w.heap.size 38 i0 _ 11 104 Try.underlying24 hi hz0 hz1 hz2 rfl (by decide) _ k _ rfl (by exact owns_below Ho.out (by repeat (first | exact Below.refl _ _ | refine bl_alloc ?_ _))) ⟨_, 0, none⟩ 1 1 ({ r with a := 2, b := 0 } : RunD).cells rfl rfl (new_cells _ _ (by simp) _ _ _ rfl) (cellsR_one _) (by unfold maxLen; omega) (by omega) (by have := hB.size; simp; omega) ?_); intro v' w1 ho1 hg1 hn1) | (go_at_call 22; refine (specAlive_x r.c r.h r.v r.p r.s r.d r.g r.a r.b r.i r.u _).mono ?_; rintro e w' ⟨rfl, rfl⟩) | (go_at_call 98; refine (leased_any r.c r.h r.v r.p r.s r.d r.g r.a r.b r.i r.u clock _).mono ?_; rintro e w' ⟨rfl, rfl⟩))
          exact ⟨⟨k + 1, by omega, by go_num, owns_step (f := watchD clock) Hr.out (by rw [watch_yes hal hle]; exact ho1), fun h => (by have := hn1.1 h; simp at this), Below.grown (by repeat (first | exact hB | refine bl_alloc ?_ _)) hg1 (by have := hB.size; simp; omega) (owns_ge Ho.out)⟩, by simp [intOf]; omega⟩
        · go_wp2_with (first | (at_builtin; (refine wpList_append_own _ rfl _ _ 24 rfl w.heap.size 38 i0 _ 11 104 Try.underlying24 hi hz0 hz1 hz2 rfl (by decide) _ k _ rfl (by exact owns_below Ho.out (by repeat (first | exact Below.refl _ _ | refine bl_alloc ?_ _))) ⟨_, 0, none⟩ 1 1 r.cells rfl rfl (new_cells _ _ (by simp) _ _ _ rfl) (cellsR_one _) (by unfold maxLen; omega) (by omega) (by have := hB.size; simp; omega) ?_); intro v' w1 ho1 hg1 hn1) | (go_at_call 22; refine (specAlive_x r.c r.h r.v r.p r.s r.d r.g r.a r.b r.i r.u _).mono ?_; rintro e w' ⟨rfl, rfl⟩) | (go_at_call 98; refine (leased_any r.c r.h r.v r.p r.s r.d r.g r.a r.b r.i r.u clock _).mono ?_; rintro e w' ⟨rfl, rfl⟩))
          exact ⟨⟨k + 1, by omega, by go_num, owns_step (f := watchD clock) Hr.out (by rw [watch_no2 hle]; exact ho1), fun h => (by have := hn1.1 h; simp at this), Below.grown (by repeat (first | exact hB | refine bl_alloc ?_ _)) hg1 (by have := hB.size; simp; omega) (owns_ge Ho.out)⟩, by simp [intOf]; omega⟩
    · go_wp2
      go_ret
      have hk' : k = rs.length := by omega
      subst hk'
      rw [List.take_of_length_le (Nat.le_refl _)] at hown
      have hown' : wr.ownsRow w.heap.size 38 11 u5 (rs.map (watchD clock)).length (flatR (rs.map (watchD clock))) := by rw [List.length_map]; exact hown
      rcases rows_of_owns hown' with ⟨h, -⟩ | ⟨g, cap', rfl, hg0, hg1, hrows, hth⟩
      · exact absurd h hnn
      · rw [List.length_map] at hth ⊢
        exact ⟨⟨g, cap', rfl, hg0, hg1, hrows, hth⟩, hB⟩
end Go.Proofs.Ytkebokkckmgloaa
/- MateWatchdog: the program's side. -/
namespace Go.Proofs.Ytkebokkckmgloaa
open Go.RowKit
set_option linter.unusedVariables false

theorem watched_any (c h : ByteArray) (v p s d g a b i u clock : Int) (w : World) :
    Calls Try.prog 99 #[.agg #[.string c, .int .i64 v, .string h, .int .i64 p, .int .i64 s, .int .i64 d, .int .i64 g, .int .i64 a, .int .i64 b, .int .i64 i, .int .i64 u], .int .i64 clock] w fun e w' => e = .returned (if aliveB a = true ∧ leasedB h u clock = false then .agg #[.string c, .int .i64 v, .string h, .int .i64 p, .int .i64 s, .int .i64 d, .int .i64 g, .int .i64 2, .int .i64 0, .int .i64 i, .int .i64 u] else .agg #[.string c, .int .i64 v, .string h, .int .i64 p, .int .i64 s, .int .i64 d, .int .i64 g, .int .i64 a, .int .i64 b, .int .i64 i, .int .i64 u]) ∧ Below w.heap.size w w' := by
  cases hal : aliveB a
  · rw [if_neg (fun h => by cases h.1)]
    go_enter Try.func99, Try.ntmps99
    go_wp2_with (first | (go_at_call 76; refine (alive_any a _).mono ?_; rintro e w' ⟨rfl, rfl⟩) | (go_at_call 148; refine (mayLive_any c h v p s d g a b i u clock _).mono ?_; rintro e w' ⟨rfl, rfl⟩) | (go_at_call 149; refine (waiting_any c h v p s d g a b i u _).mono ?_; rintro e w' ⟨rfl, rfl⟩))
    exact bodyPost_ret (v := .agg #[.string c, .int .i64 v, .string h, .int .i64 p, .int .i64 s, .int .i64 d, .int .i64 g, .int .i64 a, .int .i64 b, .int .i64 i, .int .i64 u]) (by simp [results, Try.results99, go_sem]) rfl ⟨rfl, by repeat (first | exact Below.refl _ _ | refine bl_alloc ?_ _)⟩
  · cases hle : leasedB h u clock
    · rw [if_pos ⟨rfl, rfl⟩]
      go_enter Try.func99, Try.ntmps99
      go_wp2_with (first | (go_at_call 76; refine (alive_any a _).mono ?_; rintro e w' ⟨rfl, rfl⟩) | (go_at_call 148; refine (mayLive_any c h v p s d g a b i u clock _).mono ?_; rintro e w' ⟨rfl, rfl⟩) | (go_at_call 149; refine (waiting_any c h v p s d g a b i u _).mono ?_; rintro e w' ⟨rfl, rfl⟩))
      exact bodyPost_ret (v := .agg #[.string c, .int .i64 v, .string h, .int .i64 p, .int .i64 s, .int .i64 d, .int .i64 g, .int .i64 2, .int .i64 0, .int .i64 i, .int .i64 u]) (by simp [results, Try.results99, go_sem]) rfl ⟨rfl, by repeat (first | exact Below.refl _ _ | refine bl_alloc ?_ _)⟩
    · rw [if_neg (fun h => by cases h.2)]
      go_enter Try.func99, Try.ntmps99
      go_wp2_with (first | (go_at_call 76; refine (alive_any a _).mono ?_; rintro e w' ⟨rfl, rfl⟩) | (go_at_call 148; refine (mayLive_any c h v p s d g a b i u clock _).mono ?_; rintro e w' ⟨rfl, rfl⟩) | (go_at_call 149; refine (waiting_any c h v p s d g a b i u _).mono ?_; rintro e w' ⟨rfl, rfl⟩))
      exact bodyPost_ret (v := .agg #[.string c, .int .i64 v, .string h, .int .i64 p, .int .i64 s, .int .i64 d, .int .i64 g, .int .i64 a, .int .i64 b, .int .i64 i, .int .i64 u]) (by simp [results, Try.results99, go_sem]) rfl ⟨rfl, by repeat (first | exact Below.refl _ _ | refine bl_alloc ?_ _)⟩
theorem watched_lit (r t : RunD) (clock : Int) (ht : watchD clock r = t) (w : World) :
    Calls Try.prog 99 #[.agg #[.string r.c, .int .i64 r.v, .string r.h, .int .i64 r.p, .int .i64 r.s, .int .i64 r.d, .int .i64 r.g, .int .i64 r.a, .int .i64 r.b, .int .i64 r.i, .int .i64 r.u], .int .i64 clock] w fun e w' => e = .returned (.agg #[.string t.c, .int .i64 t.v, .string t.h, .int .i64 t.p, .int .i64 t.s, .int .i64 t.d, .int .i64 t.g, .int .i64 t.a, .int .i64 t.b, .int .i64 t.i, .int .i64 t.u]) ∧ Below w.heap.size w w' := by
  subst ht
  refine (watched_any r.c r.h r.v r.p r.s r.d r.g r.a r.b r.i r.u clock w).mono ?_
  rintro e w' ⟨rfl, hb⟩
  refine ⟨?_, hb⟩
  unfold watchD
  split <;> rfl

set_option maxHeartbeats 1000000 in
theorem implWatch (b off cap : Nat) (rs : List RunD) (clock : Int) (w : World) (hR : RowsAt w b off rs) (hb : b < w.heap.size) (hl : rs.length ≤ 1048576) :
    Calls Try.prog 41 #[.slice (some ⟨b, off, none⟩) rs.length cap, .int .i64 clock] w fun e w' => e = .returned (.slice (some ⟨w.heap.size, 0, none⟩) rs.length rs.length) ∧ RowsAt w' w.heap.size 0 (rs.map (watchD clock)) ∧ w'.there w.heap.size 0 (rs.length * 11) ∧ w.heap.size < w'.heap.size ∧ Below w.heap.size w w' := by
  obtain ⟨C, hC, hmk⟩ := make_runs rs.length hl
  have hinfo : (Try.prog.info? 38).map (·.size) = some 11 := by kernel_rfl
  go_enter Try.func41, Try.ntmps41
  go_wp2
  go_loopw [13] (fun i wx => ∃ (k : Nat), k ≤ rs.length ∧ i = .int .i64 k ∧ RowsAt wx w.heap.size 0 ((rs.map (watchD clock)).take k) ∧ wx.there w.heap.size 0 (rs.length * 11) ∧ w.heap.size < wx.heap.size ∧ Below w.heap.size w wx) (fun i _ => rs.length - (intOf i).toNat)
  case atStart => exact ⟨0, Nat.zero_le _, rfl, fun k r h => by simp at h, there_new hC, by simp, bl_alloc (Below.refl _ _) _⟩
  case round =>
    obtain ⟨k, hk, rfl, hrows, hth, hgz, hB⟩ := hrel
    clear hmk
    by_cases hlt : k < rs.length
    · obtain ⟨r, hr⟩ : ∃ r, rs[k]? = some r := ⟨rs[k], List.getElem?_eq_getElem hlt⟩
      obtain ⟨c0, c1, c2, c3, c4, c5, c6, c7, c8, c9, c10⟩ := (hR.keep hb hB).at hr
      obtain ⟨t, ht⟩ : ∃ t, watchD clock r = t := ⟨_, rfl⟩
      have Hr : Hid ((rs.map (watchD clock))[k]? = some t) := by show _ = _; rw [List.getElem?_map, hr, ← ht]; rfl
      have Ht : Hid _ := ht
      clear hr ht
      go_wp2_with (first | (go_at_call 80; refine (runOf_any r.c r.h r.v r.p r.s r.d r.g r.a r.b r.i r.u _).mono ?_; rintro e w' ⟨rfl, rfl⟩))
      refine (watched_lit r t clock Ht.out _).mono ?_
      rintro e w0 ⟨rfl, hb0⟩
      have hb1 : Below wr.heap.size wr w0 := bl_trans (by repeat (first | exact Below.refl _ _ | refine bl_alloc ?_ _)) hb0
      clear hb0 c0 c1 c2 c3 c4 c5 c6 c7 c8 c9 c10
      go_wp2_with fail
      refine (told_any t.c t.h t.v t.p t.s t.d t.g t.a t.b t.i t.u _).mono ?_
      rintro e w1 ⟨rfl, hw1⟩
      have hb2 : Below wr.heap.size wr w1 := by rw [hw1]; exact bl_alloc (bl_alloc hb1 _) _
      clear hw1 hb1
      have hth1 := there_keep hth hgz hb2
      have hrows1 := hrows.keep hgz hb2
      have hB1 := bl_trans hB hb2
      have hgz1 : w.heap.size < w1.heap.size := Nat.lt_of_lt_of_le hgz hb2.size
      clear hth hrows hB hb2
      go_wp2_with (refine wpList_store_mid (by rfl) 38 _ _ (by rfl) w.heap.size (k * 11) #[.string t.c, .int .i64 t.v, .string t.h, .int .i64 t.p, .int .i64 t.s, .int .i64 t.d, .int .i64 t.g, .int .i64 t.a, .int .i64 t.b, .int .i64 t.i, .int .i64 t.u] (by rfl) (by rfl) (by exact there_part hth1 hlt) hinfo (by simp [Value.oneCell']) ?_)
      exact ⟨⟨k + 1, by omega, by go_num, rows_step Hr.out hrows1 (there_part hth1 hlt), World.there_setCells hth1 _ _ _, by rw [size_cells]; exact hgz1, bl_cells (Nat.le_refl _) _ _ _ hB1⟩, by simp [intOf]; omega⟩
    · go_wp2
      go_ret
      have e : (rs.map (watchD clock)).take k = rs.map (watchD clock) := List.take_of_length_le (by rw [List.length_map]; omega)
      rw [e] at hrows
      exact ⟨rfl, hrows, hth, hgz, hB⟩
end Go.Proofs.Ytkebokkckmgloaa
/- Marks: the text of a number. -/
namespace Go.Proofs.Ytkebokkckmgloaa
open Go.RowKit
set_option linter.unusedVariables false

def mkGo : Nat → Int → ByteArray → ByteArray
  | 0, _, s => s
  | f + 1, k, s => if 0 < k then mkGo f (k / 10) ({ data := #[UInt8.ofNat (48 + k % 10).toNat] } ++ s) else s
/-- The text of a mark. -/
def markB (k : Int) : ByteArray := if k ≤ 0 then { data := #[109, 48] } else { data := #[109] } ++ mkGo 13 k { data := #[] }
theorem mkGo_end (f : Nat) (k : Int) (s : ByteArray) (h : k ≤ 0) : mkGo f k s = s := by
  cases f with
  | zero => rfl
  | succ f => exact if_neg (by omega)
theorem mkGo_step (f : Nat) (k : Int) (s : ByteArray) (h : 0 < k) : mkGo (f + 1) k s = mkGo f (k / 10) ({ data := #[UInt8.ofNat (48 + k % 10).toNat] } ++ s) := if_pos h

theorem size_front (c : UInt8) (t : ByteArray) : (({ data := #[c] } : ByteArray) ++ t).size = 1 + t.size := by rw [ByteArray.size_append']; rfl

theorem build_byte (n : Int) (w : World) : Sem.run Try.prog (Instr.buildSlice 22 1 #[(0, .int .u8 n)]) w = .ok (.slice (some ⟨w.heap.size, 0, none⟩) 1 1) (w.alloc (.cells #[.int .u8 n] 5)) := by kernel_rfl
theorem conv_byte (n : Int) (w : World) : Sem.run Try.prog (convert 22 9 (.slice (some ⟨w.heap.size, 0, none⟩) 1 1)) (w.alloc (.cells #[.int .u8 n] 5)) = .ok (.string ⟨#[UInt8.ofNat n.toNat]⟩) (w.alloc (.cells #[.int .u8 n] 5)) := by
  rw [run_convert_bytes_string _ _ _ 5 _ _ _ Try.underlying22 Try.underlying5 Try.underlying9]
  rw [run_bytesToString _ _ _ _ [n] (by simp [loadCells, go_sem])]
  rfl

theorem markText_any (k : Int) (hk : k ≤ 1000000000000) (w : World) : Calls Try.prog 100 #[.int .i64 k] w fun e w' => e = .returned (.string (markB k)) ∧ Below w.heap.size w w' := by
  by_cases h0 : k ≤ 0
  · have Hm : Hid (markB k = { data := #[109, 48] }) := if_pos h0
    go_enter Try.func100, Try.ntmps100
    go_wp2
    go_ret
    exact ⟨by rw [Hm.out]; rfl, Below.refl _ _⟩
  · have Hm : Hid (markB k = { data := #[109] } ++ mkGo 13 k { data := #[] }) := if_neg h0
    have hb := build_byte
    have hc := conv_byte
    go_enter Try.func100, Try.ntmps100
    go_wp2
    go_loopw [0, 3] (fun i s wx => ∃ (n : Int) (t : ByteArray), 0 ≤ n ∧ n ≤ 1000000000000 ∧ t.size ≤ 20 ∧ i = .int .i64 n ∧ s = .string t ∧ Hid (∃ f : Nat, n < (10 : Int) ^ f ∧ t.size + f ≤ 20 ∧ mkGo f n t = mkGo 13 k { data := #[] }) ∧ Below w.heap.size w wx) (fun i _ _ => (intOf i).toNat)
    case atStart => exact ⟨k, _, by omega, hk, by decide, rfl, rfl, ⟨13, by omega, by decide, rfl⟩, Below.refl _ _⟩
    case round =>
      obtain ⟨n, t, n0, n1, t1, rfl, rfl, Hf, hB⟩ := hrel
      by_cases hlt : 0 < n
      · go_wp2
        have hs : ∃ f : Nat, n / 10 < (10 : Int) ^ f ∧ 1 + t.size + f ≤ 20 ∧ mkGo f (n / 10) ({ data := #[UInt8.ofNat (48 + n % 10).toNat] } ++ t) = mkGo 13 k { data := #[] } := by
          obtain ⟨f, f1, f2, f3⟩ := Hf.out
          cases f with
          | zero => simp at f1; omega
          | succ f => exact ⟨f, by rw [Int.pow_succ] at f1; omega, by omega, by rw [← mkGo_step f n t hlt]; exact f3⟩
        obtain ⟨f, f1, f2, f3⟩ := hs
        exact ⟨⟨n / 10, _, by omega, by omega, by rw [size_front]; omega, rfl, rfl, ⟨f, f1, by rw [size_front]; omega, f3⟩, bl_alloc hB _⟩, by simp [intOf]; omega⟩
      · go_wp2
        go_ret
        obtain ⟨f, f1, f2, f3⟩ := Hf.out
        rw [mkGo_end f n t (by omega)] at f3
        exact ⟨by rw [Hm.out, ← f3]; rfl, hB⟩
end Go.Proofs.Ytkebokkckmgloaa
