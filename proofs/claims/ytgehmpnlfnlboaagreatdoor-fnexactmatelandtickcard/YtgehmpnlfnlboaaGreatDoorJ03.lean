import Derived.Test.YtgehmpnlfnlboaaGreatDoorJ02
import Derived.Laws.MakeOwn
import Derived.Test.YtgehmpnlfnlboaaGreatDoorJ01
import Derived.Deep.MidRow
import Derived.Deep.RegionHeld3
import Derived.Laws.Pointers
import Derived.StillTactics
/- A list of wants is copied. -/
namespace Go.Proofs.YtgehmpnlfnlboaaGreatDoor.W
open Go.RowKit
set_option linter.unusedVariables false

theorem make_wants (n : Nat) (hn : n ≤ 1048576) : ∃ C : Array Value, C.size = n * 7 ∧ ∀ w : World, Sem.run Tryz.prog (Instr.makeSlice 44 (.int .i64 (n : Int)) (.int .i64 (n : Int))) w = .ok (.slice (some ⟨w.heap.size, 0, none⟩) n n) (w.alloc (.cells C 88)) := by
  have hq : (Tryz.prog.info? 88).map (fun i => (i.size, i.bytes, i.zero)) = some (7, 72, some (.agg #[.string ⟨#[]⟩, .int .i64 0, .string ⟨#[]⟩, .int .i64 0, .int .i64 0, .int .i64 0, .int .i64 0])) := by kernel_rfl
  cases hi : Tryz.prog.info? 88 with
  | none => rw [hi] at hq; simp at hq
  | some i =>
    rw [hi] at hq
    simp only [Option.map_some, Option.some.injEq, Prod.mk.injEq] at hq
    obtain ⟨h1, h2, h3⟩ := hq
    refine ⟨madeCells (Value.cells (.agg #[.string ⟨#[]⟩, .int .i64 0, .string ⟨#[]⟩, .int .i64 0, .int .i64 0, .int .i64 0, .int .i64 0])) (n * i.size), (size_madeCells _ _).trans (by rw [h1]), fun w => ?_⟩
    have := run_make (P := Tryz.prog) w 44 88 i _ Tryz.underlying44 hi h3 .i64 .i64 n n (by omega) (by omega) (by rw [h2]; omega) (by omega)
    simpa using this

theorem bl_cells {A : World} {k : Nat} (hk : A.heap.size ≤ k) : ∀ (vs : List Value) (o : Nat) (w' : World), Below A.heap.size A w' → Below A.heap.size A (w'.setCells k o vs)
  | [], _, _, h => h
  | v :: r, o, w', h => bl_cells hk r (o + 1) _ (bl_set h (by exact hk) v)
theorem size_cells {k : Nat} : ∀ (vs : List Value) (o : Nat) (w' : World), (w'.setCells k o vs).heap.size = w'.heap.size
  | [], _, _ => rfl
  | v :: r, o, w' => (size_cells r (o + 1) _).trans (by simp [World.setCell])
theorem there_keep {x y : World} {k o n : Nat} (h : x.there k o n) (hk : k < x.heap.size) (hb : Below x.heap.size x y) : y.there k o n :=
  fun j hj => ⟨by rw [hb.cell (p := ⟨k, o + j, none⟩) hk]; exact (h j hj).1, by rw [hb.frozen (p := ⟨k, o + j, none⟩) hk]; exact (h j hj).2⟩
theorem there_part {x : World} {g n k : Nat} (h : x.there g 0 (n * 7)) (hk : k < n) : x.there g (k * 7) 7 :=
  fun j hj => by have := h (k * 7 + j) (by omega); simpa using this
theorem there_new {w : World} {C : Array Value} {t : TypeId} {n : Nat} (hC : C.size = n * 7) : (w.alloc (.cells C t)).there w.heap.size 0 (n * 7) :=
  fun j hj => ⟨by simp [go_sem]; omega, by simp [go_sem]⟩
theorem rows_step {x : World} {g k : Nat} {rs : List WantD} {r : WantD} (hr : rs[k]? = some r) (h : RowsAt x g 0 (rs.take k)) (ht : x.there g (k * 7) 7) : RowsAt (x.setCells g (k * 7) r.cells) g 0 (rs.take (k + 1)) := by
  intro j q hj
  rw [List.getElem?_take] at hj
  split at hj
  case isFalse => cases hj
  rename_i hlt
  by_cases e : j = k
  · subst e
    rw [hr] at hj
    cases hj
    have := World.rangeAt_setCells_same x g (j * 7) r.cells ht
    simpa using this
  · have hj' : (rs.take k)[j]? = some q := by rw [List.getElem?_take, if_pos (by omega)]; exact hj
    exact World.rangeAt_setCells_apart (h j q hj') g (k * 7) r.cells (Or.inr (Or.inl (by show 0 + j * 7 + 7 ≤ k * 7; omega)))

set_option maxHeartbeats 1000000 in
theorem toWantS (b off cap : Nat) (rs : List WantD) (w : World) (hR : RowsAt w b off rs) (hb : b < w.heap.size) (hl : rs.length ≤ 1048576) :
    Calls Tryz.prog 51 #[.slice (some ⟨b, off, none⟩) rs.length cap] w fun e w' => e = .returned (.slice (some ⟨w.heap.size, 0, none⟩) rs.length rs.length) ∧ RowsAt w' w.heap.size 0 rs ∧ w'.there w.heap.size 0 (rs.length * 7) ∧ w.heap.size < w'.heap.size ∧ Below w.heap.size w w' := by
  obtain ⟨C, hC, hmk⟩ := make_wants rs.length hl
  have hinfo : (Tryz.prog.info? 88).map (·.size) = some 7 := by kernel_rfl
  go_enter Tryz.func51, Tryz.ntmps51
  go_wp2
  go_loopw [4] (fun i wx => ∃ (k : Nat), k ≤ rs.length ∧ i = .int .i64 k ∧ RowsAt wx w.heap.size 0 (rs.take k) ∧ wx.there w.heap.size 0 (rs.length * 7) ∧ w.heap.size < wx.heap.size ∧ Below w.heap.size w wx) (fun i _ => rs.length - (intOf i).toNat)
  case atStart => exact ⟨0, Nat.zero_le _, rfl, fun k r h => by simp at h, there_new hC, by simp, bl_alloc (Below.refl _ _) _⟩
  case round =>
    obtain ⟨k, hk, rfl, hrows, hth, hgz, hB⟩ := hrel
    clear hmk
    by_cases hlt : k < rs.length
    · obtain ⟨r, hr⟩ : ∃ r, rs[k]? = some r := ⟨rs[k], List.getElem?_eq_getElem hlt⟩
      obtain ⟨c0, c1, c2, c3, c4, c5, c6⟩ := (hR.keep hb hB).at hr
      have Hr : Hid _ := hr
      clear hr
      go_wp2_with fail
      refine (toWant_b r.c r.h r.v r.p r.s r.d r.g _).mono ?_
      rintro e w1 ⟨rfl, hb1⟩
      clear c0 c1 c2 c3 c4 c5 c6
      have hth1 := there_keep hth hgz hb1
      have hrows1 := hrows.keep hgz hb1
      have hB1 := bl_trans hB hb1
      have hgz1 : w.heap.size < w1.heap.size := Nat.lt_of_lt_of_le hgz hb1.size
      clear hth hrows hB hb1
      go_wp2_with (refine wpList_store_mid (by rfl) 88 _ _ (by rfl) w.heap.size (k * 7) #[.string r.c, .int .i64 r.v, .string r.h, .int .i64 r.p, .int .i64 r.s, .int .i64 r.d, .int .i64 r.g] (by rfl) (by rfl) (by exact there_part hth1 hlt) hinfo (by simp [Value.oneCell']) ?_)
      exact ⟨⟨k + 1, by omega, by go_num, rows_step Hr.out hrows1 (there_part hth1 hlt), World.there_setCells hth1 _ _ _, by rw [size_cells]; exact hgz1, bl_cells (Nat.le_refl _) _ _ _ hB1⟩, by simp [intOf]; omega⟩
    · go_wp2
      go_ret
      have e : rs.take k = rs := List.take_of_length_le (by omega)
      rw [e] at hrows
      exact ⟨rfl, hrows, hth, hgz, hB⟩
end Go.Proofs.YtgehmpnlfnlboaaGreatDoor.W
/- Lists of asks in memory. -/
namespace Go.Proofs.YtgehmpnlfnlboaaGreatDoor.A
open Go.RowKit
set_option linter.unusedVariables false

structure AskD where
  h : ByteArray
  c : ByteArray
  f : Int
  t : Int
end Go.Proofs.YtgehmpnlfnlboaaGreatDoor.A
/- Sizes of lists, and what is left. -/
namespace Go.Proofs.YtgehmpnlfnlboaaGreatDoor
open Go.RowKit
set_option linter.unusedVariables false

end Go.Proofs.YtgehmpnlfnlboaaGreatDoor
namespace Go.Proofs.YtgehmpnlfnlboaaGreatDoor.W
open Go.RowKit
set_option linter.unusedVariables false

set_option maxHeartbeats 1000000 in
theorem szWantS_m (b off cap : Nat) (rs : List WantD) (left : Int) (w : World) (hR : RowsAt w b off rs) (hb : b < w.heap.size) (hf : ∀ r ∈ rs, r.fits) (h0 : 0 ≤ left) (h1 : left ≤ 1048576) (hl : rs.length ≤ maxLen) :
    Calls Tryz.prog 49 #[.slice (some ⟨b, off, none⟩) rs.length cap, .int .i64 left] w fun e w' => (e = .returned (.int .i64 (-1)) ∨ ∃ m : Int, e = .returned (.int .i64 m) ∧ 0 ≤ m ∧ m ≤ 1048576 ∧ (rs.length : Int) ≤ left) ∧ Below w.heap.size w w' := by
  unfold maxLen at hl
  by_cases hn : (rs.length : Int) ≤ left
  · go_enter Tryz.func49, Tryz.ntmps49
    go_wp2
    go_loopw [1, 5] (fun l i wx => ∃ (k : Nat) (lv : Int), k ≤ rs.length ∧ i = .int .i64 k ∧ l = .int .i64 lv ∧ 0 ≤ lv ∧ lv ≤ 1048576 ∧ Below w.heap.size w wx) (fun _ i _ => rs.length - (intOf i).toNat)
    case atStart => exact ⟨0, _, Nat.zero_le _, rfl, rfl, by omega, by omega, Below.refl _ _⟩
    case round =>
      obtain ⟨k, lv, hk, rfl, rfl, l0, l1, hB⟩ := hrel
      by_cases hlt : k < rs.length
      · obtain ⟨r, hr⟩ : ∃ r, rs[k]? = some r := ⟨rs[k], List.getElem?_eq_getElem hlt⟩
        obtain ⟨c0, c1, c2, c3, c4, c5, c6⟩ := (hR.keep hb hB).at hr
        have hfr : r.fits := hf r (List.mem_of_getElem? hr)
        clear hr
        by_cases hsz : (r.c.size : Int) + r.h.size ≤ lv
        · go_wp2_with fail
          refine (szWant_yes r.c r.h r.v r.p r.s r.d r.g lv l0 l1 hsz _).mono ?_
          rintro e w1 ⟨rfl, hb1⟩
          go_wp2
          exact ⟨⟨k + 1, _, by omega, by go_num, rfl, by omega, by omega, bl_trans hB hb1⟩, by simp [intOf]; omega⟩
        · go_wp2_with fail
          refine (szWant_no r.c r.h r.v r.p r.s r.d r.g lv l0 l1 hfr.1 hfr.2 (by omega) _).mono ?_
          rintro e w1 ⟨rfl, hb1⟩
          go_wp2
          go_ret
          exact ⟨Or.inl rfl, bl_trans hB hb1⟩
      · go_wp2
        go_ret
        exact ⟨Or.inr ⟨_, rfl, l0, l1, hn⟩, hB⟩
  · go_enter Tryz.func49, Tryz.ntmps49
    go_wp2
    go_ret
    exact ⟨Or.inl rfl, Below.refl _ _⟩
theorem sz_nil (a : Option Addr) (cap : Nat) (left : Int) (w : World) (h0 : 0 ≤ left) (h1 : left ≤ 1048576) :
    Calls Tryz.prog 49 #[.slice a 0 cap, .int .i64 left] w fun e w' => e = .returned (.int .i64 left) ∧ w' = w := by
  go_enter Tryz.func49, Tryz.ntmps49
  go_wp2
  refine wp_loop_rounds 1 ?_
  rw [rounds_succ]
  go_wp2
  go_ret
  exact ⟨rfl, rfl⟩
theorem to_nil (a : Option Addr) (cap : Nat) (w : World) :
    Calls Tryz.prog 51 #[.slice a 0 cap] w fun e w' => e = .returned (.slice (some ⟨w.heap.size, 0, none⟩) 0 0) ∧ w.heap.size < w'.heap.size ∧ Below w.heap.size w w' := by
  obtain ⟨C, hC, hmk0⟩ := make_wants 0 (by omega)
  have hmk : ∀ w : World, Sem.run Tryz.prog (Instr.makeSlice 44 (.int .i64 0) (.int .i64 0)) w = .ok (.slice (some ⟨w.heap.size, 0, none⟩) 0 0) (w.alloc (.cells C 88)) := fun w => hmk0 w
  clear hmk0 hC
  go_enter Tryz.func51, Tryz.ntmps51
  go_wp2
  refine wp_loop_rounds 1 ?_
  rw [rounds_succ]
  go_wp2
  go_ret
  exact ⟨rfl, by simp, bl_alloc (Below.refl _ _) _⟩
/-- A list that came in. -/
def In (w : World) (v : Value) (l : List WantD) : Prop := (l = [] ∧ ∃ a cap, v = .slice a 0 cap) ∨ ∃ b off cap, v = .slice (some ⟨b, off, none⟩) l.length cap ∧ l.length ≤ maxLen ∧ b < w.heap.size ∧ RowsAt w b off l ∧ ∀ r ∈ l, r.fits
theorem In.keep {w w' : World} {v : Value} {l : List WantD} (h : In w v l) (hb : Below w.heap.size w w') : In w' v l := by
  rcases h with h | ⟨b, off, cap, h1, h2, h3, h4, h5⟩
  · exact Or.inl h
  · exact Or.inr ⟨b, off, cap, h1, h2, Nat.lt_of_lt_of_le h3 hb.size, h4.keep h3 hb, h5⟩
theorem In.fits {w : World} {v : Value} {l : List WantD} (h : In w v l) : ∀ r ∈ l, r.fits := by
  rcases h with ⟨rfl, -⟩ | ⟨b, off, cap, h1, h2, h3, h4, h5⟩
  · intro r hr; cases hr
  · exact h5
theorem sz_in {w : World} {v : Value} {l : List WantD} (h : In w v l) (left : Int) (h0 : 0 ≤ left) (h1 : left ≤ 1048576) :
    Calls Tryz.prog 49 #[v, .int .i64 left] w fun e w' => (e = .returned (.int .i64 (-1)) ∨ ∃ m : Int, e = .returned (.int .i64 m) ∧ 0 ≤ m ∧ m ≤ 1048576 ∧ l.length ≤ 1048576) ∧ Below w.heap.size w w' := by
  rcases h with ⟨rfl, a, cap, rfl⟩ | ⟨b, off, cap, rfl, k2, k3, k4, k5⟩
  · refine (sz_nil a cap left w h0 h1).mono ?_
    rintro e w' ⟨rfl, rfl⟩
    exact ⟨Or.inr ⟨left, rfl, h0, h1, by simp⟩, Below.refl _ _⟩
  · refine (szWantS_m b off cap l left w k4 k3 k5 h0 h1 k2).mono ?_
    rintro e w' ⟨rfl | ⟨m, rfl, m0, m1, hn⟩, hb⟩
    · exact ⟨Or.inl rfl, hb⟩
    · exact ⟨Or.inr ⟨m, rfl, m0, m1, by omega⟩, hb⟩
end Go.Proofs.YtgehmpnlfnlboaaGreatDoor.W
namespace Go.Proofs.YtgehmpnlfnlboaaGreatDoor.A
open Go.RowKit
set_option linter.unusedVariables false

end Go.Proofs.YtgehmpnlfnlboaaGreatDoor.A
/- Lists of places. -/
namespace Go.Proofs.YtgehmpnlfnlboaaGreatDoor.P
open Go.RowKit
set_option linter.unusedVariables false

/-- A place of the book: its list of wants is a slice. -/
structure PlaceD where
  b : ByteArray
  s : Int
  a : Option Addr
  c : Nat
  ws : List W.WantD
def PlaceD.cells (r : PlaceD) : List Value := [.string r.b, .int .i64 r.s, .slice r.a r.ws.length r.c]
/-- What a place says. -/
def PlaceD.says (r : PlaceD) : ByteArray × Int × List W.WantD := (r.b, r.s, r.ws)
def Like (ps qs : List PlaceD) : Prop := ps.map PlaceD.says = qs.map PlaceD.says
theorem Like.len {ps qs : List PlaceD} (h : Like ps qs) : ps.length = qs.length := by simpa using congrArg List.length h
theorem Like.at {ps qs : List PlaceD} (h : Like ps qs) {k : Nat} {p q : PlaceD} (hp : ps[k]? = some p) (hq : qs[k]? = some q) : p.b = q.b ∧ p.s = q.s ∧ p.ws = q.ws := by
  have h1 : (ps.map PlaceD.says)[k]? = (qs.map PlaceD.says)[k]? := by rw [h]
  rw [List.getElem?_map, List.getElem?_map, hp, hq] at h1
  simpa [PlaceD.says] using h1
theorem Like.get {ps qs : List PlaceD} (h : Like ps qs) {k : Nat} {p : PlaceD} (hp : ps[k]? = some p) : ∃ q, qs[k]? = some q ∧ p.b = q.b ∧ p.s = q.s ∧ p.ws = q.ws := by
  have hk : k < qs.length := by rw [← h.len]; exact (List.getElem?_eq_some_iff.1 hp).1
  exact ⟨qs[k], List.getElem?_eq_getElem hk, h.at hp (List.getElem?_eq_getElem hk)⟩
theorem Like.symm {ps qs : List PlaceD} (h : Like ps qs) : Like qs ps := Eq.symm h
theorem Like.trans {ps qs rs : List PlaceD} (h : Like ps qs) (h' : Like qs rs) : Like ps rs := Eq.trans h h'
/-- The places rs lie in block b from off on. -/
def RowsAt (w : World) (b off : Nat) (rs : List PlaceD) : Prop := ∀ k r, rs[k]? = some r → w.rangeAt b (off + k * 3) r.cells
theorem RowsAt.keep {w w' : World} {b off : Nat} {rs : List PlaceD} (h : RowsAt w b off rs) (hb : b < w.heap.size) (hB : Below w.heap.size w w') : RowsAt w' b off rs :=
  fun k r hk j v hj => (hB.cell (p := ⟨b, off + k * 3 + j, none⟩) hb).trans (h k r hk j v hj)
theorem RowsAt.at {w : World} {b off : Nat} {rs : List PlaceD} (h : RowsAt w b off rs) {k : Nat} {r : PlaceD} (hk : rs[k]? = some r) :
    w.cell? ⟨b, off + k * 3, none⟩ = some (.string r.b) ∧ w.cell? ⟨b, off + k * 3 + 1, none⟩ = some (.int .i64 r.s) ∧ w.cell? ⟨b, off + k * 3 + 2, none⟩ = some (.slice r.a r.ws.length r.c) :=
  ⟨h k r hk 0 _ rfl, h k r hk 1 _ rfl, h k r hk 2 _ rfl⟩
/-- What came in. -/
def PlaceD.inn (w : World) (r : PlaceD) : Prop := r.b.size ≤ maxLen ∧ W.In w (.slice r.a r.ws.length r.c) r.ws
theorem PlaceD.inn.keep {w w' : World} {r : PlaceD} (h : r.inn w) (hB : Below w.heap.size w w') : r.inn w' := ⟨h.1, h.2.keep hB⟩
/-- The wants lie in a block of the call's own, behind block B. -/
def PlaceD.blk (B : Nat) (w : World) (r : PlaceD) : Prop := ∃ g, r.a = some ⟨g, 0, none⟩ ∧ r.c = r.ws.length ∧ B < g ∧ g < w.heap.size ∧ W.RowsAt w g 0 r.ws
theorem PlaceD.blk.keep {B : Nat} {w w' : World} {r : PlaceD} (h : r.blk B w) (hB : Below w.heap.size w w') : r.blk B w' := by
  obtain ⟨g, h1, hc, h2, h3, h4⟩ := h
  exact ⟨g, h1, hc, h2, Nat.lt_of_lt_of_le h3 hB.size, h4.keep h3 hB⟩
theorem PlaceD.blk.low {B B' : Nat} {w : World} {r : PlaceD} (h : r.blk B w) (hB : B' ≤ B) : r.blk B' w := by
  obtain ⟨g, h1, hc, h2, h3, h4⟩ := h
  exact ⟨g, h1, hc, by omega, h3, h4⟩
def Lns (rs : List PlaceD) : Prop := ∀ r ∈ rs, r.ws.length ≤ 1048576

set_option maxHeartbeats 1000000 in
theorem szPlace (r : PlaceD) (left : Int) (w : World) (hi : r.inn w) (h0 : 0 ≤ left) (h1 : left ≤ 1048576) :
    Calls Tryz.prog 34 #[.agg #[.string r.b, .int .i64 r.s, .slice r.a r.ws.length r.c], .int .i64 left] w fun e w' => (e = .returned (.int .i64 (-1)) ∨ ∃ m : Int, e = .returned (.int .i64 m) ∧ 0 ≤ m ∧ m ≤ 1048576 ∧ r.ws.length ≤ 1048576) ∧ Below w.heap.size w w' := by
  have Hi : Hid (r.inn w) := hi
  have hn := hi.1
  unfold maxLen at hn
  clear hi
  by_cases k1 : (r.b.size : Int) ≤ left
  · go_enter Tryz.func34, Tryz.ntmps34
    go_wp2_with fail
    refine (W.sz_in (Hi.out.2.keep (bl_alloc (Below.refl _ _) _)) (left - (r.b.size : Int)) (by omega) (by omega)).mono ?_
    rintro e w1 ⟨hx, c⟩
    have C : Hid (Below w.heap.size w w1) := bl_trans (bl_alloc (Below.refl _ _) _) c
    clear c
    rcases hx with rfl | ⟨m, rfl, m0, m1, hl⟩
    · go_wp2
      go_ret
      exact ⟨Or.inl rfl, C.out⟩
    · go_wp2
      go_ret
      exact ⟨Or.inr ⟨m, rfl, m0, m1, hl⟩, C.out⟩
  · go_enter Tryz.func34, Tryz.ntmps34
    go_wp2
    go_ret
    exact ⟨Or.inl rfl, bl_alloc (Below.refl _ _) _⟩

set_option maxHeartbeats 1000000 in
theorem szPlaceS (b off cap : Nat) (rs : List PlaceD) (left : Int) (w : World) (hR : RowsAt w b off rs) (hb : b < w.heap.size) (hf : ∀ r ∈ rs, r.inn w) (h0 : 0 ≤ left) (h1 : left ≤ 1048576) (hl : rs.length ≤ maxLen) :
    Calls Tryz.prog 15 #[.slice (some ⟨b, off, none⟩) rs.length cap, .int .i64 left] w fun e w' => (e = .returned (.int .i64 (-1)) ∨ ∃ m : Int, e = .returned (.int .i64 m) ∧ 0 ≤ m ∧ m ≤ 1048576 ∧ (rs.length : Int) ≤ left ∧ Lns rs) ∧ Below w.heap.size w w' := by
  unfold maxLen at hl
  have HF : Hid _ := hf
  clear hf
  by_cases hn : (rs.length : Int) ≤ left
  · go_enter Tryz.func15, Tryz.ntmps15
    go_wp2
    go_loopw [1, 5] (fun l i wx => ∃ (k : Nat) (lv : Int), k ≤ rs.length ∧ i = .int .i64 k ∧ l = .int .i64 lv ∧ 0 ≤ lv ∧ lv ≤ 1048576 ∧ Hid (∀ j r, j < k → rs[j]? = some r → r.ws.length ≤ 1048576) ∧ Below w.heap.size w wx) (fun _ i _ => rs.length - (intOf i).toNat)
    case atStart => exact ⟨0, _, Nat.zero_le _, rfl, rfl, by omega, by omega, (fun j r hj _ => by omega), Below.refl _ _⟩
    case round =>
      obtain ⟨k, lv, hk, rfl, rfl, l0, l1, Ha, hB⟩ := hrel
      by_cases hlt : k < rs.length
      · obtain ⟨r, hr⟩ : ∃ r, rs[k]? = some r := ⟨rs[k], List.getElem?_eq_getElem hlt⟩
        obtain ⟨c0, c1, c2⟩ := (hR.keep hb hB).at hr
        have Hr : Hid _ := hr
        clear hr
        go_wp2_with fail
        refine (szPlace r lv _ ((HF.out r (List.mem_of_getElem? Hr.out)).keep hB) l0 l1).mono ?_
        rintro e w1 ⟨hx, hb1⟩
        have Hb : Hid (Below w.heap.size w w1) := bl_trans hB hb1
        clear hB hb1
        rcases hx with rfl | ⟨m, rfl, m0, m1, hw⟩
        · go_wp2
          go_ret
          exact ⟨Or.inl rfl, Hb.out⟩
        · go_wp2
          exact ⟨⟨k + 1, _, by omega, by go_num, rfl, by omega, by omega, (fun j q hj hq => by
            by_cases e : j = k
            · subst e; have hh := Hr.out; rw [hh] at hq; cases hq; exact hw
            · exact Ha.out j q (by omega) hq), Hb.out⟩, by simp [intOf]; omega⟩
      · go_wp2
        go_ret
        exact ⟨Or.inr ⟨_, rfl, l0, l1, hn, fun r hr => by
          obtain ⟨j, hj⟩ := List.getElem?_of_mem hr
          have hjl : j < rs.length := (List.getElem?_eq_some_iff.1 hj).1
          exact Ha.out j r (by omega) hj⟩, hB⟩
  · go_enter Tryz.func15, Tryz.ntmps15
    go_wp2
    go_ret
    exact ⟨Or.inl rfl, Below.refl _ _⟩
theorem sz_nil (a : Option Addr) (cap : Nat) (left : Int) (w : World) (h0 : 0 ≤ left) (h1 : left ≤ 1048576) :
    Calls Tryz.prog 15 #[.slice a 0 cap, .int .i64 left] w fun e w' => e = .returned (.int .i64 left) ∧ w' = w := by
  go_enter Tryz.func15, Tryz.ntmps15
  go_wp2
  refine wp_loop_rounds 1 ?_
  rw [rounds_succ]
  go_wp2
  go_ret
  exact ⟨rfl, rfl⟩
/-- A list that came in. -/
def In (w : World) (v : Value) (l : List PlaceD) : Prop := (l = [] ∧ ∃ a cap, v = .slice a 0 cap) ∨ ∃ b off cap, v = .slice (some ⟨b, off, none⟩) l.length cap ∧ l.length ≤ maxLen ∧ b < w.heap.size ∧ RowsAt w b off l ∧ ∀ r ∈ l, r.inn w
theorem In.keep {w w' : World} {v : Value} {l : List PlaceD} (h : In w v l) (hb : Below w.heap.size w w') : In w' v l := by
  rcases h with h | ⟨b, off, cap, h1, h2, h3, h4, h5⟩
  · exact Or.inl h
  · exact Or.inr ⟨b, off, cap, h1, h2, Nat.lt_of_lt_of_le h3 hb.size, h4.keep h3 hb, fun r hr => (h5 r hr).keep hb⟩
theorem sz_in {w : World} {v : Value} {l : List PlaceD} (h : In w v l) (left : Int) (h0 : 0 ≤ left) (h1 : left ≤ 1048576) :
    Calls Tryz.prog 15 #[v, .int .i64 left] w fun e w' => (e = .returned (.int .i64 (-1)) ∨ ∃ m : Int, e = .returned (.int .i64 m) ∧ 0 ≤ m ∧ m ≤ 1048576 ∧ l.length ≤ 1048576 ∧ Lns l) ∧ Below w.heap.size w w' := by
  rcases h with ⟨rfl, a, cap, rfl⟩ | ⟨b, off, cap, rfl, k2, k3, k4, k5⟩
  · refine (sz_nil a cap left w h0 h1).mono ?_
    rintro e w' ⟨rfl, rfl⟩
    exact ⟨Or.inr ⟨left, rfl, h0, h1, by simp, fun r hr => by cases hr⟩, Below.refl _ _⟩
  · refine (szPlaceS b off cap l left w k4 k3 k5 h0 h1 k2).mono ?_
    rintro e w' ⟨rfl | ⟨m, rfl, m0, m1, hn, hL⟩, hb⟩
    · exact ⟨Or.inl rfl, hb⟩
    · exact ⟨Or.inr ⟨m, rfl, m0, m1, by omega, hL⟩, hb⟩
end Go.Proofs.YtgehmpnlfnlboaaGreatDoor.P
/- Places as they lie: a slice as it is. -/
namespace Go.Proofs.YtgehmpnlfnlboaaGreatDoor.Pr
open Go.RowKit
set_option linter.unusedVariables false

structure PlRaw where
  b : ByteArray
  s : Int
  a : Option Addr
  n : Nat
  c : Nat
def PlRaw.cells (r : PlRaw) : List Value := [.string r.b, .int .i64 r.s, .slice r.a r.n r.c]
def RowsAt (w : World) (b off : Nat) (rs : List PlRaw) : Prop := ∀ k r, rs[k]? = some r → w.rangeAt b (off + k * 3) r.cells
theorem RowsAt.keep {w w' : World} {b off : Nat} {rs : List PlRaw} (h : RowsAt w b off rs) (hb : b < w.heap.size) (hB : Below w.heap.size w w') : RowsAt w' b off rs :=
  fun k r hk j v hj => (hB.cell (p := ⟨b, off + k * 3 + j, none⟩) hb).trans (h k r hk j v hj)
theorem RowsAt.at {w : World} {b off : Nat} {rs : List PlRaw} (h : RowsAt w b off rs) {k : Nat} {r : PlRaw} (hk : rs[k]? = some r) :
    w.cell? ⟨b, off + k * 3, none⟩ = some (.string r.b) ∧ w.cell? ⟨b, off + k * 3 + 1, none⟩ = some (.int .i64 r.s) ∧ w.cell? ⟨b, off + k * 3 + 2, none⟩ = some (.slice r.a r.n r.c) :=
  ⟨h k r hk 0 _ rfl, h k r hk 1 _ rfl, h k r hk 2 _ rfl⟩
def raw (r : P.PlaceD) : PlRaw := ⟨r.b, r.s, r.a, r.ws.length, r.c⟩
theorem raw_rows {w : World} {b off : Nat} {ps : List P.PlaceD} (h : P.RowsAt w b off ps) : RowsAt w b off (ps.map raw) := by
  intro k r hk
  rw [List.getElem?_map] at hk
  obtain ⟨p, hp, rfl⟩ := Option.map_eq_some_iff.1 hk
  exact h k p hp
end Go.Proofs.YtgehmpnlfnlboaaGreatDoor.Pr
/- all and ascends, at places, raw. -/
namespace Go.Proofs.YtgehmpnlfnlboaaGreatDoor.Pr
open Go.RowKit
set_option linter.unusedVariables false

theorem name_any (r : PlRaw) (w : World) :
    Calls Tryz.prog 60 #[.agg #[.string r.b, .int .i64 r.s, .slice r.a r.n r.c]] w fun e w' => e = .returned (.string r.b) ∧ Below w.heap.size w w' := by
  go_enter Tryz.func60, Tryz.ntmps60
  go_wp2
  go_ret
  exact ⟨rfl, by repeat (first | exact Below.refl _ _ | refine bl_alloc ?_ _)⟩
/-- Ascending by their names, the first n. -/
def AscN (rs : List PlRaw) (n : Nat) : Prop := ∀ j q r, j + 1 < n → rs[j]? = some q → rs[j + 1]? = some r → Op.bytesLess q.b.toList r.b.toList = true
end Go.Proofs.YtgehmpnlfnlboaaGreatDoor.Pr
/- Lists in maps by their names: places, raw. -/
namespace Go.Proofs.YtgehmpnlfnlboaaGreatDoor.Pr
open Go.RowKit Go.Maps Go.WideMaps
set_option linter.unusedVariables false

theorem lawV : Keyed Tryz.prog 9 := string_keyed Tryz.underlying9
def RVL (xs : List Value) : Option (DataW PlRaw × List MemPlace) :=
  match xs with
  | [.string b', .int .i64 s', .slice a' n' c'] => some (.held ⟨b', s', a', n', c'⟩, [])
  | _ => none
/-- How an element of the map is read. -/
def RV (v : Value) : Option (DataW PlRaw × List MemPlace) :=
  match v with
  | .agg xs => RVL xs.toList
  | _ => none
theorem RV_inv {v : Value} {r : PlRaw} {ps : List MemPlace} (h : RV v = some (.held r, ps)) : v = .agg #[.string r.b, .int .i64 r.s, .slice r.a r.n r.c] := by
  unfold RV at h
  split at h
  · rename_i xs
    obtain ⟨l⟩ := xs
    simp only at h
    unfold RVL at h
    split at h
    · simp only [Option.some.injEq, Prod.mk.injEq, DataW.held.injEq] at h
      obtain ⟨rfl, -⟩ := h
      rfl
    · cases h
  · cases h
def keyV (r : PlRaw) : List UInt8 := r.b.data.toList
def dec (rs : List PlRaw) : DataW PlRaw := Ord.dec keyV rs
def Srt (rs : List PlRaw) : Prop := Ord.Srt keyV rs
theorem srt_asc {rs : List PlRaw} (h : AscN rs rs.length) : Srt rs :=
  Ord.srt_of keyV rs (fun j q r hq hr => by
    have h1 := h j q r (by have := (List.getElem?_eq_some_iff.1 hr).1; omega) hq hr
    rw [Ord.less_before, ByteArray.toList_eq, ByteArray.toList_eq] at h1
    exact h1)
theorem mapv_below {x y : World} {b n : Nat} {D : DataW PlRaw} (h : x.ownsMap Tryz.prog 9 RV b n D) (hb : Below x.heap.size x y) : y.ownsMap Tryz.prog 9 RV b n D :=
  h.kept (row := none) ⟨hb.os, hb.tape, hb.output, hb.size, fun k hk _ => hb.block k hk⟩ (by simp)
theorem mapv_step {w : World} (b n : Nat) (rs : List PlRaw) (r : PlRaw) (hown : w.ownsMap Tryz.prog 9 RV b n (dec rs)) (hn : n < maxLen) (hs : r.b.size ≤ maxLen) :
    ∃ w', Sem.run Tryz.prog (Instr.mapUpdate 82 (.map (some b)) (.string r.b) (.agg #[.string r.b, .int .i64 r.s, .slice r.a r.n r.c])) w = .ok () w' ∧ w'.ownsMap Tryz.prog 9 RV b (n + 1) (dec (Ord.ins keyV r rs)) ∧ w.grownBy w' (some b) := by
  have h := hown.update lawV (t := 82) (e := 46) Tryz.underlying82 hn (keyOf_string_mk Tryz.underlying9 hs) (val := .agg #[.string r.b, .int .i64 r.s, .slice r.a r.n r.c]) (d := .held r) (ps := []) rfl
  have e : (dec rs).put (Lit.string r.b.data.toList) (.held r) = dec (Ord.ins keyV r rs) := Ord.dec_put keyV r rs
  rw [e] at h
  exact h
theorem boxV {wr w' : World} {r : PlRaw} (hb : Below (wr.alloc (.cells #[.string r.b, .int .i64 r.s, .slice r.a r.n r.c] 46)).heap.size (wr.alloc (.cells #[.string r.b, .int .i64 r.s, .slice r.a r.n r.c] 46)) w') : w'.cell? ⟨wr.heap.size, 0, none⟩ = some (.string r.b) ∧ w'.cell? ⟨wr.heap.size, 1, none⟩ = some (.int .i64 r.s) ∧ w'.cell? ⟨wr.heap.size, 2, none⟩ = some (.slice r.a r.n r.c) := by
  have hk := box_keep hb
  exact ⟨by rw [hk 0]; simp [go_sem], by rw [hk 1]; simp [go_sem], by rw [hk 2]; simp [go_sem]⟩
theorem boxV_grown {wr w' w2 : World} {r : PlRaw} {B : Nat} (h : w'.cell? ⟨wr.heap.size, 0, none⟩ = some (.string r.b) ∧ w'.cell? ⟨wr.heap.size, 1, none⟩ = some (.int .i64 r.s) ∧ w'.cell? ⟨wr.heap.size, 2, none⟩ = some (.slice r.a r.n r.c)) (hg : w'.grownBy w2 (some B)) (hne : wr.heap.size ≠ B) : w2.cell? ⟨wr.heap.size, 0, none⟩ = some (.string r.b) ∧ w2.cell? ⟨wr.heap.size, 1, none⟩ = some (.int .i64 r.s) ∧ w2.cell? ⟨wr.heap.size, 2, none⟩ = some (.slice r.a r.n r.c) :=
  ⟨hg.cell h.1 (by simpa using hne), hg.cell h.2.1 (by simpa using hne), hg.cell h.2.2 (by simpa using hne)⟩
theorem make_mapV (n : Nat) (w : World) : Sem.run Tryz.prog (Instr.makeMap 82 (some (.int .i64 (n : Int)))) w = .ok (.map (some w.heap.size)) (w.alloc (.map #[] 0)) := by
  kernel_rfl

set_option maxRecDepth 4000 in
set_option maxHeartbeats 2000000 in
theorem byNameV (b off cap : Nat) (rs : List PlRaw) (w : World) (hR : RowsAt w b off rs) (l1 : b < w.heap.size) (hfit : ∀ r ∈ rs, r.b.size ≤ maxLen) (hl : rs.length ≤ 1048576) (hs : Srt rs) :
    Calls Tryz.prog 59 #[.slice (some ⟨b, off, none⟩) rs.length cap, .func (.func 60) #[] #[]] w fun e w' => e = .returned (.map (some w.heap.size)) ∧ w'.ownsMap Tryz.prog 9 RV w.heap.size rs.length (dec rs) ∧ Below w.heap.size w w' := by
  have hmm := make_mapV rs.length
  have HS : Hid (Srt rs) := hs
  clear hs
  go_enter Tryz.func59, Tryz.ntmps59
  go_wp2
  clear hmm
  go_loopw [13] (fun i wx => ∃ (k : Nat), k ≤ rs.length ∧ i = .int .i64 k ∧ Hid (wx.ownsMap Tryz.prog 9 RV w.heap.size k (dec (rs.take k))) ∧ Below w.heap.size w wx) (fun i _ => rs.length - (intOf i).toNat)
  case atStart => exact ⟨0, Nat.zero_le _, rfl, World.ownsMap_made _ _ _ _, bl_alloc (Below.refl _ _) _⟩
  case round =>
    obtain ⟨k, hk, rfl, Ho, hB⟩ := hrel
    by_cases hlt : k < rs.length
    · obtain ⟨r, hr⟩ : ∃ r, rs[k]? = some r := ⟨rs[k], List.getElem?_eq_getElem hlt⟩
      have Hr : Hid _ := hr
      have hf1 := hfit r (List.mem_of_getElem? hr)
      obtain ⟨c0, c1, c2⟩ := (hR.keep l1 hB).at hr
      clear hr
      have hne : wr.heap.size ≠ w.heap.size := by have := Ho.out.lt; omega
      go_wp2_with fail
      go_region_held3 (fun w' => w'.cell? ⟨wr.heap.size, 0, none⟩ = some (.string r.b) ∧ w'.cell? ⟨wr.heap.size, 1, none⟩ = some (.int .i64 r.s) ∧ w'.cell? ⟨wr.heap.size, 2, none⟩ = some (.slice r.a r.n r.c))
        (first | exact boxV (bl_drew (Below.refl _ _)) | exact boxV (bl_trans (bl_drew (Below.refl _ _)) hx) | exact boxV_grown (boxV (bl_trans (bl_drew (Below.refl _ _)) hx)) hg2 hne)
        (first | (go_at_call 60; refine (name_any r _).mono ?_; rintro e w' ⟨rfl, hx⟩) | (have hms := mapv_step w.heap.size k (rs.take k) r (mapv_below (mapv_below Ho.out (bl_drew (bl_alloc (Below.refl _ _) _))) hx) (by unfold maxLen; omega) hf1; obtain ⟨w2, hrun, ho2, hg2⟩ := hms; go_simp))
      have y1 := bl_trans (bl_trans hB (bl_alloc (Below.refl _ wr) _)) (bl_trans (bl_drew (Below.refl _ _)) hx)
      have Y2 : Hid (Below w.heap.size w w2) := Below.grown y1 hg2 y1.size (fun j hj => by cases hj; exact Nat.le_refl _)
      have O2 : Hid (w2.ownsMap Tryz.prog 9 RV w.heap.size (k + 1) (dec (rs.take (k + 1)))) := by
        show World.ownsMap _ _ _ _ _ _ _
        rw [← Ord.take_last keyV HS.out Hr.out]; exact ho2
      clear y1 hx hg2 ho2 hrun
      go_wp2
      exact ⟨⟨k + 1, by omega, by go_num, O2.out, Y2.out⟩, by simp [intOf]; omega⟩
    · go_wp2
      go_ret
      have e : k = rs.length := by omega
      subst e
      rw [List.take_of_length_le (Nat.le_refl _)] at Ho
      exact ⟨rfl, Ho.out, hB⟩
theorem zeroV (w : World) : (zeroValue 46).run Tryz.prog w = .ok (.agg #[.string ⟨#[]⟩, .int .i64 0, .slice none 0 0]) w := by kernel_rfl
end Go.Proofs.YtgehmpnlfnlboaaGreatDoor.Pr
