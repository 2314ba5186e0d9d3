import Derived.Test.YtgehmpnlfnlboaaGreatDoorJ03
import Derived.Test.YtgehmpnlfnlboaaGreatDoorJ04
import Derived.Test.YtgehmpnlfnlboaaGreatDoorJ01
import Derived.Test.YtgehmpnlfnlboaaGreatDoorJ02
import Derived.Deep.RegionHeld3
import Derived.Laws.Pointers
import Derived.StillTactics
/- A list of places is copied. -/
namespace Go.Proofs.YtgehmpnlfnlboaaGreatDoor.P
open Go.RowKit
set_option linter.unusedVariables false

theorem make_places (n : Nat) (hn : n ≤ 1048576) : ∃ C : Array Value, C.size = n * 3 ∧ ∀ w : World, Sem.run Tryz.prog (Instr.makeSlice 28 (.int .i64 (n : Int)) (.int .i64 (n : Int))) w = .ok (.slice (some ⟨w.heap.size, 0, none⟩) n n) (w.alloc (.cells C 46)) := by
  have hq : (Tryz.prog.info? 46).map (fun i => (i.size, i.bytes, i.zero)) = some (3, 48, some (.agg #[.string ⟨#[]⟩, .int .i64 0, .slice none 0 0])) := by kernel_rfl
  cases hi : Tryz.prog.info? 46 with
  | none => rw [hi] at hq; simp at hq
  | some i =>
    rw [hi] at hq
    simp only [Option.map_some, Option.some.injEq, Prod.mk.injEq] at hq
    obtain ⟨h1, h2, h3⟩ := hq
    refine ⟨madeCells (Value.cells (.agg #[.string ⟨#[]⟩, .int .i64 0, .slice none 0 0])) (n * i.size), (size_madeCells _ _).trans (by rw [h1]), fun w => ?_⟩
    have := run_make (P := Tryz.prog) w 28 46 i _ Tryz.underlying28 hi h3 .i64 .i64 n n (by omega) (by omega) (by rw [h2]; omega) (by omega)
    simpa using this

theorem there_part {x : World} {g n k : Nat} (h : x.there g 0 (n * 3)) (hk : k < n) : x.there g (k * 3) 3 :=
  fun j hj => by have := h (k * 3 + j) (by omega); simpa using this
theorem there_new {w : World} {C : Array Value} {t : TypeId} {n : Nat} (hC : C.size = n * 3) : (w.alloc (.cells C t)).there w.heap.size 0 (n * 3) :=
  fun j hj => ⟨by simp [go_sem]; omega, by simp [go_sem]⟩
theorem rows_snoc {x : World} {g : Nat} {qs : List PlaceD} {q : PlaceD} (h : RowsAt x g 0 qs) (ht : x.there g (qs.length * 3) 3) : RowsAt (x.setCells g (qs.length * 3) q.cells) g 0 (qs ++ [q]) := by
  intro j p hj
  by_cases e : j < qs.length
  · have hj' : qs[j]? = some p := by rw [List.getElem?_append_left e] at hj; exact hj
    exact World.rangeAt_setCells_apart (h j p hj') g (qs.length * 3) q.cells (Or.inr (Or.inl (by show 0 + j * 3 + 3 ≤ qs.length * 3; omega)))
  · rw [List.getElem?_append_right (by omega)] at hj
    have hz : j - qs.length = 0 := by
      have := (List.getElem?_eq_some_iff.1 hj).1
      simp at this; omega
    rw [hz] at hj
    cases hj
    have e2 : j = qs.length := by omega
    subst e2
    have := World.rangeAt_setCells_same x g (qs.length * 3) q.cells ht
    simpa using this
/-- While a mate is copied: what came in, what is laid out so far. -/
structure St3 (w : World) (L O : Array Value) (x : World) : Prop where
  a : ∀ k, x.cell? ⟨w.heap.size, k, none⟩ = L[k]?
  b : ∀ k, x.cell? ⟨w.heap.size + 1 + 1, k, none⟩ = O[k]?
  c : ∀ k, x.frozen? ⟨w.heap.size + 1 + 1, k, none⟩ = false
  d : x.there (w.heap.size + 1) 0 3
  e : Below w.heap.size w x
  f : w.heap.size + 1 + 1 < x.heap.size
theorem St3.below {w x y : World} {L O : Array Value} (h : St3 w L O x) (hb : Below x.heap.size x y) : St3 w L O y :=
  have hf := h.f
  ⟨fun k => (hb.cell (p := ⟨w.heap.size, k, none⟩) (by show w.heap.size < _; omega)).trans (h.a k), fun k => (hb.cell (p := ⟨w.heap.size + 1 + 1, k, none⟩) hf).trans (h.b k), fun k => (hb.frozen (p := ⟨w.heap.size + 1 + 1, k, none⟩) hf).trans (h.c k),
    fun j hj => ⟨by rw [hb.cell (p := ⟨w.heap.size + 1, 0 + j, none⟩) (by show w.heap.size + 1 < _; omega)]; exact (h.d j hj).1, by rw [hb.frozen (p := ⟨w.heap.size + 1, 0 + j, none⟩) (by show w.heap.size + 1 < _; omega)]; exact (h.d j hj).2⟩,
    bl_trans h.e hb, Nat.lt_of_lt_of_le hf hb.size⟩
theorem St3.set {w x : World} {L O : Array Value} (h : St3 w L O x) (j : Nat) (hj : j < O.size) (u : Value) : St3 w L (O.setIfInBounds j u) (x.setCell ⟨w.heap.size + 1 + 1, j, none⟩ u) := by
  have he : Ex (w.heap.size + 1 + 1) x (x.setCell ⟨w.heap.size + 1 + 1, j, none⟩ u) := (Ex.refl _ _).set j u
  have hf := h.f
  refine ⟨fun k => (he.cell (p := ⟨w.heap.size, k, none⟩) (by show w.heap.size < _; omega) (by show w.heap.size ≠ _; omega)).trans (h.a k), fun k => ?_, fun k => ?_, there_ex h.d (by omega) he (by omega), bl_set (p := ⟨w.heap.size + 1 + 1, j, none⟩) h.e (by show w.heap.size ≤ w.heap.size + 1 + 1; omega) u, Nat.lt_of_lt_of_le hf he.size⟩
  · by_cases e : k = j
    · subst e
      have h1 := h.b k
      have h2 := h.c k
      rw [Array.getElem?_eq_getElem hj] at h1
      rw [Array.getElem?_setIfInBounds_self_of_lt hj]
      exact World.cell?_setCell_same _ _ _ h1
    · rw [Array.getElem?_setIfInBounds_ne (fun h' => e h'.symm), ← h.b k]
      exact World.cell?_setCell_other _ _ _ _ (fun h' => e (by have := congrArg Addr.off h'; exact this.symm))
  · rw [World.frozen?_setCell]; exact h.c k
theorem st3_new (r : PlaceD) (w : World) : St3 w #[.string r.b, .int .i64 r.s, .slice r.a r.ws.length r.c] #[.string r.b, .int .i64 r.s, .slice none 0 0] (((w.alloc (.cells #[.string r.b, .int .i64 r.s, .slice r.a r.ws.length r.c] 72)).alloc (.cells #[.string { data := #[] }, .int .i64 0, .slice none 0 0] 46)).alloc (.cells #[.string r.b, .int .i64 r.s, .slice none 0 0] 46)) := by
  refine ⟨fun k => by simp [go_sem, World.cell?_alloc_past], fun k => by simp [go_sem], fun k => by simp [go_sem], fun j hj => ⟨by simp [go_sem, World.cell?_alloc_past] <;> omega, by simp [go_sem]⟩, bl_alloc (bl_alloc (bl_alloc (Below.refl _ _) _) _) _, by simp⟩

theorem to_nil (a : Option Addr) (cap : Nat) (w : World) :
    Calls Tryz.prog 19 #[.slice a 0 cap] w fun e w' => e = .returned (.slice (some ⟨w.heap.size, 0, none⟩) 0 0) ∧ w.heap.size < w'.heap.size ∧ Below w.heap.size w w' := by
  obtain ⟨C, hC, hmk0⟩ := make_places 0 (by omega)
  have hmk : ∀ w : World, Sem.run Tryz.prog (Instr.makeSlice 28 (.int .i64 0) (.int .i64 0)) w = .ok (.slice (some ⟨w.heap.size, 0, none⟩) 0 0) (w.alloc (.cells C 46)) := fun w => hmk0 w
  clear hmk0 hC
  go_enter Tryz.func19, Tryz.ntmps19
  go_wp2
  refine wp_loop_rounds 1 ?_
  rw [rounds_succ]
  go_wp2
  go_ret
  exact ⟨rfl, by simp, bl_alloc (Below.refl _ _) _⟩
end Go.Proofs.YtgehmpnlfnlboaaGreatDoor.P
/- Equal wants and runs are told to be equal. -/
namespace Go.Proofs.YtgehmpnlfnlboaaGreatDoor
open Go.RowKit

theorem eqWant_same (c h : ByteArray) (v p s d g : Int) (w : World) :
    Calls Tryz.prog 64 #[.agg #[.string c, .int .i64 v, .string h, .int .i64 p, .int .i64 s, .int .i64 d, .int .i64 g], .agg #[.string c, .int .i64 v, .string h, .int .i64 p, .int .i64 s, .int .i64 d, .int .i64 g]] w fun e w' => e = .returned (.bool true) ∧
      w' = (w.alloc (.cells #[.string c, .int .i64 v, .string h, .int .i64 p, .int .i64 s, .int .i64 d, .int .i64 g] 88)).alloc (.cells #[.string c, .int .i64 v, .string h, .int .i64 p, .int .i64 s, .int .i64 d, .int .i64 g] 88) := by
  go_enter Tryz.func64, Tryz.ntmps64
  go_wp2
  go_ret
  exact ⟨rfl, rfl⟩

end Go.Proofs.YtgehmpnlfnlboaaGreatDoor
/- Two lists of the same wants are told to be equal. -/
namespace Go.Proofs.YtgehmpnlfnlboaaGreatDoor.W
open Go.RowKit
set_option linter.unusedVariables false

theorem eqWant_b (c h : ByteArray) (v p s d g : Int) (w : World) :
    Calls Tryz.prog 64 #[.agg #[.string c, .int .i64 v, .string h, .int .i64 p, .int .i64 s, .int .i64 d, .int .i64 g], .agg #[.string c, .int .i64 v, .string h, .int .i64 p, .int .i64 s, .int .i64 d, .int .i64 g]] w fun e w' => e = .returned (.bool true) ∧ Below w.heap.size w w' := by
  refine (eqWant_same c h v p s d g w).mono ?_
  rintro e w' ⟨rfl, rfl⟩
  exact ⟨rfl, bl_alloc (bl_alloc (Below.refl _ _) _) _⟩
theorem keepR {x w' : World} {b1 o1 b2 o2 k : Nat} {rs : List WantD} {r : WantD} (hk : rs[k]? = some r) (h1 : RowsAt x b1 o1 rs) (h2 : RowsAt x b2 o2 rs) (l1 : b1 < x.heap.size) (l2 : b2 < x.heap.size) (hb : Below x.heap.size x w') :
    Below x.heap.size x w' ∧ (w'.cell? ⟨b1, o1 + k * 7, none⟩ = some (.string r.c) ∧ w'.cell? ⟨b1, o1 + k * 7 + 1, none⟩ = some (.int .i64 r.v) ∧ w'.cell? ⟨b1, o1 + k * 7 + 2, none⟩ = some (.string r.h) ∧ w'.cell? ⟨b1, o1 + k * 7 + 3, none⟩ = some (.int .i64 r.p) ∧ w'.cell? ⟨b1, o1 + k * 7 + 4, none⟩ = some (.int .i64 r.s) ∧ w'.cell? ⟨b1, o1 + k * 7 + 5, none⟩ = some (.int .i64 r.d) ∧ w'.cell? ⟨b1, o1 + k * 7 + 6, none⟩ = some (.int .i64 r.g)) ∧ (w'.cell? ⟨b2, o2 + k * 7, none⟩ = some (.string r.c) ∧ w'.cell? ⟨b2, o2 + k * 7 + 1, none⟩ = some (.int .i64 r.v) ∧ w'.cell? ⟨b2, o2 + k * 7 + 2, none⟩ = some (.string r.h) ∧ w'.cell? ⟨b2, o2 + k * 7 + 3, none⟩ = some (.int .i64 r.p) ∧ w'.cell? ⟨b2, o2 + k * 7 + 4, none⟩ = some (.int .i64 r.s) ∧ w'.cell? ⟨b2, o2 + k * 7 + 5, none⟩ = some (.int .i64 r.d) ∧ w'.cell? ⟨b2, o2 + k * 7 + 6, none⟩ = some (.int .i64 r.g)) :=
  ⟨hb, (h1.keep l1 hb).at hk, (h2.keep l2 hb).at hk⟩

set_option maxHeartbeats 1000000 in
theorem eqWantS (b1 o1 n1 b2 o2 n2 : Nat) (rs : List WantD) (w : World) (h1 : RowsAt w b1 o1 rs) (h2 : RowsAt w b2 o2 rs) (l1 : b1 < w.heap.size) (l2 : b2 < w.heap.size) (hl : rs.length ≤ 1048576) :
    Calls Tryz.prog 48 #[.slice (some ⟨b1, o1, none⟩) rs.length n1, .slice (some ⟨b2, o2, none⟩) rs.length n2] w fun e w' => e = .returned (.bool true) ∧ Below w.heap.size w w' := by
  go_enter Tryz.func48, Tryz.ntmps48
  go_wp2
  go_loopw [5] (fun i wx => ∃ (k : Nat), k ≤ rs.length ∧ i = .int .i64 k ∧ Below w.heap.size w wx) (fun i _ => rs.length - (intOf i).toNat)
  case atStart => exact ⟨0, Nat.zero_le _, rfl, Below.refl _ _⟩
  case round =>
    obtain ⟨k, hk, rfl, hB⟩ := hrel
    by_cases hlt : k < rs.length
    · obtain ⟨r, hr⟩ : ∃ r, rs[k]? = some r := ⟨rs[k], List.getElem?_eq_getElem hlt⟩
      have Hr : Hid _ := hr
      clear hr
      have g1 := h1.keep l1 hB
      have g2 := h2.keep l2 hB
      have z1 : b1 < wr.heap.size := Nat.lt_of_lt_of_le l1 hB.size
      have z2 : b2 < wr.heap.size := Nat.lt_of_lt_of_le l2 hB.size
      have i0 : (0 : Int) ≤ (k : Int) := by omega
      have i1 : (k : Int) < (rs.length : Int) := by omega
      go_wp2_with fail
      go_region_held3 (fun w' => Below wr.heap.size wr w' ∧ (w'.cell? ⟨b1, o1 + k * 7, none⟩ = some (.string r.c) ∧ w'.cell? ⟨b1, o1 + k * 7 + 1, none⟩ = some (.int .i64 r.v) ∧ w'.cell? ⟨b1, o1 + k * 7 + 2, none⟩ = some (.string r.h) ∧ w'.cell? ⟨b1, o1 + k * 7 + 3, none⟩ = some (.int .i64 r.p) ∧ w'.cell? ⟨b1, o1 + k * 7 + 4, none⟩ = some (.int .i64 r.s) ∧ w'.cell? ⟨b1, o1 + k * 7 + 5, none⟩ = some (.int .i64 r.d) ∧ w'.cell? ⟨b1, o1 + k * 7 + 6, none⟩ = some (.int .i64 r.g)) ∧ (w'.cell? ⟨b2, o2 + k * 7, none⟩ = some (.string r.c) ∧ w'.cell? ⟨b2, o2 + k * 7 + 1, none⟩ = some (.int .i64 r.v) ∧ w'.cell? ⟨b2, o2 + k * 7 + 2, none⟩ = some (.string r.h) ∧ w'.cell? ⟨b2, o2 + k * 7 + 3, none⟩ = some (.int .i64 r.p) ∧ w'.cell? ⟨b2, o2 + k * 7 + 4, none⟩ = some (.int .i64 r.s) ∧ w'.cell? ⟨b2, o2 + k * 7 + 5, none⟩ = some (.int .i64 r.d) ∧ w'.cell? ⟨b2, o2 + k * 7 + 6, none⟩ = some (.int .i64 r.g)))
        (first | exact keepR Hr.out g1 g2 z1 z2 (bl_drew (Below.refl _ _)) | exact keepR Hr.out g1 g2 z1 z2 (bl_trans (bl_drew (Below.refl _ _)) hb))
        (first | (go_at_call 64; refine (eqWant_b r.c r.h r.v r.p r.s r.d r.g _).mono ?_; rintro e w' ⟨rfl, hb⟩))
      go_wp2
      exact ⟨⟨k + 1, by omega, by go_num, bl_trans hB (bl_trans (bl_drew (Below.refl _ _)) hb)⟩, by simp [intOf]; omega⟩
    · go_wp2
      go_ret
      exact ⟨rfl, hB⟩
end Go.Proofs.YtgehmpnlfnlboaaGreatDoor.W
/- A book is measured, copied and held against another. -/
namespace Go.Proofs.YtgehmpnlfnlboaaGreatDoor.G
theorem RowsAt.exq {kr : Nat} {w w' : World} {b off : Nat} {rs : List GrantD} (h : RowsAt w b off rs) (hb : b < w.heap.size) (hE : Ex kr w w') (hne : b ≠ kr) : RowsAt w' b off rs :=
  fun k r hk j v hj => (hE.cell (p := ⟨b, off + k * 5 + j, none⟩) hb hne).trans (h k r hk j v hj)
end Go.Proofs.YtgehmpnlfnlboaaGreatDoor.G
namespace Go.Proofs.YtgehmpnlfnlboaaGreatDoor.P
theorem RowsAt.exq {kr : Nat} {w w' : World} {b off : Nat} {rs : List PlaceD} (h : RowsAt w b off rs) (hb : b < w.heap.size) (hE : Ex kr w w') (hne : b ≠ kr) : RowsAt w' b off rs :=
  fun k r hk j v hj => (hE.cell (p := ⟨b, off + k * 3 + j, none⟩) hb hne).trans (h k r hk j v hj)
end Go.Proofs.YtgehmpnlfnlboaaGreatDoor.P
namespace Go.Proofs.YtgehmpnlfnlboaaGreatDoor.P
open Go.RowKit
set_option linter.unusedVariables false

/-- The lists of a book lie in blocks. -/
structure LandAt (w : World) (gs : List G.GrantD) (ps : List PlaceD) (b1 b2 : Nat) : Prop where
  g : G.RowsAt w b1 0 gs
  g1 : b1 < w.heap.size
  p : RowsAt w b2 0 ps
  p1 : b2 < w.heap.size
  k : ∀ r ∈ ps, r.blk 0 w
theorem LandAt.keep {w w' : World} {gs : List G.GrantD} {ps : List PlaceD} {b1 b2 : Nat} (h : LandAt w gs ps b1 b2) (hb : Below w.heap.size w w') : LandAt w' gs ps b1 b2 :=
  ⟨h.g.keep h.g1 hb, Nat.lt_of_lt_of_le h.g1 hb.size, h.p.keep h.p1 hb, Nat.lt_of_lt_of_le h.p1 hb.size, fun r hr => (h.k r hr).keep hb⟩
theorem land_box {w w' : World} {t : Int} {v1 v2 : Value} (hb : Below (w.alloc (.cells #[.int .i64 t, v1, v2] 25)).heap.size (w.alloc (.cells #[.int .i64 t, v1, v2] 25)) w') : ∀ k, w'.cell? ⟨w.heap.size, k, none⟩ = (#[.int .i64 t, v1, v2] : Array Value)[k]? := by
  intro k
  rw [hb.cell (p := ⟨w.heap.size, k, none⟩) (by simp)]
  simp [go_sem]

set_option maxRecDepth 4000 in
set_option maxHeartbeats 2000000 in
theorem szLand_le (t : Int) (gs : List G.GrantD) (ps : List PlaceD) (v1 v2 : Value) (w : World) (i1 : G.In w v1 gs) (i2 : In w v2 ps) :
    Calls Tryz.prog 4 #[.agg #[.int .i64 t, v1, v2], .int .i64 1048576] w fun e w' => (e = .returned (.int .i64 (-1)) ∨ ∃ x : Int, e = .returned (.int .i64 x) ∧ 0 ≤ x ∧ x ≤ 1048576 ∧ gs.length ≤ 1048576 ∧ ps.length ≤ 1048576 ∧ Lns ps) ∧ Below w.heap.size w w' := by
  have Hb0 : Hid (Below w.heap.size w (w.alloc (.cells #[.int .i64 t, v1, v2] 25))) := bl_alloc (Below.refl _ _) _
  go_enter Tryz.func4, Tryz.ntmps4
  go_wp2_with fail
  refine (G.sz_in (i1.keep Hb0.out) 1048576 (by omega) (by omega)).mono ?_
  rintro e w1 ⟨hx1, c1⟩
  have C1 : Hid (Below w.heap.size w w1) := bl_trans Hb0.out c1
  have kb1 := land_box c1
  clear c1
  rcases hx1 with rfl | ⟨x1, rfl, p1, r1, l1⟩
  · go_wp2
    go_ret
    exact ⟨Or.inl rfl, C1.out⟩
  go_wp2_with fail
  refine (sz_in (i2.keep C1.out) x1 (by omega) (by omega)).mono ?_
  rintro e w2 ⟨hx2, c2⟩
  have C2 : Hid (Below w.heap.size w w2) := bl_trans C1.out c2
  clear c2 kb1
  rcases hx2 with rfl | ⟨x2, rfl, p2, r2, l2, hL⟩
  · go_wp2
    go_ret
    exact ⟨Or.inl rfl, C2.out⟩
  have HL : Hid _ := hL
  clear hL
  go_wp2
  go_ret
  exact ⟨Or.inr ⟨x2, rfl, p2, r2, l1, l2, HL.out⟩, C2.out⟩
theorem szLand (t : Int) (gs : List G.GrantD) (ps : List PlaceD) (v1 v2 : Value) (w : World) (i1 : G.In w v1 gs) (i2 : In w v2 ps) :
    Calls Tryz.prog 4 #[.agg #[.int .i64 t, v1, v2], .int .i64 1048576] w fun e w' => (e = .returned (.int .i64 (-1)) ∨ ∃ x : Int, e = .returned (.int .i64 x) ∧ 0 ≤ x ∧ gs.length ≤ 1048576 ∧ ps.length ≤ 1048576 ∧ Lns ps) ∧ Below w.heap.size w w' := (szLand_le t gs ps v1 v2 w i1 i2).mono (by rintro e w' ⟨h | ⟨x, h1, h2, -, h4⟩, hb⟩; exact ⟨Or.inl h, hb⟩; exact ⟨Or.inr ⟨x, h1, h2, h4⟩, hb⟩)
theorem st_land (t : Int) (v1 v2 : Value) (w : World) : St3 w #[.int .i64 t, v1, v2] #[.int .i64 t, .slice none 0 0, .slice none 0 0] (((w.alloc (.cells #[.int .i64 t, v1, v2] 25)).alloc (.cells #[.int .i64 0, .slice none 0 0, .slice none 0 0] 30)).alloc (.cells #[.int .i64 t, .slice none 0 0, .slice none 0 0] 30)) := by
  refine ⟨fun k => by simp [go_sem, World.cell?_alloc_past], fun k => by simp [go_sem], fun k => by simp [go_sem], fun j hj => ⟨by simp [go_sem, World.cell?_alloc_past] <;> omega, by simp [go_sem]⟩, bl_alloc (bl_alloc (bl_alloc (Below.refl _ _) _) _) _, by simp⟩

end Go.Proofs.YtgehmpnlfnlboaaGreatDoor.P
/- all and ascends, at places. -/
namespace Go.Proofs.YtgehmpnlfnlboaaGreatDoor.P
open Go.RowKit
set_option linter.unusedVariables false

set_option maxRecDepth 4000 in
set_option maxHeartbeats 1000000 in
theorem allOk (P : PlaceD → Bool) (b off cap : Nat) (rs : List PlaceD) (w : World) (hR : RowsAt w b off rs) (l1 : b < w.heap.size) (hl : rs.length ≤ 1048576)
    (hF : ∀ r ∈ rs, ∀ x, Below w.heap.size w x → Calls Tryz.prog 75 #[.agg #[.string r.b, .int .i64 r.s, .slice r.a r.ws.length r.c]] x fun e x' => e = .returned (.bool (P r)) ∧ Below x.heap.size x x') :
    Calls Tryz.prog 74 #[.slice (some ⟨b, off, none⟩) rs.length cap, .func (.func 75) #[] #[]] w fun e w' => (∃ q : Bool, e = .returned (.bool q) ∧ (q = true ↔ ∀ r ∈ rs, P r = true)) ∧ Below w.heap.size w w' := by
  have HF : Hid _ := hF
  clear hF
  go_enter Tryz.func74, Tryz.ntmps74
  go_wp2
  go_loopw [9] (fun i wx => ∃ (k : Nat), k ≤ rs.length ∧ i = .int .i64 k ∧ Hid (∀ j r, j < k → rs[j]? = some r → P r = true) ∧ Below w.heap.size w wx) (fun i _ => rs.length - (intOf i).toNat)
  case atStart => exact ⟨0, Nat.zero_le _, rfl, fun j r h => by omega, Below.refl _ _⟩
  case round =>
    obtain ⟨k, hk, rfl, Ha, hB⟩ := hrel
    by_cases hlt : k < rs.length
    · obtain ⟨r, hr⟩ : ∃ r, rs[k]? = some r := ⟨rs[k], List.getElem?_eq_getElem hlt⟩
      have Hr : Hid _ := hr
      clear hr
      obtain ⟨c0, c1, c2⟩ := (hR.keep l1 hB).at Hr.out
      go_wp2_with fail
      refine (HF.out r (List.mem_of_getElem? Hr.out) _ (bl_alloc hB _)).mono ?_
      rintro e w1 ⟨rfl, hb⟩
      have hB1 := bl_trans (bl_alloc hB _) hb
      have Hb1 : Hid _ := hB1
      clear hB hb hB1
      cases hP : P r
      · go_wp2
        go_ret
        exact ⟨⟨false, rfl, ⟨fun h => (by cases h), fun h => by have := h r (List.mem_of_getElem? Hr.out); rw [hP] at this; cases this⟩⟩, Hb1.out⟩
      · go_wp2
        exact ⟨⟨k + 1, by omega, by go_num, (fun j q hj hq => by
          by_cases e : j = k
          · subst e; have hh := Hr.out; rw [hh] at hq; cases hq; exact hP
          · exact Ha.out j q (by omega) hq), Hb1.out⟩, by simp [intOf]; omega⟩
    · go_wp2
      go_ret
      exact ⟨⟨true, rfl, ⟨fun _ r hr => by
        obtain ⟨j, hj⟩ := List.getElem?_of_mem hr
        have hjl : j < rs.length := (List.getElem?_eq_some_iff.1 hj).1
        exact Ha.out j r (by omega) hj, fun _ => rfl⟩⟩, hB⟩

theorem name_any (r : PlaceD) (w : World) :
    Calls Tryz.prog 60 #[.agg #[.string r.b, .int .i64 r.s, .slice r.a r.ws.length r.c]] w fun e w' => e = .returned (.string r.b) ∧ Below w.heap.size w w' := by
  go_enter Tryz.func60, Tryz.ntmps60
  go_wp2
  go_ret
  exact ⟨rfl, by repeat (first | exact Below.refl _ _ | refine bl_alloc ?_ _)⟩
/-- Ascending by their names, the first n. -/
def AscN (rs : List PlaceD) (n : Nat) : Prop := ∀ j q r, j + 1 < n → rs[j]? = some q → rs[j + 1]? = some r → Op.bytesLess q.b.toList r.b.toList = true
theorem AscN.step {rs : List PlaceD} {k : Nat} {q r : PlaceD} (h : AscN rs (k + 1)) (hq : rs[k]? = some q) (hr : rs[k + 1]? = some r) (hs : Op.bytesLess q.b.toList r.b.toList = true) : AscN rs (k + 1 + 1) := by
  intro j q' r' hj hq' hr'
  by_cases e : j = k
  · subst e; rw [hq] at hq'; rw [hr] at hr'; cases hq'; cases hr'; exact hs
  · exact h j q' r' (by omega) hq' hr'
theorem keepAsc {x w' : World} {b off m : Nat} {rs : List PlaceD} {r q : PlaceD} (hk : rs[m + 1]? = some r) (hq : rs[m]? = some q) (h1 : RowsAt x b off rs) (l1 : b < x.heap.size) (hb : Below x.heap.size x w') :
    Below x.heap.size x w' ∧ (w'.cell? ⟨b, off + (m + 1) * 3, none⟩ = some (.string r.b) ∧ w'.cell? ⟨b, off + (m + 1) * 3 + 1, none⟩ = some (.int .i64 r.s) ∧ w'.cell? ⟨b, off + (m + 1) * 3 + 2, none⟩ = some (.slice r.a r.ws.length r.c)) ∧ (w'.cell? ⟨b, off + m * 3, none⟩ = some (.string q.b) ∧ w'.cell? ⟨b, off + m * 3 + 1, none⟩ = some (.int .i64 q.s) ∧ w'.cell? ⟨b, off + m * 3 + 2, none⟩ = some (.slice q.a q.ws.length q.c)) := ⟨hb, (h1.keep l1 hb).at hk, (h1.keep l1 hb).at hq⟩

set_option maxRecDepth 4000 in
set_option maxHeartbeats 2000000 in
theorem ascends (b off cap : Nat) (rs : List PlaceD) (w : World) (hR : RowsAt w b off rs) (l1 : b < w.heap.size) (hl : rs.length ≤ 1048576) :
    Calls Tryz.prog 73 #[.slice (some ⟨b, off, none⟩) rs.length cap, .func (.func 60) #[] #[]] w fun e w' => (∃ q : Bool, e = .returned (.bool q) ∧ (q = true ↔ AscN rs rs.length)) ∧ Below w.heap.size w w' := by
  go_enter Tryz.func73, Tryz.ntmps73
  go_wp2
  go_loopw [5] (fun i wx => ∃ (m : Nat), m ≤ rs.length ∧ i = .int .i64 ((m : Int) + 1) ∧ Hid (AscN rs (m + 1)) ∧ Below w.heap.size w wx) (fun i _ => rs.length + 1 - (intOf i).toNat)
  case atStart => exact ⟨0, Nat.zero_le _, rfl, (fun j q r hj _ _ => by omega), Below.refl _ _⟩
  case round =>
    obtain ⟨m, hk, rfl, Ha, hB⟩ := hrel
    by_cases hlt : m + 1 < rs.length
    · obtain ⟨r, hr⟩ : ∃ r, rs[m + 1]? = some r := ⟨rs[m + 1], List.getElem?_eq_getElem hlt⟩
      obtain ⟨q, hq⟩ : ∃ q, rs[m]? = some q := ⟨rs[m], List.getElem?_eq_getElem (by omega)⟩
      have Hr : Hid _ := hr
      have Hq : Hid _ := hq
      clear hr hq
      have g1 := hR.keep l1 hB
      have z1 : b < wr.heap.size := Nat.lt_of_lt_of_le l1 hB.size
      have i0 : (0 : Int) ≤ (m : Int) := by omega
      have i1 : (m : Int) + 1 < (rs.length : Int) := by omega
      have i2 : (m : Int) < (rs.length : Int) := by omega
      have i3 : (0 : Int) ≤ (m : Int) + 1 := by omega
      have iw : IntKind.i64.wrap (m : Int) = (m : Int) := by rw [IntKind.wrap_i64]; omega
      cases hasc : Op.bytesLess q.b.toList r.b.toList
      · go_wp2_with fail
        go_region_held3 (fun w' => Below wr.heap.size wr w' ∧ (w'.cell? ⟨b, off + (m + 1) * 3, none⟩ = some (.string r.b) ∧ w'.cell? ⟨b, off + (m + 1) * 3 + 1, none⟩ = some (.int .i64 r.s) ∧ w'.cell? ⟨b, off + (m + 1) * 3 + 2, none⟩ = some (.slice r.a r.ws.length r.c)) ∧ (w'.cell? ⟨b, off + m * 3, none⟩ = some (.string q.b) ∧ w'.cell? ⟨b, off + m * 3 + 1, none⟩ = some (.int .i64 q.s) ∧ w'.cell? ⟨b, off + m * 3 + 2, none⟩ = some (.slice q.a q.ws.length q.c)))
          (first | exact keepAsc Hr.out Hq.out g1 z1 (bl_drew (Below.refl _ _)) | exact keepAsc Hr.out Hq.out g1 z1 (bl_trans (bl_drew (Below.refl _ _)) hx) | exact keepAsc Hr.out Hq.out g1 z1 (bl_trans (bl_trans (bl_drew (Below.refl _ _)) hx) hy))
          (first | (go_at_call 60; refine (name_any q _).mono ?_; rintro e w' ⟨rfl, hx⟩) | (go_at_call 60; refine (name_any r _).mono ?_; rintro e w'' ⟨rfl, hy⟩))
        have y1 := bl_trans (bl_trans (bl_drew (Below.refl _ wr)) hx) hy
        have Hb1 : Hid _ := bl_trans hB y1
        clear hx hy y1 hB g1
        go_wp2
        go_ret
        exact ⟨⟨false, rfl, ⟨fun h => (by cases h), fun h => by have := h m q r (by omega) Hq.out Hr.out; rw [hasc] at this; cases this⟩⟩, Hb1.out⟩
      · go_wp2_with fail
        go_region_held3 (fun w' => Below wr.heap.size wr w' ∧ (w'.cell? ⟨b, off + (m + 1) * 3, none⟩ = some (.string r.b) ∧ w'.cell? ⟨b, off + (m + 1) * 3 + 1, none⟩ = some (.int .i64 r.s) ∧ w'.cell? ⟨b, off + (m + 1) * 3 + 2, none⟩ = some (.slice r.a r.ws.length r.c)) ∧ (w'.cell? ⟨b, off + m * 3, none⟩ = some (.string q.b) ∧ w'.cell? ⟨b, off + m * 3 + 1, none⟩ = some (.int .i64 q.s) ∧ w'.cell? ⟨b, off + m * 3 + 2, none⟩ = some (.slice q.a q.ws.length q.c)))
          (first | exact keepAsc Hr.out Hq.out g1 z1 (bl_drew (Below.refl _ _)) | exact keepAsc Hr.out Hq.out g1 z1 (bl_trans (bl_drew (Below.refl _ _)) hx) | exact keepAsc Hr.out Hq.out g1 z1 (bl_trans (bl_trans (bl_drew (Below.refl _ _)) hx) hy))
          (first | (go_at_call 60; refine (name_any q _).mono ?_; rintro e w' ⟨rfl, hx⟩) | (go_at_call 60; refine (name_any r _).mono ?_; rintro e w'' ⟨rfl, hy⟩))
        have y1 := bl_trans (bl_trans (bl_drew (Below.refl _ wr)) hx) hy
        have Hb1 : Hid _ := bl_trans hB y1
        clear hx hy y1 hB g1
        go_wp2
        exact ⟨⟨m + 1, by omega, by go_num, Ha.out.step Hq.out Hr.out hasc, Hb1.out⟩, by simp [intOf]; omega⟩
    · go_wp2
      go_ret
      exact ⟨⟨true, rfl, ⟨fun _ j q r hj hq hr => Ha.out j q r (by omega) hq hr, fun _ => rfl⟩⟩, hB⟩
end Go.Proofs.YtgehmpnlfnlboaaGreatDoor.P
