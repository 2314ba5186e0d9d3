import Derived.Test.YtefkdohkjdopeaaGreatDoorJ04
import Derived.Test.YtefkdohkjdopeaaGreatDoorJ01
import Derived.Deep.RegionHeld3
import Derived.Laws.Pointers
import Derived.StillTactics
import Derived.Test.YtefkdohkjdopeaaGreatDoorJ02
import Derived.Test.YtefkdohkjdopeaaGreatDoorJ03
import Derived.Laws.MakeOwn
namespace Go.Proofs.YtefkdohkjdopeaaGreatDoor.G
open Go.RowKit
set_option linter.unusedVariables false
set_option maxHeartbeats 1000000 in
theorem szGrantS_m (b off cap : Nat) (rs : List GrantD) (left : Int) (w : World) (hR : RowsAt w b off rs) (hb : b < w.heap.size) (hf : ∀ r ∈ rs, r.fits) (h0 : 0 ≤ left) (h1 : left ≤ 1048576) (hl : rs.length ≤ maxLen) :
  Calls Tryz.prog 18 #[.slice (some ⟨b, off, none⟩) rs.length cap, .int .i64 left] w fun e w' => (e = .returned (.int .i64 (-1)) ∨ ∃ m : Int, e = .returned (.int .i64 m) ∧ 0 ≤ m ∧ m ≤ 1048576 ∧ (rs.length : Int) ≤ left) ∧ Below w.heap.size w w' := by
 unfold maxLen at hl
 by_cases hn : (rs.length : Int) ≤ left
 ·
  go_enter Tryz.func18, Tryz.ntmps18
  go_wp2
  go_loopw [1, 5] (fun l i wx => ∃ (k : Nat) (lv : Int), k ≤ rs.length ∧ i = .int .i64 k ∧ l = .int .i64 lv ∧ 0 ≤ lv ∧ lv ≤ 1048576 ∧ Below w.heap.size w wx) (fun _ i _ => rs.length - (intOf i).toNat)
  case atStart => exact ⟨0, _, Nat.zero_le _, rfl, rfl, by omega, by omega, Below.refl _ _⟩
  case round =>
   obtain ⟨k, lv, hk, rfl, rfl, l0, l1, hB⟩ := hrel
   by_cases hlt : k < rs.length
   ·
    obtain ⟨r, hr⟩ : ∃ r, rs[k]? = some r := ⟨rs[k], List.getElem?_eq_getElem hlt⟩
    obtain ⟨c0, c1, c2, c3, c4⟩ := (hR.keep hb hB).at hr
    have hfr : r.fits := hf r (List.mem_of_getElem? hr)
    clear hr
    by_cases hsz : (r.h.size : Int) + r.b.size + r.c.size ≤ lv
    ·
     go_wp2_with fail
     refine (szGrant_yes r.h r.b r.c r.t r.u lv l0 l1 hsz _).mono ?_
     rintro e w1 ⟨rfl, hb1⟩
     go_wp2
     exact ⟨⟨k + 1, _, by omega, by go_num, rfl, by omega, by omega, bl_trans hB hb1⟩, by simp [intOf]; omega⟩
    ·
     go_wp2_with fail
     refine (szGrant_no r.h r.b r.c r.t r.u lv l0 l1 hfr.1 hfr.2.1 hfr.2.2 (by omega) _).mono ?_
     rintro e w1 ⟨rfl, hb1⟩
     go_wp2
     go_ret
     exact ⟨Or.inl rfl, bl_trans hB hb1⟩
   ·
    go_wp2
    go_ret
    exact ⟨Or.inr ⟨_, rfl, l0, l1, hn⟩, hB⟩
 ·
  go_enter Tryz.func18, Tryz.ntmps18
  go_wp2
  go_ret
  exact ⟨Or.inl rfl, Below.refl _ _⟩
theorem sz_nil (a : Option Addr) (cap : Nat) (left : Int) (w : World) (h0 : 0 ≤ left) (h1 : left ≤ 1048576) :
  Calls Tryz.prog 18 #[.slice a 0 cap, .int .i64 left] w fun e w' => e = .returned (.int .i64 left) ∧ w' = w := by
 go_enter Tryz.func18, Tryz.ntmps18
 go_wp2
 refine wp_loop_rounds 1 ?_
 rw [rounds_succ]
 go_wp2
 go_ret
 exact ⟨rfl, rfl⟩
theorem to_nil (a : Option Addr) (cap : Nat) (w : World) :
  Calls Tryz.prog 28 #[.slice a 0 cap] w fun e w' => e = .returned (.slice (some ⟨w.heap.size, 0, none⟩) 0 0) ∧ w.heap.size < w'.heap.size ∧ Below w.heap.size w w' := by
 obtain ⟨C, hC, hmk0⟩ := make_grants 0 (by omega)
 have hmk : ∀ w : World, Sem.run Tryz.prog (Instr.makeSlice 31 (.int .i64 0) (.int .i64 0)) w = .ok (.slice (some ⟨w.heap.size, 0, none⟩) 0 0) (w.alloc (.cells C 61)) := fun w => hmk0 w
 clear hmk0 hC
 go_enter Tryz.func28, Tryz.ntmps28
 go_wp2
 refine wp_loop_rounds 1 ?_
 rw [rounds_succ]
 go_wp2
 go_ret
 exact ⟨rfl, by simp, bl_alloc (Below.refl _ _) _⟩
def In (w : World) (v : Value) (l : List GrantD) : Prop := (l = [] ∧ ∃ a cap, v = .slice a 0 cap) ∨ ∃ b off cap, v = .slice (some ⟨b, off, none⟩) l.length cap ∧ l.length ≤ maxLen ∧ b < w.heap.size ∧ RowsAt w b off l ∧ ∀ r ∈ l, r.fits
theorem In.keep {w w' : World} {v : Value} {l : List GrantD} (h : In w v l) (hb : Below w.heap.size w w') : In w' v l := by
 rcases h with h | ⟨b, off, cap, h1, h2, h3, h4, h5⟩
 ·
  exact Or.inl h
 ·
  exact Or.inr ⟨b, off, cap, h1, h2, Nat.lt_of_lt_of_le h3 hb.size, h4.keep h3 hb, h5⟩
theorem In.fits {w : World} {v : Value} {l : List GrantD} (h : In w v l) : ∀ r ∈ l, r.fits := by
 rcases h with ⟨rfl, -⟩ | ⟨b, off, cap, h1, h2, h3, h4, h5⟩
 ·
  intro r hr; cases hr
 ·
  exact h5
theorem sz_in {w : World} {v : Value} {l : List GrantD} (h : In w v l) (left : Int) (h0 : 0 ≤ left) (h1 : left ≤ 1048576) :
  Calls Tryz.prog 18 #[v, .int .i64 left] w fun e w' => (e = .returned (.int .i64 (-1)) ∨ ∃ m : Int, e = .returned (.int .i64 m) ∧ 0 ≤ m ∧ m ≤ 1048576 ∧ l.length ≤ 1048576) ∧ Below w.heap.size w w' := by
 rcases h with ⟨rfl, a, cap, rfl⟩ | ⟨b, off, cap, rfl, k2, k3, k4, k5⟩
 ·
  refine (sz_nil a cap left w h0 h1).mono ?_
  rintro e w' ⟨rfl, rfl⟩
  exact ⟨Or.inr ⟨left, rfl, h0, h1, by simp⟩, Below.refl _ _⟩
 ·
  refine (szGrantS_m b off cap l left w k4 k3 k5 h0 h1 k2).mono ?_
  rintro e w' ⟨rfl | ⟨m, rfl, m0, m1, hn⟩, hb⟩
  ·
   exact ⟨Or.inl rfl, hb⟩
  ·
   exact ⟨Or.inr ⟨m, rfl, m0, m1, by omega⟩, hb⟩
end Go.Proofs.YtefkdohkjdopeaaGreatDoor.G
namespace Go.Proofs.YtefkdohkjdopeaaGreatDoor.G
open Go.RowKit
set_option linter.unusedVariables false
theorem eqGrant_b (h b c : ByteArray) (t u : Int) (w : World) :
  Calls Tryz.prog 58 #[.agg #[.string h, .string b, .string c, .int .i64 t, .int .i64 u], .agg #[.string h, .string b, .string c, .int .i64 t, .int .i64 u]] w fun e w' => e = .returned (.bool true) ∧ Below w.heap.size w w' := by
 go_enter Tryz.func58, Tryz.ntmps58
 go_wp2
 go_ret
 exact ⟨rfl, bl_alloc (bl_alloc (Below.refl _ _) _) _⟩
theorem keepR {x w' : World} {b1 o1 b2 o2 k : Nat} {rs : List GrantD} {r : GrantD} (hk : rs[k]? = some r) (h1 : RowsAt x b1 o1 rs) (h2 : RowsAt x b2 o2 rs) (l1 : b1 < x.heap.size) (l2 : b2 < x.heap.size) (hb : Below x.heap.size x w') :
  Below x.heap.size x w' ∧ (w'.cell? ⟨b1, o1 + k * 5, none⟩ = some (.string r.h) ∧ w'.cell? ⟨b1, o1 + k * 5 + 1, none⟩ = some (.string r.b) ∧ w'.cell? ⟨b1, o1 + k * 5 + 2, none⟩ = some (.string r.c) ∧ w'.cell? ⟨b1, o1 + k * 5 + 3, none⟩ = some (.int .i64 r.t) ∧ w'.cell? ⟨b1, o1 + k * 5 + 4, none⟩ = some (.int .i64 r.u)) ∧ (w'.cell? ⟨b2, o2 + k * 5, none⟩ = some (.string r.h) ∧ w'.cell? ⟨b2, o2 + k * 5 + 1, none⟩ = some (.string r.b) ∧ w'.cell? ⟨b2, o2 + k * 5 + 2, none⟩ = some (.string r.c) ∧ w'.cell? ⟨b2, o2 + k * 5 + 3, none⟩ = some (.int .i64 r.t) ∧ w'.cell? ⟨b2, o2 + k * 5 + 4, none⟩ = some (.int .i64 r.u)) :=
 ⟨hb, (h1.keep l1 hb).at hk, (h2.keep l2 hb).at hk⟩
set_option maxHeartbeats 1000000 in
theorem eqGrantS (b1 o1 n1 b2 o2 n2 : Nat) (rs : List GrantD) (w : World) (h1 : RowsAt w b1 o1 rs) (h2 : RowsAt w b2 o2 rs) (l1 : b1 < w.heap.size) (l2 : b2 < w.heap.size) (hl : rs.length ≤ 1048576) :
  Calls Tryz.prog 34 #[.slice (some ⟨b1, o1, none⟩) rs.length n1, .slice (some ⟨b2, o2, none⟩) rs.length n2] w fun e w' => e = .returned (.bool true) ∧ Below w.heap.size w w' := by
 go_enter Tryz.func34, Tryz.ntmps34
 go_wp2
 go_loopw [5] (fun i wx => ∃ (k : Nat), k ≤ rs.length ∧ i = .int .i64 k ∧ Below w.heap.size w wx) (fun i _ => rs.length - (intOf i).toNat)
 case atStart => exact ⟨0, Nat.zero_le _, rfl, Below.refl _ _⟩
 case round =>
  obtain ⟨k, hk, rfl, hB⟩ := hrel
  by_cases hlt : k < rs.length
  ·
   obtain ⟨r, hr⟩ : ∃ r, rs[k]? = some r := ⟨rs[k], List.getElem?_eq_getElem hlt⟩
   have Hr : Hid _ := hr
   clear hr
   have g1 := h1.keep l1 hB
   have g2 := h2.keep l2 hB
   have z1 : b1 < wr.heap.size := Nat.lt_of_lt_of_le l1 hB.size
   have z2 : b2 < wr.heap.size := Nat.lt_of_lt_of_le l2 hB.size
   have i0 : (0 : Int) ≤ (k : Int) := by omega
   have i1 : (k : Int) < (rs.length : Int) := by omega
   go_wp2_with fail
   go_region_held3 (fun w' => Below wr.heap.size wr w' ∧ (w'.cell? ⟨b1, o1 + k * 5, none⟩ = some (.string r.h) ∧ w'.cell? ⟨b1, o1 + k * 5 + 1, none⟩ = some (.string r.b) ∧ w'.cell? ⟨b1, o1 + k * 5 + 2, none⟩ = some (.string r.c) ∧ w'.cell? ⟨b1, o1 + k * 5 + 3, none⟩ = some (.int .i64 r.t) ∧ w'.cell? ⟨b1, o1 + k * 5 + 4, none⟩ = some (.int .i64 r.u)) ∧ (w'.cell? ⟨b2, o2 + k * 5, none⟩ = some (.string r.h) ∧ w'.cell? ⟨b2, o2 + k * 5 + 1, none⟩ = some (.string r.b) ∧ w'.cell? ⟨b2, o2 + k * 5 + 2, none⟩ = some (.string r.c) ∧ w'.cell? ⟨b2, o2 + k * 5 + 3, none⟩ = some (.int .i64 r.t) ∧ w'.cell? ⟨b2, o2 + k * 5 + 4, none⟩ = some (.int .i64 r.u)))
    (first | exact keepR Hr.out g1 g2 z1 z2 (bl_drew (Below.refl _ _)) | exact keepR Hr.out g1 g2 z1 z2 (bl_trans (bl_drew (Below.refl _ _)) hb))
    (first | (go_at_call 58; refine (eqGrant_b r.h r.b r.c r.t r.u _).mono ?_; rintro e w' ⟨rfl, hb⟩))
   go_wp2
   exact ⟨⟨k + 1, by omega, by go_num, bl_trans hB (bl_trans (bl_drew (Below.refl _ _)) hb)⟩, by simp [intOf]; omega⟩
  ·
   go_wp2
   go_ret
   exact ⟨rfl, hB⟩
end Go.Proofs.YtefkdohkjdopeaaGreatDoor.G
namespace Go.Proofs.YtefkdohkjdopeaaGreatDoor.W
theorem RowsAt.exq {kr : Nat} {w w' : World} {b off : Nat} {rs : List WantD} (h : RowsAt w b off rs) (hb : b < w.heap.size) (hE : Ex kr w w') (hne : b ≠ kr) : RowsAt w' b off rs :=
 fun k r hk j v hj => (hE.cell (p := ⟨b, off + k * 7 + j, none⟩) hb hne).trans (h k r hk j v hj)
end Go.Proofs.YtefkdohkjdopeaaGreatDoor.W
namespace Go.Proofs.YtefkdohkjdopeaaGreatDoor.A
end Go.Proofs.YtefkdohkjdopeaaGreatDoor.A
namespace Go.Proofs.YtefkdohkjdopeaaGreatDoor
open Go.RowKit
set_option linter.unusedVariables false
theorem RowsAt.exq {kr : Nat} {w w' : World} {b off : Nat} {rs : List RunD} (h : RowsAt w b off rs) (hb : b < w.heap.size) (hE : Ex kr w w') (hne : b ≠ kr) : RowsAt w' b off rs :=
 fun k r hk j v hj => (hE.cell (p := ⟨b, off + k * 11 + j, none⟩) hb hne).trans (h k r hk j v hj)
end Go.Proofs.YtefkdohkjdopeaaGreatDoor
namespace Go.Proofs.YtefkdohkjdopeaaGreatDoor.P
open Go.RowKit
set_option linter.unusedVariables false
theorem make_places (n : Nat) (hn : n ≤ 1048576) : ∃ C : Array Value, C.size = n * 3 ∧ ∀ w : World, Sem.run Tryz.prog (Instr.makeSlice 32 (.int .i64 (n : Int)) (.int .i64 (n : Int))) w = .ok (.slice (some ⟨w.heap.size, 0, none⟩) n n) (w.alloc (.cells C 90)) := by
 have hq : (Tryz.prog.info? 90).map (fun i => (i.size, i.bytes, i.zero)) = some (3, 48, some (.agg #[.string ⟨#[]⟩, .int .i64 0, .slice none 0 0])) := by kernel_rfl
 cases hi : Tryz.prog.info? 90 with
 | none => rw [hi] at hq; simp at hq
 | some i =>
  rw [hi] at hq
  simp only [Option.map_some, Option.some.injEq, Prod.mk.injEq] at hq
  obtain ⟨h1, h2, h3⟩ := hq
  refine ⟨madeCells (Value.cells (.agg #[.string ⟨#[]⟩, .int .i64 0, .slice none 0 0])) (n * i.size), (size_madeCells _ _).trans (by rw [h1]), fun w => ?_⟩
  have := run_make (P := Tryz.prog) w 32 90 i _ Tryz.underlying32 hi h3 .i64 .i64 n n (by omega) (by omega) (by rw [h2]; omega) (by omega)
  simpa using this
theorem there_part {x : World} {g n k : Nat} (h : x.there g 0 (n * 3)) (hk : k < n) : x.there g (k * 3) 3 :=
 fun j hj => by have := h (k * 3 + j) (by omega); simpa using this
theorem there_new {w : World} {C : Array Value} {t : TypeId} {n : Nat} (hC : C.size = n * 3) : (w.alloc (.cells C t)).there w.heap.size 0 (n * 3) :=
 fun j hj => ⟨by simp [go_sem]; omega, by simp [go_sem]⟩
theorem rows_snoc {x : World} {g : Nat} {qs : List PlaceD} {q : PlaceD} (h : RowsAt x g 0 qs) (ht : x.there g (qs.length * 3) 3) : RowsAt (x.setCells g (qs.length * 3) q.cells) g 0 (qs ++ [q]) := by
 intro j p hj
 by_cases e : j < qs.length
 ·
  have hj' : qs[j]? = some p := by rw [List.getElem?_append_left e] at hj; exact hj
  exact World.rangeAt_setCells_apart (h j p hj') g (qs.length * 3) q.cells (Or.inr (Or.inl (by show 0 + j * 3 + 3 ≤ qs.length * 3; omega)))
 ·
  rw [List.getElem?_append_right (by omega)] at hj
  have hz : j - qs.length = 0 := by
   have := (List.getElem?_eq_some_iff.1 hj).1
   simp at this; omega
  rw [hz] at hj
  cases hj
  have e2 : j = qs.length := by omega
  subst e2
  have := World.rangeAt_setCells_same x g (qs.length * 3) q.cells ht
  simpa using this
structure St3 (w : World) (L O : Array Value) (x : World) : Prop where
 a : ∀ k, x.cell? ⟨w.heap.size, k, none⟩ = L[k]?
 b : ∀ k, x.cell? ⟨w.heap.size + 1 + 1, k, none⟩ = O[k]?
 c : ∀ k, x.frozen? ⟨w.heap.size + 1 + 1, k, none⟩ = false
 d : x.there (w.heap.size + 1) 0 3
 e : Below w.heap.size w x
 f : w.heap.size + 1 + 1 < x.heap.size
theorem St3.below {w x y : World} {L O : Array Value} (h : St3 w L O x) (hb : Below x.heap.size x y) : St3 w L O y :=
 have hf := h.f
 ⟨fun k => (hb.cell (p := ⟨w.heap.size, k, none⟩) (by show w.heap.size < _; omega)).trans (h.a k), fun k => (hb.cell (p := ⟨w.heap.size + 1 + 1, k, none⟩) hf).trans (h.b k), fun k => (hb.frozen (p := ⟨w.heap.size + 1 + 1, k, none⟩) hf).trans (h.c k),
  fun j hj => ⟨by rw [hb.cell (p := ⟨w.heap.size + 1, 0 + j, none⟩) (by show w.heap.size + 1 < _; omega)]; exact (h.d j hj).1, by rw [hb.frozen (p := ⟨w.heap.size + 1, 0 + j, none⟩) (by show w.heap.size + 1 < _; omega)]; exact (h.d j hj).2⟩,
  bl_trans h.e hb, Nat.lt_of_lt_of_le hf hb.size⟩
theorem St3.set {w x : World} {L O : Array Value} (h : St3 w L O x) (j : Nat) (hj : j < O.size) (u : Value) : St3 w L (O.setIfInBounds j u) (x.setCell ⟨w.heap.size + 1 + 1, j, none⟩ u) := by
 have he : Ex (w.heap.size + 1 + 1) x (x.setCell ⟨w.heap.size + 1 + 1, j, none⟩ u) := (Ex.refl _ _).set j u
 have hf := h.f
 refine ⟨fun k => (he.cell (p := ⟨w.heap.size, k, none⟩) (by show w.heap.size < _; omega) (by show w.heap.size ≠ _; omega)).trans (h.a k), fun k => ?_, fun k => ?_, there_ex h.d (by omega) he (by omega), bl_set (p := ⟨w.heap.size + 1 + 1, j, none⟩) h.e (by show w.heap.size ≤ w.heap.size + 1 + 1; omega) u, Nat.lt_of_lt_of_le hf he.size⟩
 ·
  by_cases e : k = j
  ·
   subst e
   have h1 := h.b k
   have h2 := h.c k
   rw [Array.getElem?_eq_getElem hj] at h1
   rw [Array.getElem?_setIfInBounds_self_of_lt hj]
   exact World.cell?_setCell_same _ _ _ h1
  ·
   rw [Array.getElem?_setIfInBounds_ne (fun h' => e h'.symm), ← h.b k]
   exact World.cell?_setCell_other _ _ _ _ (fun h' => e (by have := congrArg Addr.off h'; exact this.symm))
 ·
  rw [World.frozen?_setCell]; exact h.c k
theorem st3_new (r : PlaceD) (w : World) : St3 w #[.string r.b, .int .i64 r.s, .slice r.a r.ws.length r.c] #[.string r.b, .int .i64 r.s, .slice none 0 0] (((w.alloc (.cells #[.string r.b, .int .i64 r.s, .slice r.a r.ws.length r.c] 84)).alloc (.cells #[.string { data := #[] }, .int .i64 0, .slice none 0 0] 90)).alloc (.cells #[.string r.b, .int .i64 r.s, .slice none 0 0] 90)) := by
 refine ⟨fun k => by simp [go_sem, World.cell?_alloc_past], fun k => by simp [go_sem], fun k => by simp [go_sem], fun j hj => ⟨by simp [go_sem, World.cell?_alloc_past] <;> omega, by simp [go_sem]⟩, bl_alloc (bl_alloc (bl_alloc (Below.refl _ _) _) _) _, by simp⟩
theorem to_nil (a : Option Addr) (cap : Nat) (w : World) :
  Calls Tryz.prog 29 #[.slice a 0 cap] w fun e w' => e = .returned (.slice (some ⟨w.heap.size, 0, none⟩) 0 0) ∧ w.heap.size < w'.heap.size ∧ Below w.heap.size w w' := by
 obtain ⟨C, hC, hmk0⟩ := make_places 0 (by omega)
 have hmk : ∀ w : World, Sem.run Tryz.prog (Instr.makeSlice 32 (.int .i64 0) (.int .i64 0)) w = .ok (.slice (some ⟨w.heap.size, 0, none⟩) 0 0) (w.alloc (.cells C 90)) := fun w => hmk0 w
 clear hmk0 hC
 go_enter Tryz.func29, Tryz.ntmps29
 go_wp2
 refine wp_loop_rounds 1 ?_
 rw [rounds_succ]
 go_wp2
 go_ret
 exact ⟨rfl, by simp, bl_alloc (Below.refl _ _) _⟩
end Go.Proofs.YtefkdohkjdopeaaGreatDoor.P
namespace Go.Proofs.YtefkdohkjdopeaaGreatDoor
open Go.RowKit
theorem eqWant_same (c h : ByteArray) (v p s d g : Int) (w : World) :
  Calls Tryz.prog 60 #[.agg #[.string c, .int .i64 v, .string h, .int .i64 p, .int .i64 s, .int .i64 d, .int .i64 g], .agg #[.string c, .int .i64 v, .string h, .int .i64 p, .int .i64 s, .int .i64 d, .int .i64 g]] w fun e w' => e = .returned (.bool true) ∧
   w' = (w.alloc (.cells #[.string c, .int .i64 v, .string h, .int .i64 p, .int .i64 s, .int .i64 d, .int .i64 g] 94)).alloc (.cells #[.string c, .int .i64 v, .string h, .int .i64 p, .int .i64 s, .int .i64 d, .int .i64 g] 94) := by
 go_enter Tryz.func60, Tryz.ntmps60
 go_wp2
 go_ret
 exact ⟨rfl, rfl⟩
end Go.Proofs.YtefkdohkjdopeaaGreatDoor
namespace Go.Proofs.YtefkdohkjdopeaaGreatDoor.W
open Go.RowKit
set_option linter.unusedVariables false
theorem eqWant_b (c h : ByteArray) (v p s d g : Int) (w : World) :
  Calls Tryz.prog 60 #[.agg #[.string c, .int .i64 v, .string h, .int .i64 p, .int .i64 s, .int .i64 d, .int .i64 g], .agg #[.string c, .int .i64 v, .string h, .int .i64 p, .int .i64 s, .int .i64 d, .int .i64 g]] w fun e w' => e = .returned (.bool true) ∧ Below w.heap.size w w' := by
 refine (eqWant_same c h v p s d g w).mono ?_
 rintro e w' ⟨rfl, rfl⟩
 exact ⟨rfl, bl_alloc (bl_alloc (Below.refl _ _) _) _⟩
theorem keepR {x w' : World} {b1 o1 b2 o2 k : Nat} {rs : List WantD} {r : WantD} (hk : rs[k]? = some r) (h1 : RowsAt x b1 o1 rs) (h2 : RowsAt x b2 o2 rs) (l1 : b1 < x.heap.size) (l2 : b2 < x.heap.size) (hb : Below x.heap.size x w') :
  Below x.heap.size x w' ∧ (w'.cell? ⟨b1, o1 + k * 7, none⟩ = some (.string r.c) ∧ w'.cell? ⟨b1, o1 + k * 7 + 1, none⟩ = some (.int .i64 r.v) ∧ w'.cell? ⟨b1, o1 + k * 7 + 2, none⟩ = some (.string r.h) ∧ w'.cell? ⟨b1, o1 + k * 7 + 3, none⟩ = some (.int .i64 r.p) ∧ w'.cell? ⟨b1, o1 + k * 7 + 4, none⟩ = some (.int .i64 r.s) ∧ w'.cell? ⟨b1, o1 + k * 7 + 5, none⟩ = some (.int .i64 r.d) ∧ w'.cell? ⟨b1, o1 + k * 7 + 6, none⟩ = some (.int .i64 r.g)) ∧ (w'.cell? ⟨b2, o2 + k * 7, none⟩ = some (.string r.c) ∧ w'.cell? ⟨b2, o2 + k * 7 + 1, none⟩ = some (.int .i64 r.v) ∧ w'.cell? ⟨b2, o2 + k * 7 + 2, none⟩ = some (.string r.h) ∧ w'.cell? ⟨b2, o2 + k * 7 + 3, none⟩ = some (.int .i64 r.p) ∧ w'.cell? ⟨b2, o2 + k * 7 + 4, none⟩ = some (.int .i64 r.s) ∧ w'.cell? ⟨b2, o2 + k * 7 + 5, none⟩ = some (.int .i64 r.d) ∧ w'.cell? ⟨b2, o2 + k * 7 + 6, none⟩ = some (.int .i64 r.g)) :=
 ⟨hb, (h1.keep l1 hb).at hk, (h2.keep l2 hb).at hk⟩
set_option maxHeartbeats 1000000 in
theorem eqWantS (b1 o1 n1 b2 o2 n2 : Nat) (rs : List WantD) (w : World) (h1 : RowsAt w b1 o1 rs) (h2 : RowsAt w b2 o2 rs) (l1 : b1 < w.heap.size) (l2 : b2 < w.heap.size) (hl : rs.length ≤ 1048576) :
  Calls Tryz.prog 36 #[.slice (some ⟨b1, o1, none⟩) rs.length n1, .slice (some ⟨b2, o2, none⟩) rs.length n2] w fun e w' => e = .returned (.bool true) ∧ Below w.heap.size w w' := by
 go_enter Tryz.func36, Tryz.ntmps36
 go_wp2
 go_loopw [5] (fun i wx => ∃ (k : Nat), k ≤ rs.length ∧ i = .int .i64 k ∧ Below w.heap.size w wx) (fun i _ => rs.length - (intOf i).toNat)
 case atStart => exact ⟨0, Nat.zero_le _, rfl, Below.refl _ _⟩
 case round =>
  obtain ⟨k, hk, rfl, hB⟩ := hrel
  by_cases hlt : k < rs.length
  ·
   obtain ⟨r, hr⟩ : ∃ r, rs[k]? = some r := ⟨rs[k], List.getElem?_eq_getElem hlt⟩
   have Hr : Hid _ := hr
   clear hr
   have g1 := h1.keep l1 hB
   have g2 := h2.keep l2 hB
   have z1 : b1 < wr.heap.size := Nat.lt_of_lt_of_le l1 hB.size
   have z2 : b2 < wr.heap.size := Nat.lt_of_lt_of_le l2 hB.size
   have i0 : (0 : Int) ≤ (k : Int) := by omega
   have i1 : (k : Int) < (rs.length : Int) := by omega
   go_wp2_with fail
   go_region_held3 (fun w' => Below wr.heap.size wr w' ∧ (w'.cell? ⟨b1, o1 + k * 7, none⟩ = some (.string r.c) ∧ w'.cell? ⟨b1, o1 + k * 7 + 1, none⟩ = some (.int .i64 r.v) ∧ w'.cell? ⟨b1, o1 + k * 7 + 2, none⟩ = some (.string r.h) ∧ w'.cell? ⟨b1, o1 + k * 7 + 3, none⟩ = some (.int .i64 r.p) ∧ w'.cell? ⟨b1, o1 + k * 7 + 4, none⟩ = some (.int .i64 r.s) ∧ w'.cell? ⟨b1, o1 + k * 7 + 5, none⟩ = some (.int .i64 r.d) ∧ w'.cell? ⟨b1, o1 + k * 7 + 6, none⟩ = some (.int .i64 r.g)) ∧ (w'.cell? ⟨b2, o2 + k * 7, none⟩ = some (.string r.c) ∧ w'.cell? ⟨b2, o2 + k * 7 + 1, none⟩ = some (.int .i64 r.v) ∧ w'.cell? ⟨b2, o2 + k * 7 + 2, none⟩ = some (.string r.h) ∧ w'.cell? ⟨b2, o2 + k * 7 + 3, none⟩ = some (.int .i64 r.p) ∧ w'.cell? ⟨b2, o2 + k * 7 + 4, none⟩ = some (.int .i64 r.s) ∧ w'.cell? ⟨b2, o2 + k * 7 + 5, none⟩ = some (.int .i64 r.d) ∧ w'.cell? ⟨b2, o2 + k * 7 + 6, none⟩ = some (.int .i64 r.g)))
    (first | exact keepR Hr.out g1 g2 z1 z2 (bl_drew (Below.refl _ _)) | exact keepR Hr.out g1 g2 z1 z2 (bl_trans (bl_drew (Below.refl _ _)) hb))
    (first | (go_at_call 60; refine (eqWant_b r.c r.h r.v r.p r.s r.d r.g _).mono ?_; rintro e w' ⟨rfl, hb⟩))
   go_wp2
   exact ⟨⟨k + 1, by omega, by go_num, bl_trans hB (bl_trans (bl_drew (Below.refl _ _)) hb)⟩, by simp [intOf]; omega⟩
  ·
   go_wp2
   go_ret
   exact ⟨rfl, hB⟩
end Go.Proofs.YtefkdohkjdopeaaGreatDoor.W
namespace Go.Proofs.YtefkdohkjdopeaaGreatDoor.G
theorem RowsAt.exq {kr : Nat} {w w' : World} {b off : Nat} {rs : List GrantD} (h : RowsAt w b off rs) (hb : b < w.heap.size) (hE : Ex kr w w') (hne : b ≠ kr) : RowsAt w' b off rs :=
 fun k r hk j v hj => (hE.cell (p := ⟨b, off + k * 5 + j, none⟩) hb hne).trans (h k r hk j v hj)
end Go.Proofs.YtefkdohkjdopeaaGreatDoor.G
namespace Go.Proofs.YtefkdohkjdopeaaGreatDoor.P
theorem RowsAt.exq {kr : Nat} {w w' : World} {b off : Nat} {rs : List PlaceD} (h : RowsAt w b off rs) (hb : b < w.heap.size) (hE : Ex kr w w') (hne : b ≠ kr) : RowsAt w' b off rs :=
 fun k r hk j v hj => (hE.cell (p := ⟨b, off + k * 3 + j, none⟩) hb hne).trans (h k r hk j v hj)
end Go.Proofs.YtefkdohkjdopeaaGreatDoor.P
namespace Go.Proofs.YtefkdohkjdopeaaGreatDoor.P
open Go.RowKit
set_option linter.unusedVariables false
structure LandAt (w : World) (gs : List G.GrantD) (ps : List PlaceD) (b1 b2 : Nat) : Prop where
 g : G.RowsAt w b1 0 gs
 g1 : b1 < w.heap.size
 p : RowsAt w b2 0 ps
 p1 : b2 < w.heap.size
 k : ∀ r ∈ ps, r.blk 0 w
theorem LandAt.keep {w w' : World} {gs : List G.GrantD} {ps : List PlaceD} {b1 b2 : Nat} (h : LandAt w gs ps b1 b2) (hb : Below w.heap.size w w') : LandAt w' gs ps b1 b2 :=
 ⟨h.g.keep h.g1 hb, Nat.lt_of_lt_of_le h.g1 hb.size, h.p.keep h.p1 hb, Nat.lt_of_lt_of_le h.p1 hb.size, fun r hr => (h.k r hr).keep hb⟩
theorem land_box {w w' : World} {t : Int} {v1 v2 : Value} (hb : Below (w.alloc (.cells #[.int .i64 t, v1, v2] 25)).heap.size (w.alloc (.cells #[.int .i64 t, v1, v2] 25)) w') : ∀ k, w'.cell? ⟨w.heap.size, k, none⟩ = (#[.int .i64 t, v1, v2] : Array Value)[k]? := by
 intro k
 rw [hb.cell (p := ⟨w.heap.size, k, none⟩) (by simp)]
 simp [go_sem]
set_option maxRecDepth 4000 in
set_option maxHeartbeats 2000000 in
theorem szLand_le (t : Int) (gs : List G.GrantD) (ps : List PlaceD) (v1 v2 : Value) (w : World) (i1 : G.In w v1 gs) (i2 : In w v2 ps) :
  Calls Tryz.prog 4 #[.agg #[.int .i64 t, v1, v2], .int .i64 1048576] w fun e w' => (e = .returned (.int .i64 (-1)) ∨ ∃ x : Int, e = .returned (.int .i64 x) ∧ 0 ≤ x ∧ x ≤ 1048576 ∧ gs.length ≤ 1048576 ∧ ps.length ≤ 1048576 ∧ Lns ps) ∧ Below w.heap.size w w' := by
 have Hb0 : Hid (Below w.heap.size w (w.alloc (.cells #[.int .i64 t, v1, v2] 25))) := bl_alloc (Below.refl _ _) _
 go_enter Tryz.func4, Tryz.ntmps4
 go_wp2_with fail
 refine (G.sz_in (i1.keep Hb0.out) 1048576 (by omega) (by omega)).mono ?_
 rintro e w1 ⟨hx1, c1⟩
 have C1 : Hid (Below w.heap.size w w1) := bl_trans Hb0.out c1
 have kb1 := land_box c1
 clear c1
 rcases hx1 with rfl | ⟨x1, rfl, p1, r1, l1⟩
 ·
  go_wp2
  go_ret
  exact ⟨Or.inl rfl, C1.out⟩
 go_wp2_with fail
 refine (sz_in (i2.keep C1.out) x1 (by omega) (by omega)).mono ?_
 rintro e w2 ⟨hx2, c2⟩
 have C2 : Hid (Below w.heap.size w w2) := bl_trans C1.out c2
 clear c2 kb1
 rcases hx2 with rfl | ⟨x2, rfl, p2, r2, l2, hL⟩
 ·
  go_wp2
  go_ret
  exact ⟨Or.inl rfl, C2.out⟩
 have HL : Hid _ := hL
 clear hL
 go_wp2
 go_ret
 exact ⟨Or.inr ⟨x2, rfl, p2, r2, l1, l2, HL.out⟩, C2.out⟩
theorem st_land (t : Int) (v1 v2 : Value) (w : World) : St3 w #[.int .i64 t, v1, v2] #[.int .i64 t, .slice none 0 0, .slice none 0 0] (((w.alloc (.cells #[.int .i64 t, v1, v2] 25)).alloc (.cells #[.int .i64 0, .slice none 0 0, .slice none 0 0] 34)).alloc (.cells #[.int .i64 t, .slice none 0 0, .slice none 0 0] 34)) := by
 refine ⟨fun k => by simp [go_sem, World.cell?_alloc_past], fun k => by simp [go_sem], fun k => by simp [go_sem], fun j hj => ⟨by simp [go_sem, World.cell?_alloc_past] <;> omega, by simp [go_sem]⟩, bl_alloc (bl_alloc (bl_alloc (Below.refl _ _) _) _) _, by simp⟩
end Go.Proofs.YtefkdohkjdopeaaGreatDoor.P
