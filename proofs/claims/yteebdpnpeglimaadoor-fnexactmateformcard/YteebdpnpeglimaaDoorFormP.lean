/- A parcel is measured, copied and held against another. -/
import Derived.Test.YteebdpnpeglimaaDoorFormC
import Derived.Test.YteebdpnpeglimaaDoorWRows2
import Derived.Test.YteebdpnpeglimaaDoorWRows3
import Derived.Test.YteebdpnpeglimaaDoorEx
namespace Go.Proofs.YteebdpnpeglimaaDoor.W
open Go.RowKit
set_option linter.unusedVariables false

set_option maxHeartbeats 1000000 in
theorem szWantS_m (b off cap : Nat) (rs : List WantD) (left : Int) (w : World) (hR : RowsAt w b off rs) (hb : b < w.heap.size) (hf : ∀ r ∈ rs, r.fits) (h0 : 0 ≤ left) (h1 : left ≤ 1048576) (hl : rs.length ≤ maxLen) :
    Calls Tryd.prog 9 #[.slice (some ⟨b, off, none⟩) rs.length cap, .int .i64 left] w fun e w' => (e = .returned (.int .i64 (-1)) ∨ ∃ m : Int, e = .returned (.int .i64 m) ∧ 0 ≤ m ∧ m ≤ 1048576 ∧ (rs.length : Int) ≤ left) ∧ Below w.heap.size w w' := by
  unfold maxLen at hl
  by_cases hn : (rs.length : Int) ≤ left
  · go_enter Tryd.func9, Tryd.ntmps9
    go_wp2
    go_loopw [1, 5] (fun l i wx => ∃ (k : Nat) (lv : Int), k ≤ rs.length ∧ i = .int .i64 k ∧ l = .int .i64 lv ∧ 0 ≤ lv ∧ lv ≤ 1048576 ∧ Below w.heap.size w wx) (fun _ i _ => rs.length - (intOf i).toNat)
    case atStart => exact ⟨0, _, Nat.zero_le _, rfl, rfl, by omega, by omega, Below.refl _ _⟩
    case round =>
      obtain ⟨k, lv, hk, rfl, rfl, l0, l1, hB⟩ := hrel
      by_cases hlt : k < rs.length
      · obtain ⟨r, hr⟩ : ∃ r, rs[k]? = some r := ⟨rs[k], List.getElem?_eq_getElem hlt⟩
        obtain ⟨c0, c1, c2, c3, c4, c5, c6⟩ := (hR.keep hb hB).at hr
        have hfr : r.fits := hf r (List.mem_of_getElem? hr)
        clear hr
        by_cases hsz : (r.c.size : Int) + r.h.size ≤ lv
        · go_wp2_with fail
          refine (szWant_yes r.c r.h r.v r.p r.s r.d r.g lv l0 l1 hsz _).mono ?_
          rintro e w1 ⟨rfl, hb1⟩
          go_wp2
          exact ⟨⟨k + 1, _, by omega, by go_num, rfl, by omega, by omega, bl_trans hB hb1⟩, by simp [intOf]; omega⟩
        · go_wp2_with fail
          refine (szWant_no r.c r.h r.v r.p r.s r.d r.g lv l0 l1 hfr.1 hfr.2 (by omega) _).mono ?_
          rintro e w1 ⟨rfl, hb1⟩
          go_wp2
          go_ret
          exact ⟨Or.inl rfl, bl_trans hB hb1⟩
      · go_wp2
        go_ret
        exact ⟨Or.inr ⟨_, rfl, l0, l1, hn⟩, hB⟩
  · go_enter Tryd.func9, Tryd.ntmps9
    go_wp2
    go_ret
    exact ⟨Or.inl rfl, Below.refl _ _⟩
theorem sz_nil (a : Option Addr) (cap : Nat) (left : Int) (w : World) (h0 : 0 ≤ left) (h1 : left ≤ 1048576) :
    Calls Tryd.prog 9 #[.slice a 0 cap, .int .i64 left] w fun e w' => e = .returned (.int .i64 left) ∧ w' = w := by
  go_enter Tryd.func9, Tryd.ntmps9
  go_wp2
  refine wp_loop_rounds 1 ?_
  rw [rounds_succ]
  go_wp2
  go_ret
  exact ⟨rfl, rfl⟩
theorem to_nil (a : Option Addr) (cap : Nat) (w : World) :
    Calls Tryd.prog 16 #[.slice a 0 cap] w fun e w' => e = .returned (.slice (some ⟨w.heap.size, 0, none⟩) 0 0) ∧ w.heap.size < w'.heap.size ∧ Below w.heap.size w w' := by
  obtain ⟨C, hC, hmk0⟩ := make_wants 0 (by omega)
  have hmk : ∀ w : World, Sem.run Tryd.prog (Instr.makeSlice 27 (.int .i64 0) (.int .i64 0)) w = .ok (.slice (some ⟨w.heap.size, 0, none⟩) 0 0) (w.alloc (.cells C 40)) := fun w => hmk0 w
  clear hmk0 hC
  go_enter Tryd.func16, Tryd.ntmps16
  go_wp2
  refine wp_loop_rounds 1 ?_
  rw [rounds_succ]
  go_wp2
  go_ret
  exact ⟨rfl, by simp, bl_alloc (Below.refl _ _) _⟩
/-- A list that came in. -/
def In (w : World) (v : Value) (l : List WantD) : Prop := (l = [] ∧ ∃ a cap, v = .slice a 0 cap) ∨ ∃ b off cap, v = .slice (some ⟨b, off, none⟩) l.length cap ∧ l.length ≤ maxLen ∧ b < w.heap.size ∧ RowsAt w b off l ∧ ∀ r ∈ l, r.fits
theorem In.keep {w w' : World} {v : Value} {l : List WantD} (h : In w v l) (hb : Below w.heap.size w w') : In w' v l := by
  rcases h with h | ⟨b, off, cap, h1, h2, h3, h4, h5⟩
  · exact Or.inl h
  · exact Or.inr ⟨b, off, cap, h1, h2, Nat.lt_of_lt_of_le h3 hb.size, h4.keep h3 hb, h5⟩
theorem In.fits {w : World} {v : Value} {l : List WantD} (h : In w v l) : ∀ r ∈ l, r.fits := by
  rcases h with ⟨rfl, -⟩ | ⟨b, off, cap, h1, h2, h3, h4, h5⟩
  · intro r hr; cases hr
  · exact h5
theorem sz_in {w : World} {v : Value} {l : List WantD} (h : In w v l) (left : Int) (h0 : 0 ≤ left) (h1 : left ≤ 1048576) :
    Calls Tryd.prog 9 #[v, .int .i64 left] w fun e w' => (e = .returned (.int .i64 (-1)) ∨ ∃ m : Int, e = .returned (.int .i64 m) ∧ 0 ≤ m ∧ m ≤ 1048576 ∧ l.length ≤ 1048576) ∧ Below w.heap.size w w' := by
  rcases h with ⟨rfl, a, cap, rfl⟩ | ⟨b, off, cap, rfl, k2, k3, k4, k5⟩
  · refine (sz_nil a cap left w h0 h1).mono ?_
    rintro e w' ⟨rfl, rfl⟩
    exact ⟨Or.inr ⟨left, rfl, h0, h1, by simp⟩, Below.refl _ _⟩
  · refine (szWantS_m b off cap l left w k4 k3 k5 h0 h1 k2).mono ?_
    rintro e w' ⟨rfl | ⟨m, rfl, m0, m1, hn⟩, hb⟩
    · exact ⟨Or.inl rfl, hb⟩
    · exact ⟨Or.inr ⟨m, rfl, m0, m1, by omega⟩, hb⟩
theorem to_in {w : World} {v : Value} {l : List WantD} (h : In w v l) (hl : l.length ≤ 1048576) :
    Calls Tryd.prog 16 #[v] w fun e w' => e = .returned (.slice (some ⟨w.heap.size, 0, none⟩) l.length l.length) ∧ RowsAt w' w.heap.size 0 l ∧ w.heap.size < w'.heap.size ∧ Below w.heap.size w w' := by
  rcases h with ⟨rfl, a, cap, rfl⟩ | ⟨b, off, cap, rfl, k2, k3, k4, k5⟩
  · refine (to_nil a cap w).mono ?_
    rintro e w' ⟨rfl, h1, h2⟩
    exact ⟨rfl, fun k r h => by simp at h, h1, h2⟩
  · refine (toWantS b off cap l w k4 k3 hl).mono ?_
    rintro e w' ⟨rfl, h1, -, h2, h3⟩
    exact ⟨rfl, h1, h2, h3⟩
theorem to_in2 {w : World} {v : Value} {l : List WantD} (h : In w v l) (hl : l.length ≤ 1048576) :
    Calls Tryd.prog 16 #[v] w fun e w' => e = .returned (.slice (some ⟨w.heap.size, 0, none⟩) l.length l.length) ∧ RowsAt w' w.heap.size 0 l ∧ w'.there w.heap.size 0 (l.length * 7) ∧ w.heap.size < w'.heap.size ∧ Below w.heap.size w w' := by
  rcases h with ⟨rfl, a, cap, rfl⟩ | ⟨b, off, cap, rfl, k2, k3, k4, k5⟩
  · refine (to_nil a cap w).mono ?_
    rintro e w' ⟨rfl, h1, h2⟩
    exact ⟨rfl, fun k r h => by simp at h, fun j hj => by simp at hj, h1, h2⟩
  · exact toWantS b off cap l w k4 k3 hl
/-- The value v shows the list l: it is nil and the list empty, or the list lies in a block from B on, which may be written. -/
def Sl (w : World) (v : Value) (l : List WantD) (B : Nat) : Prop := (v = .slice none 0 0 ∧ l = []) ∨ ∃ g cap, v = .slice (some ⟨g, 0, none⟩) l.length cap ∧ B ≤ g ∧ g < w.heap.size ∧ RowsAt w g 0 l ∧ w.there g 0 (l.length * 7)
theorem Sl.grown {w w' : World} {v : Value} {l : List WantD} {B : Nat} {row : Option Nat} (h : Sl w v l B) (hg : w.grownBy w' row) (hne : v.ownBlock = none ∨ v.ownBlock ≠ row) : Sl w' v l B := by
  rcases h with h | ⟨g, cap, rfl, h1, h2, h3, h4⟩
  · exact Or.inl h
  · have hn : some g ≠ row := by simpa [Value.ownBlock] using hne
    have hc : ∀ o, w'.cell? ⟨g, o, none⟩ = w.cell? ⟨g, o, none⟩ := fun o => World.cell?_of_block (w := w) (a := ⟨g, o, none⟩) (hg.block g h2 hn)
    have hfz : ∀ o, w'.frozen? ⟨g, o, none⟩ = w.frozen? ⟨g, o, none⟩ := fun o => World.frozen?_of_block (w := w) (a := ⟨g, o, none⟩) (hg.block g h2 hn)
    exact Or.inr ⟨g, cap, rfl, h1, Nat.lt_of_lt_of_le h2 hg.size, fun k r hk j v hj => (hc _).trans (h3 k r hk j v hj), fun j hj => ⟨by rw [hc]; exact (h4 j hj).1, by rw [hfz]; exact (h4 j hj).2⟩⟩
theorem Sl.keep {w w' : World} {v : Value} {l : List WantD} {B : Nat} (h : Sl w v l B) (hb : Below w.heap.size w w') : Sl w' v l B :=
  h.grown (row := none) ⟨hb.os, hb.tape, hb.output, hb.size, fun k hk _ => hb.block k hk⟩ (by cases hv : v.ownBlock <;> simp)
theorem Sl.lt {w : World} {v : Value} {l : List WantD} {B : Nat} (h : Sl w v l B) : ∀ g, v.ownBlock = some g → B ≤ g ∧ g < w.heap.size := by
  rcases h with ⟨rfl, -⟩ | ⟨g, cap, rfl, h1, h2, -⟩
  · intro g hg; simp [Value.ownBlock] at hg
  · intro g' hg; simp [Value.ownBlock] at hg; subst hg; exact ⟨h1, h2⟩
theorem ex_grown {w w' : World} {kr : Nat} (h : Ex kr w w') : w.grownBy w' (some kr) := ⟨h.os, h.tape, h.output, h.size, fun k hk hne => h.block k hk (fun e => hne (by rw [e]))⟩

theorem eq_zero (a1 a2 : Option Addr) (c1 c2 : Nat) (w : World) :
    Calls Tryd.prog 21 #[.slice a1 0 c1, .slice a2 0 c2] w fun e w' => e = .returned (.bool true) ∧ w' = w := by
  go_enter Tryd.func21, Tryd.ntmps21
  go_wp2
  refine wp_loop_rounds 1 ?_
  rw [rounds_succ]
  go_wp2
  go_ret
  exact ⟨rfl, rfl⟩
theorem eq_sl {w : World} {v1 v2 : Value} {l : List WantD} {B1 B2 : Nat} (h1 : Sl w v1 l B1) (h2 : Sl w v2 l B2) (hl : l.length ≤ 1048576) :
    Calls Tryd.prog 21 #[v1, v2] w fun e w' => e = .returned (.bool true) ∧ Below w.heap.size w w' := by
  have z : ∀ (a1 a2 : Option Addr) (c1 c2 : Nat), Calls Tryd.prog 21 #[.slice a1 0 c1, .slice a2 0 c2] w fun e w' => e = .returned (.bool true) ∧ Below w.heap.size w w' := fun a1 a2 c1 c2 => (eq_zero a1 a2 c1 c2 w).mono (by rintro e w' ⟨rfl, rfl⟩; exact ⟨rfl, Below.refl _ _⟩)
  rcases h1 with ⟨rfl, rfl⟩ | ⟨g1, cap1, rfl, -, k2, k3, -⟩
  · rcases h2 with ⟨rfl, -⟩ | ⟨g2, cap2, rfl, -, m2, m3, -⟩
    · exact z _ _ _ _
    · exact z _ _ _ _
  · rcases h2 with ⟨rfl, rfl⟩ | ⟨g2, cap2, rfl, -, m2, m3, -⟩
    · exact z _ _ _ _
    · exact eqWantS g1 0 cap1 g2 0 cap2 l w k3 m3 k2 m2 hl
end Go.Proofs.YteebdpnpeglimaaDoor.W
namespace Go.Proofs.YteebdpnpeglimaaDoor
open Go.RowKit
set_option linter.unusedVariables false

theorem own_ne {a b n c : Nat} (h : a ≠ b) : (Value.slice (some ⟨a, 0, none⟩) n c).ownBlock ≠ some b := by simpa [Value.ownBlock] using h
set_option maxRecDepth 4000 in
theorem szParcel_any (p : ParD) (v5 : Value) (x : Int) (w : World) (i5 : W.In w v5 p.ws) (x0 : 0 ≤ x) (x1 : x ≤ 1048576) (hb : p.b.size ≤ maxLen) (hh : p.h.size ≤ maxLen) (hc : p.c.size ≤ maxLen) :
    Calls Tryd.prog 4 #[.agg #[.int .i64 p.k, .string p.b, .int .i64 p.se, v5, .string p.h, .string p.c, .int .i64 p.t], .int .i64 x] w fun e w' => (e = .returned (.int .i64 (-1)) ∨ ∃ x : Int, e = .returned (.int .i64 x) ∧ 0 ≤ x ∧ p.ws.length ≤ 1048576 ∧ p.b.size ≤ 1048576 ∧ p.h.size ≤ 1048576 ∧ p.c.size ≤ 1048576) ∧ Below w.heap.size w w' := by
  have Hb0 : Hid (Below w.heap.size w (w.alloc (.cells #[.int .i64 p.k, .string p.b, .int .i64 p.se, v5, .string p.h, .string p.c, .int .i64 p.t] 24))) := bl_alloc (Below.refl _ _) _
  by_cases h1 : (p.b.size : Int) ≤ x
  · go_enter Tryd.func4, Tryd.ntmps4
    go_wp2_with fail
    refine (W.sz_in (i5.keep Hb0.out) (x - (p.b.size : Int)) (by omega) (by omega)).mono ?_
    rintro e w1 ⟨hx1, c1⟩
    have C1 : Hid (Below w.heap.size w w1) := bl_trans Hb0.out c1
    have D1 : Hid (Below (w.alloc (.cells #[.int .i64 p.k, .string p.b, .int .i64 p.se, v5, .string p.h, .string p.c, .int .i64 p.t] 24)).heap.size (w.alloc (.cells #[.int .i64 p.k, .string p.b, .int .i64 p.se, v5, .string p.h, .string p.c, .int .i64 p.t] 24)) w1) := c1
    clear c1
    have kb1 := box_keep D1.out
    rcases hx1 with rfl | ⟨x1, rfl, p1, r1, l1⟩
    · go_wp2
      go_ret
      exact ⟨Or.inl rfl, C1.out⟩
    by_cases h2 : (p.h.size : Int) ≤ x1
    · by_cases h3 : (p.c.size : Int) ≤ x1 - (p.h.size : Int)
      · go_wp2
        go_ret
        exact ⟨Or.inr ⟨_, rfl, by omega, l1, by omega, by omega, by omega⟩, C1.out⟩
      · have h3' : x1 - (p.h.size : Int) < (p.c.size : Int) := by omega
        unfold maxLen at hc
        clear h3
        go_wp2
        go_ret
        exact ⟨Or.inl rfl, C1.out⟩
    · have h2' : x1 < (p.h.size : Int) := by omega
      unfold maxLen at hh
      clear h2
      go_wp2
      go_ret
      exact ⟨Or.inl rfl, C1.out⟩
  · have h1' : x < (p.b.size : Int) := by omega
    unfold maxLen at hb
    clear h1
    go_enter Tryd.func4, Tryd.ntmps4
    go_wp2
    go_ret
    exact ⟨Or.inl rfl, Hb0.out⟩

/-- While a parcel is copied: what came in, what is laid out so far. -/
structure Sq (w : World) (L O : Array Value) (x : World) : Prop where
  a : ∀ k, x.cell? ⟨w.heap.size, k, none⟩ = L[k]?
  b : ∀ k, x.cell? ⟨w.heap.size + 1 + 1, k, none⟩ = O[k]?
  c : ∀ k, x.frozen? ⟨w.heap.size + 1 + 1, k, none⟩ = false
  d : x.there (w.heap.size + 1) 0 7
  e : Below w.heap.size w x
  f : w.heap.size + 1 + 1 < x.heap.size
theorem Sq.below {w x y : World} {L O : Array Value} (h : Sq w L O x) (hb : Below x.heap.size x y) : Sq w L O y :=
  have hf := h.f
  ⟨fun k => (hb.cell (p := ⟨w.heap.size, k, none⟩) (by show w.heap.size < _; omega)).trans (h.a k), fun k => (hb.cell (p := ⟨w.heap.size + 1 + 1, k, none⟩) hf).trans (h.b k), fun k => (hb.frozen (p := ⟨w.heap.size + 1 + 1, k, none⟩) hf).trans (h.c k),
    fun j hj => ⟨by rw [hb.cell (p := ⟨w.heap.size + 1, 0 + j, none⟩) (by show w.heap.size + 1 < _; omega)]; exact (h.d j hj).1, by rw [hb.frozen (p := ⟨w.heap.size + 1, 0 + j, none⟩) (by show w.heap.size + 1 < _; omega)]; exact (h.d j hj).2⟩,
    bl_trans h.e hb, Nat.lt_of_lt_of_le hf hb.size⟩
theorem Sq.set {w x : World} {L O : Array Value} (h : Sq w L O x) (j : Nat) (hj : j < O.size) (u : Value) : Sq w L (O.setIfInBounds j u) (x.setCell ⟨w.heap.size + 1 + 1, j, none⟩ u) := by
  have he : Ex (w.heap.size + 1 + 1) x (x.setCell ⟨w.heap.size + 1 + 1, j, none⟩ u) := (Ex.refl _ _).set j u
  have hf := h.f
  refine ⟨fun k => (he.cell (p := ⟨w.heap.size, k, none⟩) (by show w.heap.size < _; omega) (by show w.heap.size ≠ _; omega)).trans (h.a k), fun k => ?_, fun k => ?_, there_ex h.d (by omega) he (by omega), bl_set (p := ⟨w.heap.size + 1 + 1, j, none⟩) h.e (by show w.heap.size ≤ w.heap.size + 1 + 1; omega) u, Nat.lt_of_lt_of_le hf he.size⟩
  · by_cases e : k = j
    · subst e
      have h1 := h.b k
      rw [Array.getElem?_eq_getElem hj] at h1
      rw [Array.getElem?_setIfInBounds_self_of_lt hj]
      exact World.cell?_setCell_same _ _ _ h1
    · rw [Array.getElem?_setIfInBounds_ne (fun h' => e h'.symm), ← h.b k]
      exact World.cell?_setCell_other _ _ _ _ (fun h' => e (by have := congrArg Addr.off h'; exact this.symm))
  · rw [World.frozen?_setCell]; exact h.c k
theorem sq_new (p : ParD) (v5 : Value) (w : World) : Sq w #[.int .i64 p.k, .string p.b, .int .i64 p.se, v5, .string p.h, .string p.c, .int .i64 p.t] #[.int .i64 p.k, .string p.b, .int .i64 p.se, .slice none 0 0, .string { data := #[] }, .string { data := #[] }, .int .i64 0] (((w.alloc (.cells #[.int .i64 p.k, .string p.b, .int .i64 p.se, v5, .string p.h, .string p.c, .int .i64 p.t] 24)).alloc (.cells #[.int .i64 0, .string { data := #[] }, .int .i64 0, .slice none 0 0, .string { data := #[] }, .string { data := #[] }, .int .i64 0] 29)).alloc (.cells #[.int .i64 p.k, .string p.b, .int .i64 p.se, .slice none 0 0, .string { data := #[] }, .string { data := #[] }, .int .i64 0] 29)) := by
  refine ⟨fun k => by simp [go_sem, World.cell?_alloc_past], fun k => by simp [go_sem], fun k => by simp [go_sem], fun j hj => ⟨by simp [go_sem, World.cell?_alloc_past] <;> omega, by simp [go_sem]⟩, bl_alloc (bl_alloc (bl_alloc (Below.refl _ _) _) _) _, by simp⟩

set_option maxRecDepth 4000 in
set_option maxHeartbeats 4000000 in
theorem toParcel_sl (p : ParD) (v5 : Value) (w : World) (i5 : W.In w v5 p.ws) (l5 : p.ws.length ≤ 1048576) :
    Calls Tryd.prog 6 #[.agg #[.int .i64 p.k, .string p.b, .int .i64 p.se, v5, .string p.h, .string p.c, .int .i64 p.t]] w fun e w' => ∃ b5, e = .returned (.agg #[.int .i64 p.k, .string p.b, .int .i64 p.se, .slice (some ⟨b5, 0, none⟩) p.ws.length p.ws.length, .string p.h, .string p.c, .int .i64 p.t]) ∧ W.Sl w' (.slice (some ⟨b5, 0, none⟩) p.ws.length p.ws.length) p.ws w.heap.size ∧ Below w.heap.size w w' := by
  have S0 : Hid (Sq w #[.int .i64 p.k, .string p.b, .int .i64 p.se, v5, .string p.h, .string p.c, .int .i64 p.t] #[.int .i64 p.k, .string p.b, .int .i64 p.se, .slice none 0 0, .string { data := #[] }, .string { data := #[] }, .int .i64 0] (((w.alloc (.cells #[.int .i64 p.k, .string p.b, .int .i64 p.se, v5, .string p.h, .string p.c, .int .i64 p.t] 24)).alloc (.cells #[.int .i64 0, .string { data := #[] }, .int .i64 0, .slice none 0 0, .string { data := #[] }, .string { data := #[] }, .int .i64 0] 29)).alloc (.cells #[.int .i64 p.k, .string p.b, .int .i64 p.se, .slice none 0 0, .string { data := #[] }, .string { data := #[] }, .int .i64 0] 29))) := sq_new p v5 w
  have hinfo : (Tryd.prog.info? 29).map (·.size) = some 7 := by kernel_rfl
  go_enter Tryd.func6, Tryd.ntmps6
  go_wp2_with fail
  have hto := W.to_in2 (i5.keep S0.out.e) l5
  refine hto.mono ?_
  clear hto
  rintro e w1 ⟨rfl, r1, th1, z1, c1⟩
  have T1 : Hid (Sq w #[.int .i64 p.k, .string p.b, .int .i64 p.se, v5, .string p.h, .string p.c, .int .i64 p.t] #[.int .i64 p.k, .string p.b, .int .i64 p.se, .slice none 0 0, .string { data := #[] }, .string { data := #[] }, .int .i64 0] w1) := S0.out.below c1
  have ka := T1.out.a
  have ko := T1.out.b
  have kf := T1.out.c
  have kz := T1.out.f
  obtain ⟨B1, hB1⟩ : ∃ B, B = (((w.alloc (.cells #[.int .i64 p.k, .string p.b, .int .i64 p.se, v5, .string p.h, .string p.c, .int .i64 p.t] 24)).alloc (.cells #[.int .i64 0, .string { data := #[] }, .int .i64 0, .slice none 0 0, .string { data := #[] }, .string { data := #[] }, .int .i64 0] 29)).alloc (.cells #[.int .i64 p.k, .string p.b, .int .i64 p.se, .slice none 0 0, .string { data := #[] }, .string { data := #[] }, .int .i64 0] 29)).heap.size := ⟨_, rfl⟩
  have HB1 : Hid (w.heap.size + 1 + 1 < B1) := by rw [hB1]; exact S0.out.f
  have LT1 : Hid (B1 < w1.heap.size) := by rw [hB1]; exact z1
  have Q1 : Hid (W.Sl w1 (.slice (some ⟨B1, 0, none⟩) p.ws.length p.ws.length) p.ws w.heap.size) := Or.inr ⟨B1, _, rfl, by have := HB1.out; omega, LT1.out, by rw [hB1]; exact r1, by rw [hB1]; exact th1⟩
  rw [← hB1]
  clear hB1 r1 th1 z1 c1
  have S4 : Hid (Sq w #[.int .i64 p.k, .string p.b, .int .i64 p.se, v5, .string p.h, .string p.c, .int .i64 p.t] #[.int .i64 p.k, .string p.b, .int .i64 p.se, .slice (some ⟨B1, 0, none⟩) p.ws.length p.ws.length, .string p.h, .string p.c, .int .i64 p.t] ((((w1.setCell ⟨w.heap.size + 1 + 1, 3, none⟩ (.slice (some ⟨B1, 0, none⟩) p.ws.length p.ws.length)).setCell ⟨w.heap.size + 1 + 1, 4, none⟩ (.string p.h)).setCell ⟨w.heap.size + 1 + 1, 5, none⟩ (.string p.c)).setCell ⟨w.heap.size + 1 + 1, 6, none⟩ (.int .i64 p.t))) := (((T1.out.set 3 (by simp) _).set 4 (by simp) _).set 5 (by simp) _).set 6 (by simp) _
  have X4 : Hid (Ex (w.heap.size + 1 + 1) w1 ((((w1.setCell ⟨w.heap.size + 1 + 1, 3, none⟩ (.slice (some ⟨B1, 0, none⟩) p.ws.length p.ws.length)).setCell ⟨w.heap.size + 1 + 1, 4, none⟩ (.string p.h)).setCell ⟨w.heap.size + 1 + 1, 5, none⟩ (.string p.c)).setCell ⟨w.heap.size + 1 + 1, 6, none⟩ (.int .i64 p.t))) := ((((Ex.refl _ _).set 3 _).set 4 _).set 5 _).set 6 _
  have hx1 : Ex (w.heap.size + 1) ((((w1.setCell ⟨w.heap.size + 1 + 1, 3, none⟩ (.slice (some ⟨B1, 0, none⟩) p.ws.length p.ws.length)).setCell ⟨w.heap.size + 1 + 1, 4, none⟩ (.string p.h)).setCell ⟨w.heap.size + 1 + 1, 5, none⟩ (.string p.c)).setCell ⟨w.heap.size + 1 + 1, 6, none⟩ (.int .i64 p.t)) (World.setCells ((((w1.setCell ⟨w.heap.size + 1 + 1, 3, none⟩ (.slice (some ⟨B1, 0, none⟩) p.ws.length p.ws.length)).setCell ⟨w.heap.size + 1 + 1, 4, none⟩ (.string p.h)).setCell ⟨w.heap.size + 1 + 1, 5, none⟩ (.string p.c)).setCell ⟨w.heap.size + 1 + 1, 6, none⟩ (.int .i64 p.t)) (w.heap.size + 1) 0 [.int .i64 p.k, .string p.b, .int .i64 p.se, .slice (some ⟨B1, 0, none⟩) p.ws.length p.ws.length, .string p.h, .string p.c, .int .i64 p.t]) := (Ex.refl _ _).cells _ _
  have P1 : Hid (W.Sl (World.setCells ((((w1.setCell ⟨w.heap.size + 1 + 1, 3, none⟩ (.slice (some ⟨B1, 0, none⟩) p.ws.length p.ws.length)).setCell ⟨w.heap.size + 1 + 1, 4, none⟩ (.string p.h)).setCell ⟨w.heap.size + 1 + 1, 5, none⟩ (.string p.c)).setCell ⟨w.heap.size + 1 + 1, 6, none⟩ (.int .i64 p.t)) (w.heap.size + 1) 0 [.int .i64 p.k, .string p.b, .int .i64 p.se, .slice (some ⟨B1, 0, none⟩) p.ws.length p.ws.length, .string p.h, .string p.c, .int .i64 p.t]) (.slice (some ⟨B1, 0, none⟩) p.ws.length p.ws.length) p.ws w.heap.size) := (Q1.out.grown (W.ex_grown X4.out) (Or.inr (own_ne (by have := HB1.out; omega)))).grown (W.ex_grown hx1) (Or.inr (own_ne (by have := HB1.out; omega)))
  have BE : Hid (Below w.heap.size w (World.setCells ((((w1.setCell ⟨w.heap.size + 1 + 1, 3, none⟩ (.slice (some ⟨B1, 0, none⟩) p.ws.length p.ws.length)).setCell ⟨w.heap.size + 1 + 1, 4, none⟩ (.string p.h)).setCell ⟨w.heap.size + 1 + 1, 5, none⟩ (.string p.c)).setCell ⟨w.heap.size + 1 + 1, 6, none⟩ (.int .i64 p.t)) (w.heap.size + 1) 0 [.int .i64 p.k, .string p.b, .int .i64 p.se, .slice (some ⟨B1, 0, none⟩) p.ws.length p.ws.length, .string p.h, .string p.c, .int .i64 p.t])) := ⟨hx1.os.trans S4.out.e.os, hx1.tape.trans S4.out.e.tape, hx1.output.trans S4.out.e.output, Nat.le_trans S4.out.e.size hx1.size, fun k hk => (hx1.block k (Nat.lt_of_lt_of_le hk S4.out.e.size) (by omega)).trans (S4.out.e.block k hk)⟩
  have RG : Hid _ := World.rangeAt_setCells_same ((((w1.setCell ⟨w.heap.size + 1 + 1, 3, none⟩ (.slice (some ⟨B1, 0, none⟩) p.ws.length p.ws.length)).setCell ⟨w.heap.size + 1 + 1, 4, none⟩ (.string p.h)).setCell ⟨w.heap.size + 1 + 1, 5, none⟩ (.string p.c)).setCell ⟨w.heap.size + 1 + 1, 6, none⟩ (.int .i64 p.t)) (w.heap.size + 1) 0 [.int .i64 p.k, .string p.b, .int .i64 p.se, .slice (some ⟨B1, 0, none⟩) p.ws.length p.ws.length, .string p.h, .string p.c, .int .i64 p.t] S4.out.d
  clear hx1
  have kd := S4.out.d
  go_wp2_with (refine wpList_store_mid (by rfl) 29 _ _ (by rfl) (w.heap.size + 1) 0 #[.int .i64 p.k, .string p.b, .int .i64 p.se, .slice (some ⟨B1, 0, none⟩) p.ws.length p.ws.length, .string p.h, .string p.c, .int .i64 p.t] (by rfl) (by rfl) (by exact kd) hinfo (by simp [Value.oneCell']) ?_)
  have hrg := RG.out
  have d0 := hrg 0 _ rfl
  have d1 := hrg 1 _ rfl
  have d2 := hrg 2 _ rfl
  have d3 := hrg 3 _ rfl
  have d4 := hrg 4 _ rfl
  have d5 := hrg 5 _ rfl
  have d6 := hrg 6 _ rfl
  simp only [Nat.zero_add] at d0 d1 d2 d3 d4 d5 d6
  exact bodyPost_ret (v := .agg #[.int .i64 p.k, .string p.b, .int .i64 p.se, .slice (some ⟨B1, 0, none⟩) p.ws.length p.ws.length, .string p.h, .string p.c, .int .i64 p.t]) (by simp [results, Tryd.results6, go_sem, d0, d1, d2, d3, d4, d5, d6]) rfl ⟨B1, rfl, P1.out, BE.out⟩

set_option maxRecDepth 4000 in
set_option maxHeartbeats 2000000 in
theorem eqParcel_sl (p : ParD) (s1 t1 : Value) (B1 B2 : Nat) (w : World) (h1 : W.Sl w s1 p.ws B1) (h2 : W.Sl w t1 p.ws B2) (hl : p.ws.length ≤ 1048576) :
    Calls Tryd.prog 8 #[.agg #[.int .i64 p.k, .string p.b, .int .i64 p.se, s1, .string p.h, .string p.c, .int .i64 p.t], .agg #[.int .i64 p.k, .string p.b, .int .i64 p.se, t1, .string p.h, .string p.c, .int .i64 p.t]] w fun e w' => e = .returned (.bool true) ∧ Below w.heap.size w w' := by
  have Hb0 : Hid (Below w.heap.size w ((w.alloc (.cells #[.int .i64 p.k, .string p.b, .int .i64 p.se, s1, .string p.h, .string p.c, .int .i64 p.t] 29)).alloc (.cells #[.int .i64 p.k, .string p.b, .int .i64 p.se, t1, .string p.h, .string p.c, .int .i64 p.t] 29))) := bl_alloc (bl_alloc (Below.refl _ _) _) _
  have P0 : Hid _ := h1.keep Hb0.out
  have Q0 : Hid _ := h2.keep Hb0.out
  go_enter Tryd.func8, Tryd.ntmps8
  go_wp2_with fail
  refine (W.eq_sl P0.out Q0.out hl).mono ?_
  rintro e w1 ⟨rfl, c1⟩
  have D1 : Hid (Below ((w.alloc (.cells #[.int .i64 p.k, .string p.b, .int .i64 p.se, s1, .string p.h, .string p.c, .int .i64 p.t] 29)).alloc (.cells #[.int .i64 p.k, .string p.b, .int .i64 p.se, t1, .string p.h, .string p.c, .int .i64 p.t] 29)).heap.size ((w.alloc (.cells #[.int .i64 p.k, .string p.b, .int .i64 p.se, s1, .string p.h, .string p.c, .int .i64 p.t] 29)).alloc (.cells #[.int .i64 p.k, .string p.b, .int .i64 p.se, t1, .string p.h, .string p.c, .int .i64 p.t] 29)) w1) := c1
  clear c1
  have ka : ∀ k, w1.cell? ⟨w.heap.size, k, none⟩ = (#[.int .i64 p.k, .string p.b, .int .i64 p.se, s1, .string p.h, .string p.c, .int .i64 p.t] : Array Value)[k]? := by
    intro k
    rw [D1.out.cell (p := ⟨w.heap.size, k, none⟩) (by simp; omega)]
    simp [go_sem]
  have kb : ∀ k, w1.cell? ⟨w.heap.size + 1, k, none⟩ = (#[.int .i64 p.k, .string p.b, .int .i64 p.se, t1, .string p.h, .string p.c, .int .i64 p.t] : Array Value)[k]? := by
    intro k
    rw [D1.out.cell (p := ⟨w.heap.size + 1, k, none⟩) (by simp)]
    simp [go_sem]
  go_wp2
  go_ret
  exact ⟨rfl, bl_trans Hb0.out D1.out⟩

end Go.Proofs.YteebdpnpeglimaaDoor
