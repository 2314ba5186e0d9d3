import Derived.Test.YtefkdohkjdopeaaGreatDoorJ21
import Derived.Test.YtefkdohkjdopeaaGreatDoorJ03
import Derived.Test.YtefkdohkjdopeaaGreatDoorJ11
import Derived.Test.YtefkdohkjdopeaaGreatDoorJ10
import Derived.Test.YtefkdohkjdopeaaGreatDoorJ05
import Derived.Deep.RegionHeld3
import Derived.Laws.Pointers
import Derived.StillTactics
import Derived.Test.YtefkdohkjdopeaaGreatDoorJ02
import Derived.Laws.MakeOwn
import Derived.Laws.AppendOwn
namespace Go.Proofs.YtefkdohkjdopeaaGreatDoor
open Go.RowKit
set_option linter.unusedVariables false
def upd (f : Nat → Value) (s : Nat) (v : Value) : Nat → Value := fun k => if k = s then v else f k
structure Ih (S : Nat → Prop) (n : Nat) (ops : Array Oper) (a0 : Act) (J : Array Bool → World → (Nat → Value) → Prop) (listed : Array Bool) (a : Act) (w : World) : Prop where
 df : a.defers = a0.defers
 sz : a.tmps.size = a0.tmps.size
 out : ∀ k, ¬ S k → a.tmps.getD k undef = a0.tmps.getD k undef
 lz : listed.size = n
 tr : ∀ i j, waits .any ops i j = true → listed.getD i false = true → listed.getD j false = true
 j : J listed w (fun k => a.tmps.getD k undef)
section
variable {S : Nat → Prop} {n : Nat} {ops : Array Oper} {a0 : Act} {J : Array Bool → World → (Nat → Value) → Prop} {listed : Array Bool} {a : Act} {w w' : World} {i s : Nat} {v : Value}
theorem Ih.put (h : Ih S n ops a0 J listed a w) (hr : i ∈ Region.ready .any ops listed) (hi : i < n) (hs : S s) (hlt : s < a0.tmps.size) (hj : J (listed.setIfInBounds i true) w' (upd (fun k => a.tmps.getD k undef) s v)) : Ih S n ops a0 J (listed.setIfInBounds i true) (a.put (some s) v) w' := by
 have hsz := h.sz
 have hlz := h.lz
 have e : (fun k => (a.put (some s) v).tmps.getD k undef) = upd (fun k => a.tmps.getD k undef) s v := by
  funext k
  unfold upd
  simp only [Act.put, Array.getD_eq_getD_getElem?]
  by_cases hk : k = s
  ·
   rw [if_pos hk, hk, Array.getElem?_setIfInBounds_self_of_lt (by omega)]
   rfl
  ·
   rw [if_neg hk, Array.getElem?_setIfInBounds_ne (fun e => hk e.symm)]
 refine ⟨h.df, by simpa [Act.put] using hsz, ?_, by simpa using hlz, trT hr (by omega) h.tr, ?_⟩
 ·
  intro k hko
  rw [← h.out k hko]
  simp only [Act.put, Array.getD_eq_getD_getElem?]
  rw [Array.getElem?_setIfInBounds_ne (fun e => hko (by rw [← e]; exact hs))]
 ·
  rw [e]
  exact hj
theorem Ih.nil (h : Ih S n ops a0 J listed a w) (hr : i ∈ Region.ready .any ops listed) (hi : i < n) (u : Value) (hj : J (listed.setIfInBounds i true) w' (fun k => a.tmps.getD k undef)) : Ih S n ops a0 J (listed.setIfInBounds i true) (a.put none u) w' := by
 have hlz := h.lz
 exact ⟨h.df, h.sz, h.out, by simpa using hlz, trT hr (by omega) h.tr, hj⟩
end
theorem reg_invH {P : Program} {ops : Array Oper} {Q : Exit → Act → World → Prop} {a0 : Act} {w0 : World} (S : Nat → Prop) (n : Nat) (J : Array Bool → World → (Nat → Value) → Prop)
  (hd : depsAny ops = true) (hops : ops.size = n) (hJ : J (Array.replicate ops.size false) w0 (fun k => a0.tmps.getD k undef))
  (done : ∀ L a y, (∀ i, i < n → L.getD i false = true) → a.defers = a0.defers → a.tmps.size = a0.tmps.size → (∀ k, ¬ S k → a.tmps.getD k undef = a0.tmps.getD k undef) → J L y (fun k => a.tmps.getD k undef) → Q .normal a y)
  (step : ∀ listed x y i, Ih S n ops a0 J listed x y → i ∈ Region.ready .any ops listed → i < n → wpOp P ops Q i (Ih S n ops a0 J (listed.setIfInBounds i true)) x y) :
  wpAny P .any ops Q ops.size (Array.replicate ops.size false) a0 w0 := by
 have hrep : openOf (Array.replicate ops.size false) ≤ ops.size := by
  unfold openOf
  exact Nat.le_trans List.countP_le_length (by simp)
 have hno : ∀ k j, (Array.replicate k false).getD j false = false := fun k j => by
  simp only [Array.getD_eq_getD_getElem?, Array.getElem?_replicate]
  split <;> rfl
 refine wpAny_inv (Ih S n ops a0 J) (fun listed x y i hI hi => step listed x y i hI hi (by have := List.mem_range.1 (List.mem_filter.1 hi).1; omega)) ?_ _ _ _ _ hrep ?_
 ·
  intro listed x y hI hr
  have hall := all_listedA hd hr (by rw [hI.lz, hops])
  exact done listed x y (fun i hi => hall i (by omega)) hI.df hI.sz hI.out hI.j
 ·
  exact ⟨rfl, rfl, fun _ _ => rfl, by simp [hops], (fun i j _ h => by rw [hno] at h; cases h), hJ⟩
structure ParcelD where
 k : Int
 b : ByteArray
 s : Int
 ws : List W.WantD
 h : ByteArray
 c : ByteArray
 t : Int
end Go.Proofs.YtefkdohkjdopeaaGreatDoor
namespace Go.Proofs.YtefkdohkjdopeaaGreatDoor.W
open Go.RowKit
theorem to_in2 {w : World} {v : Value} {l : List WantD} (h : In w v l) (hl : l.length ≤ 1048576) :
  Calls Tryz.prog 30 #[v] w fun e w' => e = .returned (.slice (some ⟨w.heap.size, 0, none⟩) l.length l.length) ∧ RowsAt w' w.heap.size 0 l ∧ w'.there w.heap.size 0 (l.length * 7) ∧ w.heap.size < w'.heap.size ∧ Below w.heap.size w w' := by
 rcases h with ⟨rfl, a, cap, rfl⟩ | ⟨b, off, cap, rfl, k2, k3, k4, k5⟩
 ·
  refine (to_nil a cap w).mono ?_
  rintro e w' ⟨rfl, h1, h2⟩
  exact ⟨rfl, fun k r h => by simp at h, fun j hj => by simp at hj, h1, h2⟩
 ·
  exact toWantS b off cap l w k4 k3 hl
end Go.Proofs.YtefkdohkjdopeaaGreatDoor.W
namespace Go.Proofs.YtefkdohkjdopeaaGreatDoor
open Go.RowKit
end Go.Proofs.YtefkdohkjdopeaaGreatDoor
namespace Go.Proofs.YtefkdohkjdopeaaGreatDoor.A
open Go.RowKit
end Go.Proofs.YtefkdohkjdopeaaGreatDoor.A
namespace Go.Proofs.YtefkdohkjdopeaaGreatDoor
open Go.RowKit
set_option linter.unusedVariables false
theorem own_ne {a b n c : Nat} (h : a ≠ b) : (Value.slice (some ⟨a, 0, none⟩) n c).ownBlock ≠ some b := by simpa [Value.ownBlock] using h
set_option maxRecDepth 4000 in
theorem szParcel_any (p : ParcelD) (v5 : Value) (x : Int) (w : World) (i5 : W.In w v5 p.ws) (x0 : 0 ≤ x) (x1 : x ≤ 1048576) (hb : p.b.size ≤ maxLen) (hh : p.h.size ≤ maxLen) (hc : p.c.size ≤ maxLen) :
  Calls Tryz.prog 5 #[.agg #[.int .i64 p.k, .string p.b, .int .i64 p.s, v5, .string p.h, .string p.c, .int .i64 p.t], .int .i64 x] w fun e w' => (e = .returned (.int .i64 (-1)) ∨ ∃ x : Int, e = .returned (.int .i64 x) ∧ 0 ≤ x ∧ p.ws.length ≤ 1048576) ∧ Below w.heap.size w w' := by
 have Hb0 : Hid (Below w.heap.size w (w.alloc (.cells #[.int .i64 p.k, .string p.b, .int .i64 p.s, v5, .string p.h, .string p.c, .int .i64 p.t] 28))) := bl_alloc (Below.refl _ _) _
 by_cases h1 : (p.b.size : Int) ≤ x
 ·
  go_enter Tryz.func5, Tryz.ntmps5
  go_wp2_with fail
  refine (W.sz_in (i5.keep Hb0.out) (x - (p.b.size : Int)) (by omega) (by omega)).mono ?_
  rintro e w1 ⟨hx1, c1⟩
  have C1 : Hid (Below w.heap.size w w1) := bl_trans Hb0.out c1
  have D1 : Hid (Below (w.alloc (.cells #[.int .i64 p.k, .string p.b, .int .i64 p.s, v5, .string p.h, .string p.c, .int .i64 p.t] 28)).heap.size (w.alloc (.cells #[.int .i64 p.k, .string p.b, .int .i64 p.s, v5, .string p.h, .string p.c, .int .i64 p.t] 28)) w1) := c1
  clear c1
  have kb1 := box_keep D1.out
  rcases hx1 with rfl | ⟨x1, rfl, p1, r1, l1⟩
  ·
   go_wp2
   go_ret
   exact ⟨Or.inl rfl, C1.out⟩
  by_cases h2 : (p.h.size : Int) ≤ x1
  ·
   by_cases h3 : (p.c.size : Int) ≤ x1 - (p.h.size : Int)
   ·
    go_wp2
    go_ret
    exact ⟨Or.inr ⟨_, rfl, by omega, l1⟩, C1.out⟩
   ·
    have h3' : x1 - (p.h.size : Int) < (p.c.size : Int) := by omega
    unfold maxLen at hc
    clear h3
    go_wp2
    go_ret
    exact ⟨Or.inl rfl, C1.out⟩
  ·
   have h2' : x1 < (p.h.size : Int) := by omega
   unfold maxLen at hh
   clear h2
   go_wp2
   go_ret
   exact ⟨Or.inl rfl, C1.out⟩
 ·
  have h1' : x < (p.b.size : Int) := by omega
  unfold maxLen at hb
  clear h1
  go_enter Tryz.func5, Tryz.ntmps5
  go_wp2
  go_ret
  exact ⟨Or.inl rfl, Hb0.out⟩
structure Sq (w : World) (L O : Array Value) (x : World) : Prop where
 a : ∀ k, x.cell? ⟨w.heap.size, k, none⟩ = L[k]?
 b : ∀ k, x.cell? ⟨w.heap.size + 1 + 1, k, none⟩ = O[k]?
 c : ∀ k, x.frozen? ⟨w.heap.size + 1 + 1, k, none⟩ = false
 d : x.there (w.heap.size + 1) 0 7
 e : Below w.heap.size w x
 f : w.heap.size + 1 + 1 < x.heap.size
theorem Sq.below {w x y : World} {L O : Array Value} (h : Sq w L O x) (hb : Below x.heap.size x y) : Sq w L O y :=
 have hf := h.f
 ⟨fun k => (hb.cell (p := ⟨w.heap.size, k, none⟩) (by show w.heap.size < _; omega)).trans (h.a k), fun k => (hb.cell (p := ⟨w.heap.size + 1 + 1, k, none⟩) hf).trans (h.b k), fun k => (hb.frozen (p := ⟨w.heap.size + 1 + 1, k, none⟩) hf).trans (h.c k),
  fun j hj => ⟨by rw [hb.cell (p := ⟨w.heap.size + 1, 0 + j, none⟩) (by show w.heap.size + 1 < _; omega)]; exact (h.d j hj).1, by rw [hb.frozen (p := ⟨w.heap.size + 1, 0 + j, none⟩) (by show w.heap.size + 1 < _; omega)]; exact (h.d j hj).2⟩,
  bl_trans h.e hb, Nat.lt_of_lt_of_le hf hb.size⟩
theorem Sq.set {w x : World} {L O : Array Value} (h : Sq w L O x) (j : Nat) (hj : j < O.size) (u : Value) : Sq w L (O.setIfInBounds j u) (x.setCell ⟨w.heap.size + 1 + 1, j, none⟩ u) := by
 have he : Ex (w.heap.size + 1 + 1) x (x.setCell ⟨w.heap.size + 1 + 1, j, none⟩ u) := (Ex.refl _ _).set j u
 have hf := h.f
 refine ⟨fun k => (he.cell (p := ⟨w.heap.size, k, none⟩) (by show w.heap.size < _; omega) (by show w.heap.size ≠ _; omega)).trans (h.a k), fun k => ?_, fun k => ?_, there_ex h.d (by omega) he (by omega), bl_set (p := ⟨w.heap.size + 1 + 1, j, none⟩) h.e (by show w.heap.size ≤ w.heap.size + 1 + 1; omega) u, Nat.lt_of_lt_of_le hf he.size⟩
 ·
  by_cases e : k = j
  ·
   subst e
   have h1 := h.b k
   rw [Array.getElem?_eq_getElem hj] at h1
   rw [Array.getElem?_setIfInBounds_self_of_lt hj]
   exact World.cell?_setCell_same _ _ _ h1
  ·
   rw [Array.getElem?_setIfInBounds_ne (fun h' => e h'.symm), ← h.b k]
   exact World.cell?_setCell_other _ _ _ _ (fun h' => e (by have := congrArg Addr.off h'; exact this.symm))
 ·
  rw [World.frozen?_setCell]; exact h.c k
theorem sq_new (p : ParcelD) (v5 : Value) (w : World) : Sq w #[.int .i64 p.k, .string p.b, .int .i64 p.s, v5, .string p.h, .string p.c, .int .i64 p.t] #[.int .i64 p.k, .string p.b, .int .i64 p.s, .slice none 0 0, .string { data := #[] }, .string { data := #[] }, .int .i64 0] (((w.alloc (.cells #[.int .i64 p.k, .string p.b, .int .i64 p.s, v5, .string p.h, .string p.c, .int .i64 p.t] 28)).alloc (.cells #[.int .i64 0, .string { data := #[] }, .int .i64 0, .slice none 0 0, .string { data := #[] }, .string { data := #[] }, .int .i64 0] 41)).alloc (.cells #[.int .i64 p.k, .string p.b, .int .i64 p.s, .slice none 0 0, .string { data := #[] }, .string { data := #[] }, .int .i64 0] 41)) := by
 refine ⟨fun k => by simp [go_sem, World.cell?_alloc_past], fun k => by simp [go_sem], fun k => by simp [go_sem], fun j hj => ⟨by simp [go_sem, World.cell?_alloc_past] <;> omega, by simp [go_sem]⟩, bl_alloc (bl_alloc (bl_alloc (Below.refl _ _) _) _) _, by simp⟩
set_option maxRecDepth 4000 in
set_option maxHeartbeats 4000000 in
theorem toParcel_sl (p : ParcelD) (v5 : Value) (w : World) (i5 : W.In w v5 p.ws) (l5 : p.ws.length ≤ 1048576) :
  Calls Tryz.prog 8 #[.agg #[.int .i64 p.k, .string p.b, .int .i64 p.s, v5, .string p.h, .string p.c, .int .i64 p.t]] w fun e w' => ∃ b5, e = .returned (.agg #[.int .i64 p.k, .string p.b, .int .i64 p.s, .slice (some ⟨b5, 0, none⟩) p.ws.length p.ws.length, .string p.h, .string p.c, .int .i64 p.t]) ∧ W.Sl w' (.slice (some ⟨b5, 0, none⟩) p.ws.length p.ws.length) p.ws w.heap.size ∧ Below w.heap.size w w' := by
 have S0 : Hid (Sq w #[.int .i64 p.k, .string p.b, .int .i64 p.s, v5, .string p.h, .string p.c, .int .i64 p.t] #[.int .i64 p.k, .string p.b, .int .i64 p.s, .slice none 0 0, .string { data := #[] }, .string { data := #[] }, .int .i64 0] (((w.alloc (.cells #[.int .i64 p.k, .string p.b, .int .i64 p.s, v5, .string p.h, .string p.c, .int .i64 p.t] 28)).alloc (.cells #[.int .i64 0, .string { data := #[] }, .int .i64 0, .slice none 0 0, .string { data := #[] }, .string { data := #[] }, .int .i64 0] 41)).alloc (.cells #[.int .i64 p.k, .string p.b, .int .i64 p.s, .slice none 0 0, .string { data := #[] }, .string { data := #[] }, .int .i64 0] 41))) := sq_new p v5 w
 have hinfo : (Tryz.prog.info? 41).map (·.size) = some 7 := by kernel_rfl
 go_enter Tryz.func8, Tryz.ntmps8
 go_wp2_with fail
 have hto := W.to_in2 (i5.keep S0.out.e) l5
 refine hto.mono ?_
 clear hto
 rintro e w1 ⟨rfl, r1, th1, z1, c1⟩
 have T1 : Hid (Sq w #[.int .i64 p.k, .string p.b, .int .i64 p.s, v5, .string p.h, .string p.c, .int .i64 p.t] #[.int .i64 p.k, .string p.b, .int .i64 p.s, .slice none 0 0, .string { data := #[] }, .string { data := #[] }, .int .i64 0] w1) := S0.out.below c1
 have ka := T1.out.a
 have ko := T1.out.b
 have kf := T1.out.c
 have kz := T1.out.f
 obtain ⟨B1, hB1⟩ : ∃ B, B = (((w.alloc (.cells #[.int .i64 p.k, .string p.b, .int .i64 p.s, v5, .string p.h, .string p.c, .int .i64 p.t] 28)).alloc (.cells #[.int .i64 0, .string { data := #[] }, .int .i64 0, .slice none 0 0, .string { data := #[] }, .string { data := #[] }, .int .i64 0] 41)).alloc (.cells #[.int .i64 p.k, .string p.b, .int .i64 p.s, .slice none 0 0, .string { data := #[] }, .string { data := #[] }, .int .i64 0] 41)).heap.size := ⟨_, rfl⟩
 have HB1 : Hid (w.heap.size + 1 + 1 < B1) := by rw [hB1]; exact S0.out.f
 have LT1 : Hid (B1 < w1.heap.size) := by rw [hB1]; exact z1
 have Q1 : Hid (W.Sl w1 (.slice (some ⟨B1, 0, none⟩) p.ws.length p.ws.length) p.ws w.heap.size) := Or.inr ⟨B1, _, rfl, by have := HB1.out; omega, LT1.out, by rw [hB1]; exact r1, by rw [hB1]; exact th1⟩
 rw [← hB1]
 clear hB1 r1 th1 z1 c1
 have S4 : Hid (Sq w #[.int .i64 p.k, .string p.b, .int .i64 p.s, v5, .string p.h, .string p.c, .int .i64 p.t] #[.int .i64 p.k, .string p.b, .int .i64 p.s, .slice (some ⟨B1, 0, none⟩) p.ws.length p.ws.length, .string p.h, .string p.c, .int .i64 p.t] ((((w1.setCell ⟨w.heap.size + 1 + 1, 3, none⟩ (.slice (some ⟨B1, 0, none⟩) p.ws.length p.ws.length)).setCell ⟨w.heap.size + 1 + 1, 4, none⟩ (.string p.h)).setCell ⟨w.heap.size + 1 + 1, 5, none⟩ (.string p.c)).setCell ⟨w.heap.size + 1 + 1, 6, none⟩ (.int .i64 p.t))) := (((T1.out.set 3 (by simp) _).set 4 (by simp) _).set 5 (by simp) _).set 6 (by simp) _
 have X4 : Hid (Ex (w.heap.size + 1 + 1) w1 ((((w1.setCell ⟨w.heap.size + 1 + 1, 3, none⟩ (.slice (some ⟨B1, 0, none⟩) p.ws.length p.ws.length)).setCell ⟨w.heap.size + 1 + 1, 4, none⟩ (.string p.h)).setCell ⟨w.heap.size + 1 + 1, 5, none⟩ (.string p.c)).setCell ⟨w.heap.size + 1 + 1, 6, none⟩ (.int .i64 p.t))) := ((((Ex.refl _ _).set 3 _).set 4 _).set 5 _).set 6 _
 have hx1 : Ex (w.heap.size + 1) ((((w1.setCell ⟨w.heap.size + 1 + 1, 3, none⟩ (.slice (some ⟨B1, 0, none⟩) p.ws.length p.ws.length)).setCell ⟨w.heap.size + 1 + 1, 4, none⟩ (.string p.h)).setCell ⟨w.heap.size + 1 + 1, 5, none⟩ (.string p.c)).setCell ⟨w.heap.size + 1 + 1, 6, none⟩ (.int .i64 p.t)) (World.setCells ((((w1.setCell ⟨w.heap.size + 1 + 1, 3, none⟩ (.slice (some ⟨B1, 0, none⟩) p.ws.length p.ws.length)).setCell ⟨w.heap.size + 1 + 1, 4, none⟩ (.string p.h)).setCell ⟨w.heap.size + 1 + 1, 5, none⟩ (.string p.c)).setCell ⟨w.heap.size + 1 + 1, 6, none⟩ (.int .i64 p.t)) (w.heap.size + 1) 0 [.int .i64 p.k, .string p.b, .int .i64 p.s, .slice (some ⟨B1, 0, none⟩) p.ws.length p.ws.length, .string p.h, .string p.c, .int .i64 p.t]) := (Ex.refl _ _).cells _ _
 have P1 : Hid (W.Sl (World.setCells ((((w1.setCell ⟨w.heap.size + 1 + 1, 3, none⟩ (.slice (some ⟨B1, 0, none⟩) p.ws.length p.ws.length)).setCell ⟨w.heap.size + 1 + 1, 4, none⟩ (.string p.h)).setCell ⟨w.heap.size + 1 + 1, 5, none⟩ (.string p.c)).setCell ⟨w.heap.size + 1 + 1, 6, none⟩ (.int .i64 p.t)) (w.heap.size + 1) 0 [.int .i64 p.k, .string p.b, .int .i64 p.s, .slice (some ⟨B1, 0, none⟩) p.ws.length p.ws.length, .string p.h, .string p.c, .int .i64 p.t]) (.slice (some ⟨B1, 0, none⟩) p.ws.length p.ws.length) p.ws w.heap.size) := (Q1.out.grown (W.ex_grown X4.out) (Or.inr (own_ne (by have := HB1.out; omega)))).grown (W.ex_grown hx1) (Or.inr (own_ne (by have := HB1.out; omega)))
 have BE : Hid (Below w.heap.size w (World.setCells ((((w1.setCell ⟨w.heap.size + 1 + 1, 3, none⟩ (.slice (some ⟨B1, 0, none⟩) p.ws.length p.ws.length)).setCell ⟨w.heap.size + 1 + 1, 4, none⟩ (.string p.h)).setCell ⟨w.heap.size + 1 + 1, 5, none⟩ (.string p.c)).setCell ⟨w.heap.size + 1 + 1, 6, none⟩ (.int .i64 p.t)) (w.heap.size + 1) 0 [.int .i64 p.k, .string p.b, .int .i64 p.s, .slice (some ⟨B1, 0, none⟩) p.ws.length p.ws.length, .string p.h, .string p.c, .int .i64 p.t])) := ⟨hx1.os.trans S4.out.e.os, hx1.tape.trans S4.out.e.tape, hx1.output.trans S4.out.e.output, Nat.le_trans S4.out.e.size hx1.size, fun k hk => (hx1.block k (Nat.lt_of_lt_of_le hk S4.out.e.size) (by omega)).trans (S4.out.e.block k hk)⟩
 have RG : Hid _ := World.rangeAt_setCells_same ((((w1.setCell ⟨w.heap.size + 1 + 1, 3, none⟩ (.slice (some ⟨B1, 0, none⟩) p.ws.length p.ws.length)).setCell ⟨w.heap.size + 1 + 1, 4, none⟩ (.string p.h)).setCell ⟨w.heap.size + 1 + 1, 5, none⟩ (.string p.c)).setCell ⟨w.heap.size + 1 + 1, 6, none⟩ (.int .i64 p.t)) (w.heap.size + 1) 0 [.int .i64 p.k, .string p.b, .int .i64 p.s, .slice (some ⟨B1, 0, none⟩) p.ws.length p.ws.length, .string p.h, .string p.c, .int .i64 p.t] S4.out.d
 clear hx1
 have kd := S4.out.d
 go_wp2_with (refine wpList_store_mid (by rfl) 41 _ _ (by rfl) (w.heap.size + 1) 0 #[.int .i64 p.k, .string p.b, .int .i64 p.s, .slice (some ⟨B1, 0, none⟩) p.ws.length p.ws.length, .string p.h, .string p.c, .int .i64 p.t] (by rfl) (by rfl) (by exact kd) hinfo (by simp [Value.oneCell']) ?_)
 have hrg := RG.out
 have d0 := hrg 0 _ rfl
 have d1 := hrg 1 _ rfl
 have d2 := hrg 2 _ rfl
 have d3 := hrg 3 _ rfl
 have d4 := hrg 4 _ rfl
 have d5 := hrg 5 _ rfl
 have d6 := hrg 6 _ rfl
 simp only [Nat.zero_add] at d0 d1 d2 d3 d4 d5 d6
 exact bodyPost_ret (v := .agg #[.int .i64 p.k, .string p.b, .int .i64 p.s, .slice (some ⟨B1, 0, none⟩) p.ws.length p.ws.length, .string p.h, .string p.c, .int .i64 p.t]) (by simp [results, Tryz.results8, go_sem, d0, d1, d2, d3, d4, d5, d6]) rfl ⟨B1, rfl, P1.out, BE.out⟩
set_option maxRecDepth 4000 in
set_option maxHeartbeats 2000000 in
theorem eqParcel_sl (p : ParcelD) (s1 t1 : Value) (B1 B2 : Nat) (w : World) (h1 : W.Sl w s1 p.ws B1) (h2 : W.Sl w t1 p.ws B2) (hl : p.ws.length ≤ 1048576) :
  Calls Tryz.prog 12 #[.agg #[.int .i64 p.k, .string p.b, .int .i64 p.s, s1, .string p.h, .string p.c, .int .i64 p.t], .agg #[.int .i64 p.k, .string p.b, .int .i64 p.s, t1, .string p.h, .string p.c, .int .i64 p.t]] w fun e w' => e = .returned (.bool true) ∧ Below w.heap.size w w' := by
 have Hb0 : Hid (Below w.heap.size w ((w.alloc (.cells #[.int .i64 p.k, .string p.b, .int .i64 p.s, s1, .string p.h, .string p.c, .int .i64 p.t] 41)).alloc (.cells #[.int .i64 p.k, .string p.b, .int .i64 p.s, t1, .string p.h, .string p.c, .int .i64 p.t] 41))) := bl_alloc (bl_alloc (Below.refl _ _) _) _
 have P0 : Hid _ := h1.keep Hb0.out
 have Q0 : Hid _ := h2.keep Hb0.out
 go_enter Tryz.func12, Tryz.ntmps12
 go_wp2_with fail
 refine (W.eq_sl P0.out Q0.out hl).mono ?_
 rintro e w1 ⟨rfl, c1⟩
 have D1 : Hid (Below ((w.alloc (.cells #[.int .i64 p.k, .string p.b, .int .i64 p.s, s1, .string p.h, .string p.c, .int .i64 p.t] 41)).alloc (.cells #[.int .i64 p.k, .string p.b, .int .i64 p.s, t1, .string p.h, .string p.c, .int .i64 p.t] 41)).heap.size ((w.alloc (.cells #[.int .i64 p.k, .string p.b, .int .i64 p.s, s1, .string p.h, .string p.c, .int .i64 p.t] 41)).alloc (.cells #[.int .i64 p.k, .string p.b, .int .i64 p.s, t1, .string p.h, .string p.c, .int .i64 p.t] 41)) w1) := c1
 clear c1
 have ka : ∀ k, w1.cell? ⟨w.heap.size, k, none⟩ = (#[.int .i64 p.k, .string p.b, .int .i64 p.s, s1, .string p.h, .string p.c, .int .i64 p.t] : Array Value)[k]? := by
  intro k
  rw [D1.out.cell (p := ⟨w.heap.size, k, none⟩) (by simp; omega)]
  simp [go_sem]
 have kb : ∀ k, w1.cell? ⟨w.heap.size + 1, k, none⟩ = (#[.int .i64 p.k, .string p.b, .int .i64 p.s, t1, .string p.h, .string p.c, .int .i64 p.t] : Array Value)[k]? := by
  intro k
  rw [D1.out.cell (p := ⟨w.heap.size + 1, k, none⟩) (by simp)]
  simp [go_sem]
 go_wp2
 go_ret
 exact ⟨rfl, bl_trans Hb0.out D1.out⟩
set_option maxRecDepth 4000 in
set_option maxHeartbeats 2000000 in
theorem markParcel_sl (p : ParcelD) (s1 : Value) (B : Nat) (k0 : Int) (w : World) (h1 : W.Sl w s1 p.ws B) (hl : p.ws.length ≤ 1048576) (h0 : 0 ≤ k0) (hk : k0 ≤ 10000000000000) :
  Calls Tryz.prog 14 #[.agg #[.int .i64 p.k, .string p.b, .int .i64 p.s, s1, .string p.h, .string p.c, .int .i64 p.t], .int .i64 k0] w fun e w' => e = .returned (.int .i64 (k0 + 7 * (p.ws.length : Int))) ∧ Off (fun j => s1.ownBlock = some j) w w' := by
 have Hb0 : Hid (Below w.heap.size w (w.alloc (.cells #[.int .i64 p.k, .string p.b, .int .i64 p.s, s1, .string p.h, .string p.c, .int .i64 p.t] 41))) := bl_alloc (Below.refl _ _) _
 have P0 : Hid (W.Sl (w.alloc (.cells #[.int .i64 p.k, .string p.b, .int .i64 p.s, s1, .string p.h, .string p.c, .int .i64 p.t] 41)) s1 p.ws B) := h1.keep Hb0.out
 go_enter Tryz.func14, Tryz.ntmps14
 go_wp2_with fail
 refine (W.mark_sl P0.out k0 hl h0 hk).mono ?_
 rintro e w1 ⟨rfl, r1, g1⟩
 have F1 : Hid (Off (fun j => s1.ownBlock = some j) w w1) := (Off.of_below Hb0.out).trans (Off.of_grown g1 (fun j hj => hj))
 clear r1 g1
 go_wp2
 go_ret
 exact ⟨rfl, F1.out⟩
end Go.Proofs.YtefkdohkjdopeaaGreatDoor
