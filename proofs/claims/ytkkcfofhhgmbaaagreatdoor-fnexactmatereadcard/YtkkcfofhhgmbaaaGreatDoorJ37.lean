import Derived.Test.YtkkcfofhhgmbaaaGreatDoorJ36
import Derived.Test.YtkkcfofhhgmbaaaGreatDoorJ14
import Derived.Test.YtkkcfofhhgmbaaaGreatDoorJ35
import Derived.Laws.Tables
import Derived.Test.YtkkcfofhhgmbaaaGreatDoorJ13
import Derived.Test.YtkkcfofhhgmbaaaGreatDoorShelfB
import Derived.Test.YtkkcfofhhgmbaaaGreatDoorJ05
import Derived.Laws.Pointers
/- A list in a row of the call's own, or nil. -/
namespace Go.Proofs.YtkkcfofhhgmbaaaGreatDoor.W
open Go.RowKit
set_option linter.unusedVariables false

/-- The value v shows the list l: it is nil and the list empty, or the list lies in a block from B on, which may be written. -/
def Sl (w : World) (v : Value) (l : List WantD) (B : Nat) : Prop := (v = .slice none 0 0 ∧ l = []) ∨ ∃ g cap, v = .slice (some ⟨g, 0, none⟩) l.length cap ∧ B ≤ g ∧ g < w.heap.size ∧ RowsAt w g 0 l ∧ w.there g 0 (l.length * 7)
theorem Sl.of_owns {w : World} {v : Value} {l : List WantD} {B : Nat} (h : w.ownsRow B 35 7 v l.length (flatR l)) : Sl w v l B := rows_of_owns h
theorem Sl.grown {w w' : World} {v : Value} {l : List WantD} {B : Nat} {row : Option Nat} (h : Sl w v l B) (hg : w.grownBy w' row) (hne : v.ownBlock = none ∨ v.ownBlock ≠ row) : Sl w' v l B := by
  rcases h with h | ⟨g, cap, rfl, h1, h2, h3, h4⟩
  · exact Or.inl h
  · have hn : some g ≠ row := by simpa [Value.ownBlock] using hne
    have hc : ∀ o, w'.cell? ⟨g, o, none⟩ = w.cell? ⟨g, o, none⟩ := fun o => World.cell?_of_block (w := w) (a := ⟨g, o, none⟩) (hg.block g h2 hn)
    have hfz : ∀ o, w'.frozen? ⟨g, o, none⟩ = w.frozen? ⟨g, o, none⟩ := fun o => World.frozen?_of_block (w := w) (a := ⟨g, o, none⟩) (hg.block g h2 hn)
    exact Or.inr ⟨g, cap, rfl, h1, Nat.lt_of_lt_of_le h2 hg.size, fun k r hk j v hj => (hc _).trans (h3 k r hk j v hj), fun j hj => ⟨by rw [hc]; exact (h4 j hj).1, by rw [hfz]; exact (h4 j hj).2⟩⟩
theorem Sl.keep {w w' : World} {v : Value} {l : List WantD} {B : Nat} (h : Sl w v l B) (hb : Below w.heap.size w w') : Sl w' v l B :=
  h.grown (row := none) ⟨hb.os, hb.tape, hb.output, hb.size, fun k hk _ => hb.block k hk⟩ (by cases hv : v.ownBlock <;> simp)
theorem Sl.lt {w : World} {v : Value} {l : List WantD} {B : Nat} (h : Sl w v l B) : ∀ g, v.ownBlock = some g → B ≤ g ∧ g < w.heap.size := by
  rcases h with ⟨rfl, -⟩ | ⟨g, cap, rfl, h1, h2, -⟩
  · intro g hg; simp [Value.ownBlock] at hg
  · intro g' hg; simp [Value.ownBlock] at hg; subst hg; exact ⟨h1, h2⟩
theorem ex_grown {w w' : World} {kr : Nat} (h : Ex kr w w') : w.grownBy w' (some kr) := ⟨h.os, h.tape, h.output, h.size, fun k hk hne => h.block k hk (fun e => hne (by rw [e]))⟩

theorem eq_zero (a1 a2 : Option Addr) (c1 c2 : Nat) (w : World) :
    Calls Tryz.prog 15 #[.slice a1 0 c1, .slice a2 0 c2] w fun e w' => e = .returned (.bool true) ∧ w' = w := by
  go_enter Tryz.func15, Tryz.ntmps15
  go_wp2
  refine wp_loop_rounds 1 ?_
  rw [rounds_succ]
  go_wp2
  go_ret
  exact ⟨rfl, rfl⟩
theorem eq_sl {w : World} {v1 v2 : Value} {l : List WantD} {B1 B2 : Nat} (h1 : Sl w v1 l B1) (h2 : Sl w v2 l B2) (hl : l.length ≤ 1048576) :
    Calls Tryz.prog 15 #[v1, v2] w fun e w' => e = .returned (.bool true) ∧ Below w.heap.size w w' := by
  have z : ∀ (a1 a2 : Option Addr) (c1 c2 : Nat), Calls Tryz.prog 15 #[.slice a1 0 c1, .slice a2 0 c2] w fun e w' => e = .returned (.bool true) ∧ Below w.heap.size w w' := fun a1 a2 c1 c2 => (eq_zero a1 a2 c1 c2 w).mono (by rintro e w' ⟨rfl, rfl⟩; exact ⟨rfl, Below.refl _ _⟩)
  rcases h1 with ⟨rfl, rfl⟩ | ⟨g1, cap1, rfl, -, k2, k3, -⟩
  · rcases h2 with ⟨rfl, -⟩ | ⟨g2, cap2, rfl, -, m2, m3, -⟩
    · exact z _ _ _ _
    · exact z _ _ _ _
  · rcases h2 with ⟨rfl, rfl⟩ | ⟨g2, cap2, rfl, -, m2, m3, -⟩
    · exact z _ _ _ _
    · exact eqWantS g1 0 cap1 g2 0 cap2 l w k3 m3 k2 m2 hl
theorem mark_zero (a : Option Addr) (c : Nat) (k : Int) (w : World) : Calls Tryz.prog 16 #[.slice a 0 c, .int .i64 k] w fun e w' => e = .returned (.int .i64 k) ∧ w' = w := by
  go_enter Tryz.func16, Tryz.ntmps16
  go_wp2
  refine wp_loop_rounds 1 ?_
  rw [rounds_succ]
  go_wp2
  go_ret
  exact ⟨rfl, rfl⟩
theorem held_zero (a : Option Addr) (c : Nat) (k : Int) (w : World) : Calls Tryz.prog 17 #[.slice a 0 c, .int .i64 k] w fun e w' => e = .returned (.int .i64 k) ∧ w' = w := by
  go_enter Tryz.func17, Tryz.ntmps17
  go_wp2
  refine wp_loop_rounds 1 ?_
  rw [rounds_succ]
  go_wp2
  go_ret
  exact ⟨rfl, rfl⟩
theorem mark_sl {w : World} {v : Value} {l : List WantD} {B : Nat} (h : Sl w v l B) (k0 : Int) (hl : l.length ≤ 1048576) (h0 : 0 ≤ k0) (h1 : k0 ≤ 1000000000) :
    Calls Tryz.prog 16 #[v, .int .i64 k0] w fun e w' => e = .returned (.int .i64 (k0 + 7 * (l.length : Int))) ∧ Sl w' v (marks k0 l.length) B ∧ w.grownBy w' v.ownBlock := by
  rcases h with ⟨rfl, rfl⟩ | ⟨g, cap, rfl, a1, a2, a3, a4⟩
  · refine (mark_zero none 0 k0 w).mono ?_
    rintro e w' ⟨rfl, rfl⟩
    exact ⟨by simp, Or.inl ⟨rfl, rfl⟩, ⟨rfl, rfl, rfl, Nat.le_refl _, fun _ _ _ => rfl⟩⟩
  · refine (markS g l.length cap k0 w a4 a2 hl h0 (by omega)).mono ?_
    rintro e w' ⟨rfl, b1, b2, b3⟩
    exact ⟨rfl, Or.inr ⟨g, cap, by rw [len_marks], a1, Nat.lt_of_lt_of_le a2 b3.size, b1, by rw [len_marks]; exact b2⟩, ex_grown b3⟩
theorem held_sl {w : World} {v : Value} {m : Nat} {B : Nat} (k0 : Int) (h : Sl w v (marks k0 m) B) (hl : m ≤ 1048576) (h0 : 0 ≤ k0) (h1 : k0 ≤ 1000000000) :
    Calls Tryz.prog 17 #[v, .int .i64 k0] w fun e w' => e = .returned (.int .i64 (k0 + 7 * (m : Int))) ∧ Below w.heap.size w w' := by
  rcases h with ⟨rfl, h⟩ | ⟨g, cap, rfl, a1, a2, a3, a4⟩
  · have hm : m = 0 := by have := congrArg List.length h; rw [len_marks] at this; simpa using this
    subst hm
    refine (held_zero none 0 k0 w).mono ?_
    rintro e w' ⟨rfl, rfl⟩
    exact ⟨by simp, Below.refl _ _⟩
  · rw [len_marks]
    exact heldS g m cap k0 w a3 a2 hl h0 (by omega)
end Go.Proofs.YtkkcfofhhgmbaaaGreatDoor.W
/- What the specification reads: parcels while they are read. -/
namespace Go.Proofs.YtkkcfofhhgmbaaaGreatDoor
open Go.RowKit
set_option linter.unusedVariables false

def pcells (P : ParD) (v : Value) : Array Value := #[.int .i64 P.k, .string P.b, .int .i64 P.se, v, .string P.h, .string P.c, .int .i64 P.t]
def zP : ParD := ⟨0, eT, 0, [], eT, eT, 0⟩
/-- A text is the form of what was read. -/
noncomputable def okP (s : ByteArray) (P : ParD) : Bool := !s.toList.isEmpty && ((formT P).toList == s.toList)
noncomputable def ansP (s : ByteArray) (P : ParD) : ParD := if okP s P = true then P else zP
/-- What a reader answers. -/
def RdPost (s : ByteArray) (P : ParD) (w : World) (e : Ending) (w' : World) : Prop := ∃ v, e = .returned (.tuple #[.agg (pcells (ansP s P) v), .bool (okP s P)]) ∧ W.Sl w' v (ansP s P).ws w.heap.size ∧ Below w.heap.size w w'
theorem eq_list {a b : ByteArray} (h : (a.toList == b.toList) = true) : a = b := by
  have h1 := eq_of_beq h
  rw [ByteArray.toList_eq, ByteArray.toList_eq] at h1
  exact bytes_inj' h1
/-- While a parcel is laid out in a block of its own behind W2. -/
structure Rd (W2 : World) (O : Array Value) (y : World) : Prop where
  b : ∀ k, y.cell? ⟨W2.heap.size, k, none⟩ = O[k]?
  c : ∀ k, y.frozen? ⟨W2.heap.size, k, none⟩ = false
  e : Below W2.heap.size W2 y
  f : W2.heap.size < y.heap.size
theorem Rd.below {W2 y y' : World} {O : Array Value} (h : Rd W2 O y) (hb : Below y.heap.size y y') : Rd W2 O y' :=
  ⟨fun k => (hb.cell (p := ⟨W2.heap.size, k, none⟩) h.f).trans (h.b k), fun k => (hb.frozen (p := ⟨W2.heap.size, k, none⟩) h.f).trans (h.c k), bl_trans h.e hb, Nat.lt_of_lt_of_le h.f hb.size⟩
theorem Rd.set {W2 y : World} {O : Array Value} (h : Rd W2 O y) (j : Nat) (hj : j < O.size) (u : Value) : Rd W2 (O.setIfInBounds j u) (y.setCell ⟨W2.heap.size, j, none⟩ u) := by
  refine ⟨fun k => ?_, fun k => ?_, bl_set (p := ⟨W2.heap.size, j, none⟩) h.e (Nat.le_refl _) u, by have := h.f; simpa using this⟩
  · by_cases e : k = j
    · subst e
      have h1 := h.b k
      rw [Array.getElem?_eq_getElem hj] at h1
      rw [Array.getElem?_setIfInBounds_self_of_lt hj]
      exact World.cell?_setCell_same _ _ _ h1
    · rw [Array.getElem?_setIfInBounds_ne (fun h' => e h'.symm), ← h.b k]
      exact World.cell?_setCell_other _ _ _ _ (fun h' => e (by have := congrArg Addr.off h'; exact this.symm))
  · rw [World.frozen?_setCell]; exact h.c k
theorem Rd.new (W2 : World) (O : Array Value) (t : TypeId) : Rd W2 O (W2.alloc (.cells O t)) :=
  ⟨fun k => by rw [World.cell?_alloc_new], fun k => by simp [go_sem], bl_alloc (Below.refl _ _) _, by simp⟩
theorem cutL_pos (b : UInt8) (l : List UInt8) : 0 < (cutL b l).length := by
  cases l with
  | nil => simp [cutL]
  | cons x r =>
    rw [cutL]
    split
    · simp
    · cases cutL b r <;> simp
theorem cutL_mem (b : UInt8) : ∀ (l : List UInt8), ∀ x ∈ cutL b l, x.length ≤ l.length
  | [], x, h => by simp [cutL] at h; subst h; simp
  | y :: l, x, h => by
    have ih := cutL_mem b l
    rw [cutL] at h
    split at h
    · rcases List.mem_cons.1 h with rfl | h
      · simp
      · exact Nat.le_trans (ih x h) (by simp)
    · cases hc : cutL b l with
      | nil => rw [hc] at h; simp at h; subst h; simp
      | cons z zs =>
        rw [hc] at h ih
        rcases List.mem_cons.1 h with rfl | h
        · have := ih z (List.mem_cons_self ..); simpa using this
        · exact Nat.le_trans (ih x (List.mem_cons_of_mem _ h)) (by simp)
theorem atL_len (b : UInt8) (l : List UInt8) (k : Nat) : (atL (cutL b l) k).length ≤ l.length := by
  unfold atL
  cases h : (cutL b l)[k]? with
  | none => simp
  | some x => exact cutL_mem b l x (List.mem_of_getElem? h)
theorem wd_size (l : List UInt8) : (wd l).size = l.length := by rw [size_data, wd_list]
theorem at0 {b : UInt8} {l : List UInt8} : (cutL b l)[0]? = some (atL (cutL b l) 0) := by
  unfold atL
  rw [List.getElem?_eq_getElem (cutL_pos b l)]
  rfl
theorem holdR_size (x : ByteArray) : (holdR x).size ≤ x.size := by
  unfold holdR
  split
  · exact Nat.zero_le _
  · exact Nat.le_refl _
/-- The block of the answer, behind the calls. -/
theorem ans_set {w y : World} {cs old : Array Value} {t : TypeId} (h : y.heap[w.heap.size]? = some (.cells old t (0, 0))) (hb : Below w.heap.size w y) :
    Hid (∀ j, (y.setRow w.heap.size cs).cell? ⟨w.heap.size, j, none⟩ = cs[j]?) ∧ Hid (Below w.heap.size w (y.setRow w.heap.size cs)) ∧ Hid (y.grownBy (y.setRow w.heap.size cs) (some w.heap.size)) := by
  have h1 := setRow_heap y w.heap.size old cs t _ h
  have hg : y.grownBy (y.setRow w.heap.size cs) (some w.heap.size) := ⟨rfl, rfl, rfl, by simp, fun k _ hk => setRow_other y w.heap.size k _ (fun e => hk (by simp [e]))⟩
  refine ⟨fun j => ?_, ?_, hg⟩
  · show _ = _
    rw [cell_of_row _ _ j cs t (0, 0) h1]
  · show Below _ _ _
    exact Below.grown (row := some w.heap.size) hb hg hb.size (fun k hk => by cases hk; exact Nat.le_refl _)
theorem sl_ws {w : World} {v : Value} {l : List W.WantD} {B : Nat} (h : W.Sl w v l B) (hc : ∀ g n c, v = .slice (some ⟨g, 0, none⟩) n c → n ≤ c) : WsIn w v l := by
  rcases h with ⟨rfl, rfl⟩ | ⟨g, cap, rfl, h1, h2, h3, h4⟩
  · exact Or.inl ⟨none, 0, rfl, rfl⟩
  · exact Or.inr ⟨g, cap, rfl, hc _ _ _ rfl, h3, h2⟩
theorem okP_no {s : ByteArray} {P : ParD} (h : s.toList.isEmpty = true) : okP s P = false := by simp [okP, h]
theorem okP_ne {s : ByteArray} {P : ParD} (h : ((formT P).toList == s.toList) = false) : okP s P = false := by simp [okP, h]
theorem okP_yes {s : ByteArray} {P : ParD} (h0 : s.toList.isEmpty = false) (h : ((formT P).toList == s.toList) = true) : okP s P = true := by simp only [okP, h0, h]; rfl
theorem post_no {s : ByteArray} {P : ParD} {w w' : World} {e : Ending} (h : okP s P = false) (he : e = .returned (.tuple #[.agg #[.int .i64 0, .string { data := #[] }, .int .i64 0, .slice none 0 0, .string { data := #[] }, .string { data := #[] }, .int .i64 0], .bool false])) (hb : Below w.heap.size w w') : RdPost s P w e w' := by
  have hz : ansP s P = zP := if_neg (by rw [h]; simp)
  exact ⟨.slice none 0 0, by rw [hz, h, he]; rfl, by rw [hz]; exact Or.inl ⟨rfl, rfl⟩, hb⟩
theorem post_yes {s : ByteArray} {P : ParD} {w w' : World} {e : Ending} {v : Value} (h : okP s P = true) (he : e = .returned (.tuple #[.agg (pcells P v), .bool true])) (hv : W.Sl w' v P.ws w.heap.size) (hb : Below w.heap.size w w') : RdPost s P w e w' := by
  have hz : ansP s P = P := if_pos h
  exact ⟨v, by rw [hz, h, he], by rw [hz]; exact hv, hb⟩
theorem l7AtE (g cap : Nat) (xs : List (List UInt8)) (k : Nat) (x : ByteArray) (hx : wd (atL xs k) = x) (w : World) (hk : k ≤ 10) (hl : xs.length ≤ 1048577) (hc : ∀ (j : Nat) x, xs[j]? = some x → w.cell? ⟨g, j, none⟩ = some (.string (wd x))) :
    Calls Tryz.prog 10 #[.slice (some ⟨g, 0, none⟩) xs.length cap, .int .i64 k] w fun e w' => e = .returned (.string x) ∧ w' = w := by subst hx; exact l7At_any g cap xs k w hk hl hc
theorem l7NumE (x : ByteArray) (n : Int) (hn : numS x = n) (w : World) (hx : x.size ≤ 1048576) :
    Calls Tryz.prog 11 #[.string x] w fun e w' => e = .returned (.int .i64 n) ∧ Below w.heap.size w w' := by subst hn; exact l7Number_any x w hx
theorem l7CutE (s : ByteArray) (l : List UInt8) (hl : s.data.toList = l) (bb : UInt8) (nb : Int) (hnb : nb = (bb.toNat : Int)) (w : World) (hs : l.length ≤ 1048576) (L : List (List UInt8)) (hL : cutL bb l = L) :
    Calls Tryz.prog 9 #[.string s, .int .u8 nb] w fun e w' => (∃ g cap, e = .returned (.slice (some ⟨g, 0, none⟩) L.length cap) ∧ L.length ≤ cap ∧ g < w'.heap.size ∧ ∀ (j : Nat) x, L[j]? = some x → w'.cell? ⟨g, j, none⟩ = some (.string (wd x))) ∧ Below w.heap.size w w' := by
  subst hl hL
  exact l7Cut_any s bb nb hnb w (by rw [size_data]; exact hs)
theorem Rd.grow {W2 y y' : World} {O : Array Value} {row : Option Nat} (h : Rd W2 O y) (hg : y.grownBy y' row) (hr : ∀ g, row = some g → W2.heap.size < g) : Rd W2 O y' := by
  have hne : ∀ k, k ≤ W2.heap.size → some k ≠ row := fun k hk e => by
    have := hr k e.symm
    omega
  have hf := h.f
  refine ⟨fun k => ?_, fun k => ?_, ⟨hg.os.trans h.e.os, hg.tape.trans h.e.tape, hg.output.trans h.e.output, Nat.le_trans h.e.size hg.size, fun k hk => (hg.block k (by omega) (hne k (by omega))).trans (h.e.block k hk)⟩, Nat.lt_of_lt_of_le hf hg.size⟩
  · rw [← h.b k]
    exact World.cell?_of_block (w := y) (a := ⟨W2.heap.size, k, none⟩) (hg.block _ hf (hne _ (Nat.le_refl _)))
  · rw [← h.c k]
    exact World.frozen?_of_block (w := y) (a := ⟨W2.heap.size, k, none⟩) (hg.block _ hf (hne _ (Nat.le_refl _)))
theorem wantS_fits {l : List UInt8} (h : l.length ≤ 1048576) : (wantS l).fits := by
  have h1 := Nat.le_trans (atL_len 32 l 1) h
  have h3 := Nat.le_trans (atL_len 32 l 3) h
  refine ⟨?_, ?_⟩
  · show (wd (atL (cutL 32 l) 1)).size ≤ maxLen
    rw [wd_size]; unfold maxLen; omega
  · show (holdR (wd (atL (cutL 32 l) 3))).size ≤ maxLen
    refine Nat.le_trans (holdR_size _) ?_
    rw [wd_size]; unfold maxLen; omega
theorem word_full {s : ByteArray} {x : List UInt8} (h : atL (cutL 32 (atL (cutL 10 s.data.toList) 0)) 0 = x) (hx : x ≠ []) : s.toList.isEmpty = false := by
  cases hh : s.toList.isEmpty with
  | false => rfl
  | true =>
    rw [ByteArray.toList_eq] at hh
    rw [List.isEmpty_iff.1 hh] at h
    exact absurd h.symm hx
theorem Sl_lowS {w : World} {v : Value} {l : List W.WantD} {B B' : Nat} (h : W.Sl w v l B) (hB : B' ≤ B) : W.Sl w v l B' := by
  rcases h with h | ⟨g, cap, h1, h2, h3⟩
  · exact Or.inl h
  · exact Or.inr ⟨g, cap, h1, Nat.le_trans hB h2, h3⟩
end Go.Proofs.YtkkcfofhhgmbaaaGreatDoor
/- The program takes lines and words off a text. -/
namespace Go.Proofs.YtkkcfofhhgmbaaaGreatDoor
open Go.RowKit
set_option linter.unusedVariables false

/-- What the library's functions ask of its own variables. -/
structure Env (w : World) : Prop where
  e0 : ∃ ev, w.cell? ⟨0, 0, none⟩ = some ev ∧ (ev = .nilIface ∨ ∃ te pe, ev = .iface te pe)
  e1 : ∃ ev, w.cell? ⟨1, 0, none⟩ = some ev ∧ (ev = .nilIface ∨ ∃ te pe, ev = .iface te pe)
  e2 : ∃ m, w.cell? ⟨2, 0, none⟩ = some (.int .i64 m)
  tab : Tab w
  z : 2 < w.heap.size
theorem Env.keep {w w' : World} (h : Env w) (hb : Below w.heap.size w w') : Env w' := by
  have hz := h.z
  refine ⟨?_, ?_, ?_, h.tab.keep hb, Nat.lt_of_lt_of_le hz hb.size⟩
  · obtain ⟨ev, h1, h2⟩ := h.e0
    exact ⟨ev, (hb.cell (p := ⟨0, 0, none⟩) (by show 0 < _; omega)).trans h1, h2⟩
  · obtain ⟨ev, h1, h2⟩ := h.e1
    exact ⟨ev, (hb.cell (p := ⟨1, 0, none⟩) (by show 1 < _; omega)).trans h1, h2⟩
  · obtain ⟨m, h1⟩ := h.e2
    exact ⟨m, (hb.cell (p := ⟨2, 0, none⟩) (by show 2 < _; omega)).trans h1⟩
/-- A text that is read stands in a block of its own. -/
structure Sp (b : Nat) (r : List UInt8) (w : World) : Prop where
  c : w.cell? ⟨b, 0, none⟩ = some (.string (wd r))
  f : w.frozen? ⟨b, 0, none⟩ = false
  z : b < w.heap.size
  l : r.length ≤ 1048576
theorem Sp.keep {b : Nat} {r : List UInt8} {w w' : World} (h : Sp b r w) (hb : Below w.heap.size w w') : Sp b r w' :=
  ⟨(hb.cell (p := ⟨b, 0, none⟩) h.z).trans h.c, (hb.frozen (p := ⟨b, 0, none⟩) h.z).trans h.f, Nat.lt_of_lt_of_le h.z hb.size, h.l⟩
theorem Sp.drew {b : Nat} {r : List UInt8} {w : World} (h : Sp b r w) (n : Nat) : Sp b r (w.drewN n) := ⟨h.c, h.f, h.z, h.l⟩
theorem Sp.put {b : Nat} {r q : List UInt8} {w : World} (h : Sp b r w) (hq : q.length ≤ 1048576) : Sp b q (w.setCell ⟨b, 0, none⟩ (.string (wd q))) :=
  ⟨World.cell?_setCell_same _ _ _ h.c, by rw [World.frozen?_setCell]; exact h.f, by have := h.z; simpa using this, hq⟩
theorem cut_len (r : List UInt8) (sep : List UInt8) : (Lib.cut r sep).1.length ≤ r.length ∧ (Lib.cut r sep).2.1.length ≤ r.length := by
  unfold Lib.cut
  split
  · constructor
    · exact List.length_take_le' ..
    · simp
  · simp
theorem nxS_len (r : List UInt8) : (nxS r).1.length ≤ r.length ∧ (nxS r).2.length ≤ r.length := cut_len r [32]
theorem nxE_len (r : List UInt8) : (nxE r).1.length ≤ r.length ∧ (nxE r).2.length ≤ r.length := by
  unfold nxE
  split
  · exact cut_len r [10]
  · simp
theorem nxW_len (l : List UInt8) : ∀ n, (nxW l n).length ≤ l.length
  | 0 => Nat.le_refl _
  | n + 1 => Nat.le_trans (nxS_len _).2 (nxW_len l n)
theorem wdI_size (l : List UInt8) (n : Nat) : (wdI l n).size ≤ l.length := by
  unfold wdI
  rw [size_data, wd_list]
  exact Nat.le_trans (nxS_len _).1 (nxW_len l n)
theorem cut_call (r : List UInt8) (sep : ByteArray) (w : World) (hE : Env w) (hl : r.length ≤ 1048576) :
    Calls Tryz.prog 120 #[.string (wd r), .string sep] w fun e w' => e = .returned (.tuple #[.string (wd (Lib.cut r sep.data.toList).1), .string (wd (Lib.cut r sep.data.toList).2.1), .bool (Lib.cut r sep.data.toList).2.2]) ∧ ∃ n, w' = w.drewN n := by
  obtain ⟨m, hm⟩ := hE.e2
  have hz : (wd r).size < 4294967281 := by rw [size_data, wd_list]; omega
  refine (Tryz.strings_Cut (wd r) sep m w hz hm).mono ?_
  rintro e w' ⟨rfl, n, rfl⟩
  refine ⟨?_, n, rfl⟩
  rw [wd_list]
  rfl
set_option maxRecDepth 4000 in
set_option maxHeartbeats 1000000 in
theorem spacedNext (b : Nat) (r : List UInt8) (w : World) (hS : Sp b r w) (hE : Env w) :
    Calls Tryz.prog 129 #[.pointer (some ⟨b, 0, none⟩)] w fun e w' => e = .returned (.string (wd (nxS r).1)) ∧ Sp b (nxS r).2 w' ∧ Ex b w w' := by
  have HS : Hid (Sp b r w) := hS
  have HE : Hid (Env w) := hE
  have c0 := hS.c
  have f0 := hS.f
  have z0 := hS.z
  obtain ⟨A, hA⟩ : ∃ A, A = wd (nxS r).1 := ⟨_, rfl⟩
  obtain ⟨B, hB⟩ : ∃ B, B = wd (nxS r).2 := ⟨_, rfl⟩
  obtain ⟨R, hR⟩ : ∃ R, R = wd r := ⟨_, rfl⟩
  have HA : Hid (A = wd (nxS r).1) := hA
  have HB : Hid (B = wd (nxS r).2) := hB
  have HR : Hid (R = wd r) := hR
  rw [← hR] at c0
  rw [← hA]
  clear hA hB hR hS hE
  go_enter Tryz.func129, Tryz.ntmps129
  go_wp2_with (go_at_call 120; rw [HR.out]; refine (cut_call r { data := #[32] } _ HE.out HS.out.l).mono ?_; rintro e w' ⟨rfl, n, rfl⟩; rw [show wd (Lib.cut r ({ data := #[32] } : ByteArray).data.toList).1 = A from HA.out.symm, show wd (Lib.cut r ({ data := #[32] } : ByteArray).data.toList).2.1 = B from HB.out.symm])
  go_ret
  exact ⟨rfl, by rw [HB.out]; exact (Sp.drew HS.out n).put (Nat.le_trans (nxS_len r).2 HS.out.l), ((Ex.refl b w).drewN n).set 0 _⟩
set_option maxHeartbeats 1000000 in
theorem endedNext (b : Nat) (r : List UInt8) (w : World) (hS : Sp b r w) (hE : Env w) :
    Calls Tryz.prog 119 #[.pointer (some ⟨b, 0, none⟩)] w fun e w' => e = .returned (.string (wd (nxE r).1)) ∧ Sp b (nxE r).2 w' ∧ Ex b w w' := by
  have HS : Hid (Sp b r w) := hS
  have HE : Hid (Env w) := hE
  have c0 := hS.c
  have f0 := hS.f
  have z0 := hS.z
  obtain ⟨R, hR⟩ : ∃ R, R = wd r := ⟨_, rfl⟩
  have HR : Hid (R = wd r) := hR
  rw [← hR] at c0
  clear hR hS hE
  cases hq : (Lib.cut r [10]).2.2
  · have e1 : nxE r = ([], r) := by unfold nxE; rw [if_neg (by rw [hq]; simp)]
    rw [e1]
    have HQ : Hid ((Lib.cut r [10]).2.2 = false) := hq
    clear hq e1
    go_enter Tryz.func119, Tryz.ntmps119
    go_wp2_with (go_at_call 120; rw [HR.out]; refine (cut_call r { data := #[10] } _ HE.out HS.out.l).mono ?_; rintro e w' ⟨rfl, n, rfl⟩; rw [show (Lib.cut r ({ data := #[10] } : ByteArray).data.toList).2.2 = false from HQ.out])
    go_ret
    exact ⟨rfl, Sp.drew HS.out n, (Ex.refl b w).drewN n⟩
  · have e1 : nxE r = ((Lib.cut r [10]).1, (Lib.cut r [10]).2.1) := by unfold nxE; rw [if_pos hq]
    have hl := (nxE_len r).2
    rw [e1] at hl ⊢
    have HQ : Hid ((Lib.cut r [10]).2.2 = true) := hq
    have HLn : Hid ((Lib.cut r [10]).2.1.length ≤ r.length) := hl
    obtain ⟨A, hA⟩ : ∃ A, A = wd (Lib.cut r [10]).1 := ⟨_, rfl⟩
    obtain ⟨B, hB⟩ : ∃ B, B = wd (Lib.cut r [10]).2.1 := ⟨_, rfl⟩
    have HA : Hid (A = wd (Lib.cut r [10]).1) := hA
    have HB : Hid (B = wd (Lib.cut r [10]).2.1) := hB
    rw [← hA]
    clear hq e1 hA hB hl
    go_enter Tryz.func119, Tryz.ntmps119
    go_wp2_with (go_at_call 120; rw [HR.out]; refine (cut_call r { data := #[10] } _ HE.out HS.out.l).mono ?_; rintro e w' ⟨rfl, n, rfl⟩; rw [show (Lib.cut r ({ data := #[10] } : ByteArray).data.toList).2.2 = true from HQ.out, show wd (Lib.cut r ({ data := #[10] } : ByteArray).data.toList).1 = A from HA.out.symm, show wd (Lib.cut r ({ data := #[10] } : ByteArray).data.toList).2.1 = B from HB.out.symm])
    go_ret
    exact ⟨rfl, by rw [HB.out]; exact (Sp.drew HS.out n).put (Nat.le_trans HLn.out HS.out.l), ((Ex.refl b w).drewN n).set 0 _⟩
theorem atoi_call (x : ByteArray) (w : World) (hE : Env w) (hl : x.size ≤ 1048576) :
    Calls Tryz.prog 40 #[.string x] w fun e w' => (∃ ev, e = .returned (.tuple #[.int .i64 (numI x), ev])) ∧ Below w.heap.size w w' := by
  cases h : Lib.atoiAll x.data.toList with
  | ok v =>
    have e1 : numI x = v := by unfold numI; rw [h]
    rw [e1]
    refine (Tryz.strconv_Atoi_ok x (by omega) v h w).mono ?_
    rintro e w' ⟨rfl, rfl | ⟨t, rfl⟩⟩
    · exact ⟨⟨_, rfl⟩, Below.refl _ _⟩
    · exact ⟨⟨_, rfl⟩, Go.Joins.below_bytesWorld _ _ _ _ (Nat.le_refl _)⟩
  | «syntax» =>
    have e1 : numI x = 0 := by unfold numI; rw [h]
    rw [e1]
    obtain ⟨ev, h1, h2⟩ := hE.e0
    refine (Tryz.strconv_Atoi_syntax x (by omega) h ev w h1 h2).mono ?_
    rintro e w' ⟨N, rfl, -, -, hb⟩
    exact ⟨⟨_, rfl⟩, hb⟩
  | range =>
    have e1 : numI x = Lib.atoiSat x.data.toList := by unfold numI; rw [h]
    rw [e1]
    obtain ⟨ev, h1, h2⟩ := hE.e1
    refine (Tryz.strconv_Atoi_range x (by omega) h ev w h1 h2).mono ?_
    rintro e w' ⟨N, rfl, -, -, hb⟩
    exact ⟨⟨_, rfl⟩, hb⟩
theorem Ex.env {b : Nat} {w w' : World} (h : Ex b w w') (hE : Env w) (hb : 2 < b) (ht : Tab w') : Env w' := by
  have hz := hE.z
  refine ⟨?_, ?_, ?_, ht, Nat.lt_of_lt_of_le hz h.size⟩
  · obtain ⟨ev, h1, h2⟩ := hE.e0
    exact ⟨ev, (h.cell (p := ⟨0, 0, none⟩) (by show 0 < _; omega) (by show 0 ≠ _; omega)).trans h1, h2⟩
  · obtain ⟨ev, h1, h2⟩ := hE.e1
    exact ⟨ev, (h.cell (p := ⟨1, 0, none⟩) (by show 1 < _; omega) (by show 1 ≠ _; omega)).trans h1, h2⟩
  · obtain ⟨m, h1⟩ := hE.e2
    exact ⟨m, (h.cell (p := ⟨2, 0, none⟩) (by show 2 < _; omega) (by show 2 ≠ _; omega)).trans h1⟩
theorem meth_spaced (v : Value) (y : World) : Sem.run Tryz.prog (method 243 49 v "loop.example/wharfmate/impl.next") y = .ok (129, v) y := by kernel_rfl
theorem meth_ended (v : Value) (y : World) : Sem.run Tryz.prog (method 243 38 v "loop.example/wharfmate/impl.next") y = .ok (119, v) y := by kernel_rfl
/-- Words are taken off a line that stands in block b, in worlds behind W. -/
structure At (W : World) (b : Nat) (l : List UInt8) (n : Nat) (y : World) : Prop where
  s : Sp b (nxW l n) y
  e : Below W.heap.size W y
  w : W.heap.size ≤ b
theorem At.env {W : World} {b : Nat} {l : List UInt8} {n : Nat} {y : World} (h : At W b l n y) (hE : Env W) : Env y := hE.keep h.e
theorem At.next {W : World} {b : Nat} {l : List UInt8} {n : Nat} {y y' : World} (h : At W b l n y) (hS : Sp b (nxS (nxW l n)).2 y') (hx : Ex b y y') : At W b l (n + 1) y' :=
  ⟨hS, h.e.trans (hx.below h.w h.e.size), h.w⟩
theorem At.keep {W : World} {b : Nat} {l : List UInt8} {n : Nat} {y y' : World} (h : At W b l n y) (hb : Below y.heap.size y y') : At W b l n y' := ⟨h.s.keep hb, bl_trans h.e hb, h.w⟩
theorem nextAt {W : World} {b : Nat} {l : List UInt8} {n : Nat} {y : World} (h : At W b l n y) (hE : Env W) :
    Calls Tryz.prog 129 #[.pointer (some ⟨b, 0, none⟩)] y fun e y' => e = .returned (.string (wdI l n)) ∧ At W b l (n + 1) y' ∧ Ex b y y' := by
  refine (spacedNext b (nxW l n) y h.s (h.env hE)).mono ?_
  rintro e y' ⟨rfl, h1, h2⟩
  exact ⟨rfl, h.next h1 h2, h2⟩
set_option maxRecDepth 4000 in
set_option maxHeartbeats 1000000 in
theorem numberAt {W : World} {b : Nat} {l : List UInt8} {n : Nat} {y : World} (h : At W b l n y) (hE : Env W) (hl : l.length ≤ 1048576) :
    Calls Tryz.prog 34 #[.iface 49 (.pointer (some ⟨b, 0, none⟩))] y fun e y' => e = .returned (.int .i64 (numI (wdI l n))) ∧ At W b l (n + 1) y' ∧ Ex b y y' := by
  have H : Hid (At W b l n y) := h
  have HE : Hid (Env W) := hE
  have HZ : Hid ((wdI l n).size ≤ 1048576) := Nat.le_trans (wdI_size l n) hl
  have hm := meth_spaced
  clear h hE
  go_enter Tryz.func34, Tryz.ntmps34
  go_wp2_with (first | (go_at_call 129; refine (nextAt H.out HE.out).mono ?_; rintro e y1 ⟨rfl, h1, h2⟩; have H1 : Hid (At W b l (n + 1) y1) := h1; have X1 : Hid (Ex b y y1) := h2; clear h1 h2) | (go_at_call 40; refine (atoi_call _ _ (H1.out.env HE.out) HZ.out).mono ?_; rintro e y2 ⟨⟨ev, rfl⟩, b2⟩; have H2 : Hid (At W b l (n + 1) y2) := H1.out.keep b2; have X2 : Hid (Ex b y y2) := X1.out.trans (Ex.of_below b2); clear b2))
  go_ret
  exact ⟨rfl, H2.out, X2.out⟩
end Go.Proofs.YtkkcfofhhgmbaaaGreatDoor
