import Derived.Test.YtgakmkhbnjofhaaGreatDoorJ24
import Derived.Test.YtgakmkhbnjofhaaGreatDoorJ45
import Derived.Test.YtgakmkhbnjofhaaGreatDoorJ06
import Derived.Laws.Tables
import Derived.Test.YtgakmkhbnjofhaaGreatDoorJ14
/- What the specification reads: parcels while they are read. -/
namespace Go.Proofs.YtgakmkhbnjofhaaGreatDoor
open Go.RowKit
set_option linter.unusedVariables false

def pcells (P : ParD) (v : Value) : Array Value := #[.int .i64 P.k, .string P.b, .int .i64 P.se, v, .string P.h, .string P.c, .int .i64 P.t]
def zP : ParD := ⟨0, eT, 0, [], eT, eT, 0⟩
/-- A text is the form of what was read. -/
noncomputable def okP (s : ByteArray) (P : ParD) : Bool := !s.toList.isEmpty && ((formT P).toList == s.toList)
noncomputable def ansP (s : ByteArray) (P : ParD) : ParD := if okP s P = true then P else zP
/-- What a reader answers. -/
def RdPost (s : ByteArray) (P : ParD) (w : World) (e : Ending) (w' : World) : Prop := ∃ v, e = .returned (.tuple #[.agg (pcells (ansP s P) v), .bool (okP s P)]) ∧ W.Sl w' v (ansP s P).ws w.heap.size ∧ Below w.heap.size w w'
theorem eq_list {a b : ByteArray} (h : (a.toList == b.toList) = true) : a = b := by
  have h1 := eq_of_beq h
  rw [ByteArray.toList_eq, ByteArray.toList_eq] at h1
  exact bytes_inj' h1
/-- While a parcel is laid out in a block of its own behind W2. -/
structure Rda (W2 : World) (O : Array Value) (y : World) : Prop where
  b : ∀ k, y.cell? ⟨W2.heap.size, k, none⟩ = O[k]?
  c : ∀ k, y.frozen? ⟨W2.heap.size, k, none⟩ = false
  e : Below W2.heap.size W2 y
  f : W2.heap.size < y.heap.size
theorem Rda.below {W2 y y' : World} {O : Array Value} (h : Rda W2 O y) (hb : Below y.heap.size y y') : Rda W2 O y' :=
  ⟨fun k => (hb.cell (p := ⟨W2.heap.size, k, none⟩) h.f).trans (h.b k), fun k => (hb.frozen (p := ⟨W2.heap.size, k, none⟩) h.f).trans (h.c k), bl_trans h.e hb, Nat.lt_of_lt_of_le h.f hb.size⟩
theorem Rda.set {W2 y : World} {O : Array Value} (h : Rda W2 O y) (j : Nat) (hj : j < O.size) (u : Value) : Rda W2 (O.setIfInBounds j u) (y.setCell ⟨W2.heap.size, j, none⟩ u) := by
  refine ⟨fun k => ?_, fun k => ?_, bl_set (p := ⟨W2.heap.size, j, none⟩) h.e (Nat.le_refl _) u, by have := h.f; simpa using this⟩
  · by_cases e : k = j
    · subst e
      have h1 := h.b k
      rw [Array.getElem?_eq_getElem hj] at h1
      rw [Array.getElem?_setIfInBounds_self_of_lt hj]
      exact World.cell?_setCell_same _ _ _ h1
    · rw [Array.getElem?_setIfInBounds_ne (fun h' => e h'.symm), ← h.b k]
      exact World.cell?_setCell_other _ _ _ _ (fun h' => e (by have := congrArg Addr.off h'; exact this.symm))
  · rw [World.frozen?_setCell]; exact h.c k
theorem Rda.new (W2 : World) (O : Array Value) (t : TypeId) : Rda W2 O (W2.alloc (.cells O t)) :=
  ⟨fun k => by rw [World.cell?_alloc_new], fun k => by simp [go_sem], bl_alloc (Below.refl _ _) _, by simp⟩
theorem cutL_pos (b : UInt8) (l : List UInt8) : 0 < (cutL b l).length := by
  cases l with
  | nil => simp [cutL]
  | cons x r =>
    rw [cutL]
    split
    · simp
    · cases cutL b r <;> simp
theorem cutL_mem (b : UInt8) : ∀ (l : List UInt8), ∀ x ∈ cutL b l, x.length ≤ l.length
  | [], x, h => by simp [cutL] at h; subst h; simp
  | y :: l, x, h => by
    have ih := cutL_mem b l
    rw [cutL] at h
    split at h
    · rcases List.mem_cons.1 h with rfl | h
      · simp
      · exact Nat.le_trans (ih x h) (by simp)
    · cases hc : cutL b l with
      | nil => rw [hc] at h; simp at h; subst h; simp
      | cons z zs =>
        rw [hc] at h ih
        rcases List.mem_cons.1 h with rfl | h
        · have := ih z (List.mem_cons_self ..); simpa using this
        · exact Nat.le_trans (ih x (List.mem_cons_of_mem _ h)) (by simp)
theorem atL_len (b : UInt8) (l : List UInt8) (k : Nat) : (atL (cutL b l) k).length ≤ l.length := by
  unfold atL
  cases h : (cutL b l)[k]? with
  | none => simp
  | some x => exact cutL_mem b l x (List.mem_of_getElem? h)
theorem wd_size (l : List UInt8) : (wd l).size = l.length := by rw [size_data, wd_list]
theorem at0 {b : UInt8} {l : List UInt8} : (cutL b l)[0]? = some (atL (cutL b l) 0) := by
  unfold atL
  rw [List.getElem?_eq_getElem (cutL_pos b l)]
  rfl
theorem holdR_size (x : ByteArray) : (holdR x).size ≤ x.size := by
  unfold holdR
  split
  · exact Nat.zero_le _
  · exact Nat.le_refl _
/-- The block of the answer, behind the calls. -/
theorem ans_set {w y : World} {cs old : Array Value} {t : TypeId} (h : y.heap[w.heap.size]? = some (.cells old t (0, 0))) (hb : Below w.heap.size w y) :
    Hid (∀ j, (y.setRow w.heap.size cs).cell? ⟨w.heap.size, j, none⟩ = cs[j]?) ∧ Hid (Below w.heap.size w (y.setRow w.heap.size cs)) ∧ Hid (y.grownBy (y.setRow w.heap.size cs) (some w.heap.size)) := by
  have h1 := setRow_heap y w.heap.size old cs t _ h
  have hg : y.grownBy (y.setRow w.heap.size cs) (some w.heap.size) := ⟨rfl, rfl, rfl, by simp, fun k _ hk => setRow_other y w.heap.size k _ (fun e => hk (by simp [e]))⟩
  refine ⟨fun j => ?_, ?_, hg⟩
  · show _ = _
    rw [cell_of_row _ _ j cs t (0, 0) h1]
  · show Below _ _ _
    exact Below.grown (row := some w.heap.size) hb hg hb.size (fun k hk => by cases hk; exact Nat.le_refl _)
theorem sl_ws {w : World} {v : Value} {l : List W.WantD} {B : Nat} (h : W.Sl w v l B) (hc : ∀ g n c, v = .slice (some ⟨g, 0, none⟩) n c → n ≤ c) : WsIn w v l := by
  rcases h with ⟨rfl, rfl⟩ | ⟨g, cap, rfl, h1, h2, h3, h4⟩
  · exact Or.inl ⟨none, 0, rfl, rfl⟩
  · exact Or.inr ⟨g, cap, rfl, hc _ _ _ rfl, h3, h2⟩
theorem okP_no {s : ByteArray} {P : ParD} (h : s.toList.isEmpty = true) : okP s P = false := by simp [okP, h]
theorem okP_ne {s : ByteArray} {P : ParD} (h : ((formT P).toList == s.toList) = false) : okP s P = false := by simp [okP, h]
theorem okP_yes {s : ByteArray} {P : ParD} (h0 : s.toList.isEmpty = false) (h : ((formT P).toList == s.toList) = true) : okP s P = true := by simp only [okP, h0, h]; rfl
theorem post_no {s : ByteArray} {P : ParD} {w w' : World} {e : Ending} (h : okP s P = false) (he : e = .returned (.tuple #[.agg #[.int .i64 0, .string { data := #[] }, .int .i64 0, .slice none 0 0, .string { data := #[] }, .string { data := #[] }, .int .i64 0], .bool false])) (hb : Below w.heap.size w w') : RdPost s P w e w' := by
  have hz : ansP s P = zP := if_neg (by rw [h]; simp)
  exact ⟨.slice none 0 0, by rw [hz, h, he]; rfl, by rw [hz]; exact Or.inl ⟨rfl, rfl⟩, hb⟩
theorem post_yes {s : ByteArray} {P : ParD} {w w' : World} {e : Ending} {v : Value} (h : okP s P = true) (he : e = .returned (.tuple #[.agg (pcells P v), .bool true])) (hv : W.Sl w' v P.ws w.heap.size) (hb : Below w.heap.size w w') : RdPost s P w e w' := by
  have hz : ansP s P = P := if_pos h
  exact ⟨v, by rw [hz, h, he], by rw [hz]; exact hv, hb⟩
theorem l7AtE (g cap : Nat) (xs : List (List UInt8)) (k : Nat) (x : ByteArray) (hx : wd (atL xs k) = x) (w : World) (hk : k ≤ 10) (hl : xs.length ≤ 1048577) (hc : ∀ (j : Nat) x, xs[j]? = some x → w.cell? ⟨g, j, none⟩ = some (.string (wd x))) :
    Calls Tryz.prog 33 #[.slice (some ⟨g, 0, none⟩) xs.length cap, .int .i64 k] w fun e w' => e = .returned (.string x) ∧ w' = w := by subst hx; exact l7At_any g cap xs k w hk hl hc
theorem l7NumE (x : ByteArray) (n : Int) (hn : numS x = n) (w : World) (hx : x.size ≤ 1048576) :
    Calls Tryz.prog 34 #[.string x] w fun e w' => e = .returned (.int .i64 n) ∧ Below w.heap.size w w' := by subst hn; exact l7Number_any x w hx
theorem l7CutE (s : ByteArray) (l : List UInt8) (hl : s.data.toList = l) (bb : UInt8) (nb : Int) (hnb : nb = (bb.toNat : Int)) (w : World) (hs : l.length ≤ 1048576) (L : List (List UInt8)) (hL : cutL bb l = L) :
    Calls Tryz.prog 32 #[.string s, .int .u8 nb] w fun e w' => (∃ g cap, e = .returned (.slice (some ⟨g, 0, none⟩) L.length cap) ∧ L.length ≤ cap ∧ g < w'.heap.size ∧ ∀ (j : Nat) x, L[j]? = some x → w'.cell? ⟨g, j, none⟩ = some (.string (wd x))) ∧ Below w.heap.size w w' := by
  subst hl hL
  exact l7Cut_any s bb nb hnb w (by rw [size_data]; exact hs)
theorem Rda.grow {W2 y y' : World} {O : Array Value} {row : Option Nat} (h : Rda W2 O y) (hg : y.grownBy y' row) (hr : ∀ g, row = some g → W2.heap.size < g) : Rda W2 O y' := by
  have hne : ∀ k, k ≤ W2.heap.size → some k ≠ row := fun k hk e => by
    have := hr k e.symm
    omega
  have hf := h.f
  refine ⟨fun k => ?_, fun k => ?_, ⟨hg.os.trans h.e.os, hg.tape.trans h.e.tape, hg.output.trans h.e.output, Nat.le_trans h.e.size hg.size, fun k hk => (hg.block k (by omega) (hne k (by omega))).trans (h.e.block k hk)⟩, Nat.lt_of_lt_of_le hf hg.size⟩
  · rw [← h.b k]
    exact World.cell?_of_block (w := y) (a := ⟨W2.heap.size, k, none⟩) (hg.block _ hf (hne _ (Nat.le_refl _)))
  · rw [← h.c k]
    exact World.frozen?_of_block (w := y) (a := ⟨W2.heap.size, k, none⟩) (hg.block _ hf (hne _ (Nat.le_refl _)))
theorem wantS_fits {l : List UInt8} (h : l.length ≤ 1048576) : (wantS l).fits := by
  have h1 := Nat.le_trans (atL_len 32 l 1) h
  have h3 := Nat.le_trans (atL_len 32 l 3) h
  refine ⟨?_, ?_⟩
  · show (wd (atL (cutL 32 l) 1)).size ≤ maxLen
    rw [wd_size]; unfold maxLen; omega
  · show (holdR (wd (atL (cutL 32 l) 3))).size ≤ maxLen
    refine Nat.le_trans (holdR_size _) ?_
    rw [wd_size]; unfold maxLen; omega
theorem word_full {s : ByteArray} {x : List UInt8} (h : atL (cutL 32 (atL (cutL 10 s.data.toList) 0)) 0 = x) (hx : x ≠ []) : s.toList.isEmpty = false := by
  cases hh : s.toList.isEmpty with
  | false => rfl
  | true =>
    rw [ByteArray.toList_eq] at hh
    rw [List.isEmpty_iff.1 hh] at h
    exact absurd h.symm hx
theorem Sl_lowS {w : World} {v : Value} {l : List W.WantD} {B B' : Nat} (h : W.Sl w v l B) (hB : B' ≤ B) : W.Sl w v l B' := by
  rcases h with h | ⟨g, cap, h1, h2, h3⟩
  · exact Or.inl h
  · exact Or.inr ⟨g, cap, h1, Nat.le_trans hB h2, h3⟩
end Go.Proofs.YtgakmkhbnjofhaaGreatDoor
/- A parcel is drawn. -/
namespace Go.Proofs.YtgakmkhbnjofhaaGreatDoor
open Go.RowKit
set_option linter.unusedVariables false

theorem Rq.ex {w w' : World} {kr k : Nat} {q : Int} (h : Rq w kr q) (he : Ex k w w') (hk : kr < k) : Rq w' kr q := h.grown (ex_grown he) (fun k' e => by cases e; exact hk)
theorem W.Ow.ex {w w' : World} {v : Value} {l : List W.WantD} {B k : Nat} (h : W.Ow w v l B) (he : Ex k w w') (hk : k < B) : W.Ow w' v l B := by
  refine W.Ow.grown h (ex_grown he) ?_
  cases hv : v.ownBlock with
  | none => exact Or.inl rfl
  | some g => exact Or.inr (fun e => by have := (h.lt g hv).1; have e2 := Option.some.inj e; omega)
theorem W.Ow.ws {w : World} {v : Value} {l : List W.WantD} {B : Nat} (h : W.Ow w v l B) : WsIn w v l := by
  obtain ⟨hl, ⟨rfl, hn⟩ | ⟨g, cap, cur, rfl, hb, hg, hnc, hcm, hcs, htk⟩⟩ := id h
  · exact Or.inl ⟨none, 0, rfl, List.length_eq_zero_iff.1 hn⟩
  · rcases W.Ow.sl h with ⟨h1, h2⟩ | ⟨g', cap', h1, h2, h3, h4, h5⟩
    · cases h1
    · cases h1
      exact Or.inr ⟨_, _, rfl, hnc, h4, h3⟩
/-- What is known of a parcel that was drawn. -/
structure Pq (P : ParD) : Prop where
  b : P.b.size ≤ 20
  h : P.h.size ≤ 20
  c : P.c.size ≤ 20
  l : P.ws.length ≤ 5
  f : ∀ r ∈ P.ws, r.fits
theorem Pq.sz {P : ParD} (h : Pq P) : ParSz P := ⟨by have := h.b; omega, by have := h.h; omega, by have := h.c; omega, by have := h.l; omega⟩
theorem there7p (w : World) (t : TypeId) : (w.alloc (.cells #[.int .i64 0, .string { data := #[] }, .int .i64 0, .slice none 0 0, .string { data := #[] }, .string { data := #[] }, .int .i64 0] t)).there w.heap.size 0 7 :=
  fun j hj => ⟨by simp [go_sem]; omega, by simp [go_sem]⟩
theorem cells7q {wx : World} {k : Nat} {v0 v1 v2 v3 v4 v5 v6 : Value} (h : wx.rangeAt k 0 [v0, v1, v2, v3, v4, v5, v6]) : wx.cell? ⟨k, 0, none⟩ = some v0 ∧ wx.cell? ⟨k, 1, none⟩ = some v1 ∧ wx.cell? ⟨k, 2, none⟩ = some v2 ∧ wx.cell? ⟨k, 3, none⟩ = some v3 ∧ wx.cell? ⟨k, 4, none⟩ = some v4 ∧ wx.cell? ⟨k, 5, none⟩ = some v5 ∧ wx.cell? ⟨k, 6, none⟩ = some v6 :=
  ⟨by simpa using h 0 _ rfl, by simpa using h 1 _ rfl, by simpa using h 2 _ rfl, by simpa using h 3 _ rfl, by simpa using h 4 _ rfl, by simpa using h 5 _ rfl, by simpa using h 6 _ rfl⟩
/-- The answer is laid into its block. -/
theorem lay7 {kr : Nat} {q : Int} {w y : World} {C : List Value} (hT : y.there w.heap.size 0 7) (hE : Ex kr w y) (hR : Rq y kr q) (hk : kr < w.heap.size) :
    Hid (Ex kr w (World.setCells y w.heap.size 0 C)) ∧ Hid (Rq (World.setCells y w.heap.size 0 C) kr q) ∧ Hid (Ex w.heap.size y (World.setCells y w.heap.size 0 C)) := by
  have hx1 : Ex w.heap.size y (World.setCells y w.heap.size 0 C) := (Ex.refl _ _).cells _ _
  exact ⟨Ex.other hE hx1 (Nat.le_refl _), hR.ex hx1 hk, hx1⟩

set_option maxRecDepth 4000 in
set_option maxHeartbeats 4000000 in
theorem parcelQ (kr : Nat) (q : Int) (w : World) (hr : Rq w kr q) (hq : q < 600000) :
    Calls Tryz.prog 18 #[.pointer (some ⟨kr, 0, none⟩)] w fun e w' => ∃ (P : ParD) (a : Option Addr) (n : Nat), e = .returned (.agg #[.int .i64 P.k, .string P.b, .int .i64 P.se, .slice a P.ws.length n, .string P.h, .string P.c, .int .i64 P.t]) ∧ W.Ow w' (.slice a P.ws.length n) P.ws w.heap.size ∧ Pq P ∧ P.ws.length ≤ 4 ∧ Rq w' kr (q + 200) ∧ Ex kr w w' := by
  have hkr := hr.lt
  have hinfo : (Tryz.prog.info? 25).map (·.size) = some 7 := by kernel_rfl
  go_enter Tryz.func18, Tryz.ntmps18
  go_wp2_with fail
  have hb0 : Below w.heap.size w (w.alloc (.cells #[.int .i64 0, .string { data := #[] }, .int .i64 0, .slice none 0 0, .string { data := #[] }, .string { data := #[] }, .int .i64 0] 25)) := bl_alloc (Below.refl _ _) _
  refine (pickQ kr q 6 _ (hr.below hb0) (by omega) (by omega) (by omega)).mono ?_
  rintro e w1 ⟨m1, rfl, m10, m11, r1, e1⟩
  have z1 : w.heap.size < w1.heap.size := Nat.lt_of_lt_of_le (by simp) e1.size
  have T1 : Hid (w1.there w.heap.size 0 7) := there_ex (there7p w 25) (by simp) e1 (by omega)
  have E1 : Hid (Ex kr w w1) := (Ex.of_below hb0).trans e1
  have R1 : Hid (Rq w1 kr (q + 1)) := r1
  clear e1 hb0 r1 hr
  rcases (by omega : m1 = 0 ∨ m1 = 1 ∨ m1 = 2 ∨ m1 = 3 ∨ m1 = 4 ∨ m1 = 5) with hm | hm | hm | hm | hm | hm
  · obtain rfl : m1 = 0 := by omega
    clear hm m10 m11
    go_wp2_with fail
    refine (pickQ kr _ 9 _ R1.out (by omega) (by omega) (by omega)).mono ?_
    rintro e w2 ⟨m2, rfl, m20, m21, r2, e2⟩
    have z2 : w1.heap.size ≤ w2.heap.size := e2.size
    have T2 : Hid (w2.there w.heap.size 0 7) := there_ex T1.out (by omega) e2 (by omega)
    have E2 : Hid (Ex kr w w2) := E1.out.trans e2
    have R2 : Hid (Rq w2 kr (q + 2)) := r2.up (by omega)
    clear e2 r2
    go_wp2_with fail
    refine (wantsQ kr _ _ R2.out (by omega)).mono ?_
    rintro e w3 ⟨ws, v, rfl, o3, l3, f3, r3, e3⟩
    obtain ⟨aa, pp, rfl⟩ := W.Ow.shape (W.Ow.of_owns o3)
    have z3 : w2.heap.size ≤ w3.heap.size := e3.size
    have T3 : Hid (w3.there w.heap.size 0 7) := there_ex T2.out (by omega) e3 (by omega)
    have E3 : Hid (Ex kr w w3) := E2.out.trans e3
    have R3 : Hid (Rq w3 kr (q + 102)) := r3.up (by omega)
    have O3 : Hid (W.Ow w3 (.slice aa ws.length pp) ws w2.heap.size) := o3
    have F3 : Hid (∀ x ∈ ws, x.fits) := f3
    clear e3 r3 o3 f3
    go_wp2_with (refine wpList_store_mid (by rfl) 25 _ _ (by rfl) w.heap.size 0 #[.int .i64 1, .string { data := #[97] }, .int .i64 (1 + m2), .slice aa ws.length pp, .string { data := #[] }, .string { data := #[] }, .int .i64 0] (by rfl) (by rfl) (by exact T3.out) hinfo (by simp [Value.oneCell']) ?_)
    obtain ⟨d0, d1, d2, d3, d4, d5, d6⟩ := cells7q (World.rangeAt_setCells_same w3 w.heap.size 0 [.int .i64 1, .string { data := #[97] }, .int .i64 (1 + m2), .slice aa ws.length pp, .string { data := #[] }, .string { data := #[] }, .int .i64 0] (by exact T3.out))
    obtain ⟨X1, X2, X3⟩ := lay7 (C := [.int .i64 1, .string { data := #[97] }, .int .i64 (1 + m2), .slice aa ws.length pp, .string { data := #[] }, .string { data := #[] }, .int .i64 0]) T3.out E3.out R3.out hkr
    exact bodyPost_ret (v := .agg #[.int .i64 1, .string { data := #[97] }, .int .i64 (1 + m2), .slice aa ws.length pp, .string { data := #[] }, .string { data := #[] }, .int .i64 0]) (by simp [results, Tryz.results18, go_sem, d0, d1, d2, d3, d4, d5, d6]) rfl ⟨⟨1, { data := #[97] }, 1 + m2, ws, { data := #[] }, { data := #[] }, 0⟩, _, _, rfl, (O3.out.ex X3.out (by omega)).low (by omega), ⟨by show 1 ≤ 20; omega, Nat.zero_le _, Nat.zero_le _, by show ws.length ≤ 5; omega, F3.out⟩, l3, X2.out.up (by omega), X1.out⟩
  · obtain rfl : m1 = 1 := by omega
    clear hm m10 m11
    go_wp2_with fail
    refine (pickQ kr _ 9 _ R1.out (by omega) (by omega) (by omega)).mono ?_
    rintro e w2 ⟨m2, rfl, m20, m21, r2, e2⟩
    have z2 : w1.heap.size ≤ w2.heap.size := e2.size
    have T2 : Hid (w2.there w.heap.size 0 7) := there_ex T1.out (by omega) e2 (by omega)
    have E2 : Hid (Ex kr w w2) := E1.out.trans e2
    have R2 : Hid (Rq w2 kr (q + 2)) := r2.up (by omega)
    clear e2 r2
    go_wp2_with fail
    refine (wantsQ kr _ _ R2.out (by omega)).mono ?_
    rintro e w3 ⟨ws, v, rfl, o3, l3, f3, r3, e3⟩
    obtain ⟨aa, pp, rfl⟩ := W.Ow.shape (W.Ow.of_owns o3)
    have z3 : w2.heap.size ≤ w3.heap.size := e3.size
    have T3 : Hid (w3.there w.heap.size 0 7) := there_ex T2.out (by omega) e3 (by omega)
    have E3 : Hid (Ex kr w w3) := E2.out.trans e3
    have R3 : Hid (Rq w3 kr (q + 102)) := r3.up (by omega)
    have O3 : Hid (W.Ow w3 (.slice aa ws.length pp) ws w2.heap.size) := o3
    have F3 : Hid (∀ x ∈ ws, x.fits) := f3
    clear e3 r3 o3 f3
    go_wp2_with (refine wpList_store_mid (by rfl) 25 _ _ (by rfl) w.heap.size 0 #[.int .i64 1, .string { data := #[97] }, .int .i64 (1 + m2), .slice aa ws.length pp, .string { data := #[] }, .string { data := #[] }, .int .i64 0] (by rfl) (by rfl) (by exact T3.out) hinfo (by simp [Value.oneCell']) ?_)
    obtain ⟨d0, d1, d2, d3, d4, d5, d6⟩ := cells7q (World.rangeAt_setCells_same w3 w.heap.size 0 [.int .i64 1, .string { data := #[97] }, .int .i64 (1 + m2), .slice aa ws.length pp, .string { data := #[] }, .string { data := #[] }, .int .i64 0] (by exact T3.out))
    obtain ⟨X1, X2, X3⟩ := lay7 (C := [.int .i64 1, .string { data := #[97] }, .int .i64 (1 + m2), .slice aa ws.length pp, .string { data := #[] }, .string { data := #[] }, .int .i64 0]) T3.out E3.out R3.out hkr
    exact bodyPost_ret (v := .agg #[.int .i64 1, .string { data := #[97] }, .int .i64 (1 + m2), .slice aa ws.length pp, .string { data := #[] }, .string { data := #[] }, .int .i64 0]) (by simp [results, Tryz.results18, go_sem, d0, d1, d2, d3, d4, d5, d6]) rfl ⟨⟨1, { data := #[97] }, 1 + m2, ws, { data := #[] }, { data := #[] }, 0⟩, _, _, rfl, (O3.out.ex X3.out (by omega)).low (by omega), ⟨by show 1 ≤ 20; omega, Nat.zero_le _, Nat.zero_le _, by show ws.length ≤ 5; omega, F3.out⟩, l3, X2.out.up (by omega), X1.out⟩
  · obtain rfl : m1 = 2 := by omega
    clear hm m10 m11
    go_wp2_with fail
    refine (pickQ kr _ 99 _ R1.out (by omega) (by omega) (by omega)).mono ?_
    rintro e w2 ⟨m2, rfl, m20, m21, r2, e2⟩
    have z2 : w1.heap.size ≤ w2.heap.size := e2.size
    have T2 : Hid (w2.there w.heap.size 0 7) := there_ex T1.out (by omega) e2 (by omega)
    have E2 : Hid (Ex kr w w2) := E1.out.trans e2
    have R2 : Hid (Rq w2 kr (q + 2)) := r2.up (by omega)
    clear e2 r2
    go_wp2_with (refine wpList_store_mid (by rfl) 25 _ _ (by rfl) w.heap.size 0 #[.int .i64 5, .string { data := #[98] }, .int .i64 0, .slice none 0 0, .string { data := #[118, 111, 108] }, .string { data := #[] }, .int .i64 m2] (by rfl) (by rfl) (by exact T2.out) hinfo (by simp [Value.oneCell']) ?_)
    obtain ⟨d0, d1, d2, d3, d4, d5, d6⟩ := cells7q (World.rangeAt_setCells_same w2 w.heap.size 0 [.int .i64 5, .string { data := #[98] }, .int .i64 0, .slice none 0 0, .string { data := #[118, 111, 108] }, .string { data := #[] }, .int .i64 m2] (by exact T2.out))
    obtain ⟨X1, X2, X3⟩ := lay7 (C := [.int .i64 5, .string { data := #[98] }, .int .i64 0, .slice none 0 0, .string { data := #[118, 111, 108] }, .string { data := #[] }, .int .i64 m2]) T2.out E2.out R2.out hkr
    exact bodyPost_ret (v := .agg #[.int .i64 5, .string { data := #[98] }, .int .i64 0, .slice none 0 0, .string { data := #[118, 111, 108] }, .string { data := #[] }, .int .i64 m2]) (by simp [results, Tryz.results18, go_sem, d0, d1, d2, d3, d4, d5, d6]) rfl ⟨⟨5, { data := #[98] }, 0, [], { data := #[118, 111, 108] }, { data := #[] }, m2⟩, _, _, rfl, W.Ow.nil _ _, ⟨by show 1 ≤ 20; omega, by show 3 ≤ 20; omega, Nat.zero_le _, Nat.zero_le _, (fun r hr => by cases hr)⟩, Nat.zero_le _, X2.out.up (by omega), X1.out⟩
  · obtain rfl : m1 = 3 := by omega
    clear hm m10 m11
    go_wp2_with fail
    refine (pickQ kr _ 9 _ R1.out (by omega) (by omega) (by omega)).mono ?_
    rintro e w2 ⟨m2, rfl, m20, m21, r2, e2⟩
    have z2 : w1.heap.size ≤ w2.heap.size := e2.size
    have T2 : Hid (w2.there w.heap.size 0 7) := there_ex T1.out (by omega) e2 (by omega)
    have E2 : Hid (Ex kr w w2) := E1.out.trans e2
    have R2 : Hid (Rq w2 kr (q + 2)) := r2.up (by omega)
    clear e2 r2
    go_wp2_with (refine wpList_store_mid (by rfl) 25 _ _ (by rfl) w.heap.size 0 #[.int .i64 6, .string { data := #[98] }, .int .i64 m2, .slice none 0 0, .string { data := #[] }, .string { data := #[] }, .int .i64 0] (by rfl) (by rfl) (by exact T2.out) hinfo (by simp [Value.oneCell']) ?_)
    obtain ⟨d0, d1, d2, d3, d4, d5, d6⟩ := cells7q (World.rangeAt_setCells_same w2 w.heap.size 0 [.int .i64 6, .string { data := #[98] }, .int .i64 m2, .slice none 0 0, .string { data := #[] }, .string { data := #[] }, .int .i64 0] (by exact T2.out))
    obtain ⟨X1, X2, X3⟩ := lay7 (C := [.int .i64 6, .string { data := #[98] }, .int .i64 m2, .slice none 0 0, .string { data := #[] }, .string { data := #[] }, .int .i64 0]) T2.out E2.out R2.out hkr
    exact bodyPost_ret (v := .agg #[.int .i64 6, .string { data := #[98] }, .int .i64 m2, .slice none 0 0, .string { data := #[] }, .string { data := #[] }, .int .i64 0]) (by simp [results, Tryz.results18, go_sem, d0, d1, d2, d3, d4, d5, d6]) rfl ⟨⟨6, { data := #[98] }, m2, [], { data := #[] }, { data := #[] }, 0⟩, _, _, rfl, W.Ow.nil _ _, ⟨by show 1 ≤ 20; omega, Nat.zero_le _, Nat.zero_le _, Nat.zero_le _, (fun r hr => by cases hr)⟩, Nat.zero_le _, X2.out.up (by omega), X1.out⟩
  · obtain rfl : m1 = 4 := by omega
    clear hm m10 m11
    go_wp2_with fail
    refine (pickQ kr _ 3 _ R1.out (by omega) (by omega) (by omega)).mono ?_
    rintro e w2 ⟨m2, rfl, m20, m21, r2, e2⟩
    have z2 : w1.heap.size ≤ w2.heap.size := e2.size
    have T2 : Hid (w2.there w.heap.size 0 7) := there_ex T1.out (by omega) e2 (by omega)
    have E2 : Hid (Ex kr w w2) := E1.out.trans e2
    have R2 : Hid (Rq w2 kr (q + 2)) := r2.up (by omega)
    clear e2 r2
    go_wp2_with fail
    refine (pickQ kr _ 99 _ R2.out (by omega) (by omega) (by omega)).mono ?_
    rintro e w3 ⟨m3, rfl, m30, m31, r3, e3⟩
    have z3 : w2.heap.size ≤ w3.heap.size := e3.size
    have T3 : Hid (w3.there w.heap.size 0 7) := there_ex T2.out (by omega) e3 (by omega)
    have E3 : Hid (Ex kr w w3) := E2.out.trans e3
    have R3 : Hid (Rq w3 kr (q + 3)) := r3.up (by omega)
    clear e3 r3
    go_wp2_with (refine wpList_store_mid (by rfl) 25 _ _ (by rfl) w.heap.size 0 #[.int .i64 (2 + m2), .string { data := #[97] }, .int .i64 0, .slice none 0 0, .string { data := #[118, 111, 108] }, .string { data := #[99, 49] }, .int .i64 m3] (by rfl) (by rfl) (by exact T3.out) hinfo (by simp [Value.oneCell']) ?_)
    obtain ⟨d0, d1, d2, d3, d4, d5, d6⟩ := cells7q (World.rangeAt_setCells_same w3 w.heap.size 0 [.int .i64 (2 + m2), .string { data := #[97] }, .int .i64 0, .slice none 0 0, .string { data := #[118, 111, 108] }, .string { data := #[99, 49] }, .int .i64 m3] (by exact T3.out))
    obtain ⟨X1, X2, X3⟩ := lay7 (C := [.int .i64 (2 + m2), .string { data := #[97] }, .int .i64 0, .slice none 0 0, .string { data := #[118, 111, 108] }, .string { data := #[99, 49] }, .int .i64 m3]) T3.out E3.out R3.out hkr
    exact bodyPost_ret (v := .agg #[.int .i64 (2 + m2), .string { data := #[97] }, .int .i64 0, .slice none 0 0, .string { data := #[118, 111, 108] }, .string { data := #[99, 49] }, .int .i64 m3]) (by simp [results, Tryz.results18, go_sem, d0, d1, d2, d3, d4, d5, d6]) rfl ⟨⟨2 + m2, { data := #[97] }, 0, [], { data := #[118, 111, 108] }, { data := #[99, 49] }, m3⟩, _, _, rfl, W.Ow.nil _ _, ⟨by show 1 ≤ 20; omega, by show 3 ≤ 20; omega, by show 2 ≤ 20; omega, Nat.zero_le _, (fun r hr => by cases hr)⟩, Nat.zero_le _, X2.out.up (by omega), X1.out⟩
  · obtain rfl : m1 = 5 := by omega
    clear hm m10 m11
    go_wp2_with fail
    refine (pickQ kr _ 3 _ R1.out (by omega) (by omega) (by omega)).mono ?_
    rintro e w2 ⟨m2, rfl, m20, m21, r2, e2⟩
    have z2 : w1.heap.size ≤ w2.heap.size := e2.size
    have T2 : Hid (w2.there w.heap.size 0 7) := there_ex T1.out (by omega) e2 (by omega)
    have E2 : Hid (Ex kr w w2) := E1.out.trans e2
    have R2 : Hid (Rq w2 kr (q + 2)) := r2.up (by omega)
    clear e2 r2
    go_wp2_with fail
    refine (pickQ kr _ 99 _ R2.out (by omega) (by omega) (by omega)).mono ?_
    rintro e w3 ⟨m3, rfl, m30, m31, r3, e3⟩
    have z3 : w2.heap.size ≤ w3.heap.size := e3.size
    have T3 : Hid (w3.there w.heap.size 0 7) := there_ex T2.out (by omega) e3 (by omega)
    have E3 : Hid (Ex kr w w3) := E2.out.trans e3
    have R3 : Hid (Rq w3 kr (q + 3)) := r3.up (by omega)
    clear e3 r3
    go_wp2_with (refine wpList_store_mid (by rfl) 25 _ _ (by rfl) w.heap.size 0 #[.int .i64 (2 + m2), .string { data := #[97] }, .int .i64 0, .slice none 0 0, .string { data := #[118, 111, 108] }, .string { data := #[99, 49] }, .int .i64 m3] (by rfl) (by rfl) (by exact T3.out) hinfo (by simp [Value.oneCell']) ?_)
    obtain ⟨d0, d1, d2, d3, d4, d5, d6⟩ := cells7q (World.rangeAt_setCells_same w3 w.heap.size 0 [.int .i64 (2 + m2), .string { data := #[97] }, .int .i64 0, .slice none 0 0, .string { data := #[118, 111, 108] }, .string { data := #[99, 49] }, .int .i64 m3] (by exact T3.out))
    obtain ⟨X1, X2, X3⟩ := lay7 (C := [.int .i64 (2 + m2), .string { data := #[97] }, .int .i64 0, .slice none 0 0, .string { data := #[118, 111, 108] }, .string { data := #[99, 49] }, .int .i64 m3]) T3.out E3.out R3.out hkr
    exact bodyPost_ret (v := .agg #[.int .i64 (2 + m2), .string { data := #[97] }, .int .i64 0, .slice none 0 0, .string { data := #[118, 111, 108] }, .string { data := #[99, 49] }, .int .i64 m3]) (by simp [results, Tryz.results18, go_sem, d0, d1, d2, d3, d4, d5, d6]) rfl ⟨⟨2 + m2, { data := #[97] }, 0, [], { data := #[118, 111, 108] }, { data := #[99, 49] }, m3⟩, _, _, rfl, W.Ow.nil _ _, ⟨by show 1 ≤ 20; omega, by show 3 ≤ 20; omega, by show 2 ≤ 20; omega, Nat.zero_le _, (fun r hr => by cases hr)⟩, Nat.zero_le _, X2.out.up (by omega), X1.out⟩
end Go.Proofs.YtgakmkhbnjofhaaGreatDoor
