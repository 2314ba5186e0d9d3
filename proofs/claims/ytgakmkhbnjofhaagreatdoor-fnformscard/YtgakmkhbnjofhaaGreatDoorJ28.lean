import Derived.Test.YtgakmkhbnjofhaaGreatDoorJ18
import Derived.Test.YtgakmkhbnjofhaaGreatDoorJ27
import Derived.Test.YtgakmkhbnjofhaaGreatDoorJ05
import Derived.Laws.Tables
import Derived.Test.YtgakmkhbnjofhaaGreatDoorJ11
import Derived.Test.YtgakmkhbnjofhaaGreatDoorJ02
import Derived.Test.YtgakmkhbnjofhaaGreatDoorJ09
import Derived.Maps.AppendAt
namespace Go.Proofs.YtgakmkhbnjofhaaGreatDoor
open Go.RowKit
set_option linter.unusedVariables false
def pcells (P : ParD) (v : Value) : Array Value := #[.int .i64 P.k, .string P.b, .int .i64 P.se, v, .string P.h, .string P.c, .int .i64 P.t]
def zP : ParD := ⟨0, eT, 0, [], eT, eT, 0⟩
noncomputable def okP (s : ByteArray) (P : ParD) : Bool := !s.toList.isEmpty && ((formT P).toList == s.toList)
noncomputable def ansP (s : ByteArray) (P : ParD) : ParD := if okP s P = true then P else zP
def RdPost (s : ByteArray) (P : ParD) (w : World) (e : Ending) (w' : World) : Prop := ∃ v, e = .returned (.tuple #[.agg (pcells (ansP s P) v), .bool (okP s P)]) ∧ W.Sl w' v (ansP s P).ws w.heap.size ∧ Below w.heap.size w w'
theorem eq_list {a b : ByteArray} (h : (a.toList == b.toList) = true) : a = b := by
 have h1 := eq_of_beq h
 rw [ByteArray.toList_eq, ByteArray.toList_eq] at h1
 exact bytes_inj' h1
structure Rda (W2 : World) (O : Array Value) (y : World) : Prop where
 b : ∀ k, y.cell? ⟨W2.heap.size, k, none⟩ = O[k]?
 c : ∀ k, y.frozen? ⟨W2.heap.size, k, none⟩ = false
 e : Below W2.heap.size W2 y
 f : W2.heap.size < y.heap.size
theorem Rda.below {W2 y y' : World} {O : Array Value} (h : Rda W2 O y) (hb : Below y.heap.size y y') : Rda W2 O y' :=
 ⟨fun k => (hb.cell (p := ⟨W2.heap.size, k, none⟩) h.f).trans (h.b k), fun k => (hb.frozen (p := ⟨W2.heap.size, k, none⟩) h.f).trans (h.c k), bl_trans h.e hb, Nat.lt_of_lt_of_le h.f hb.size⟩
theorem Rda.set {W2 y : World} {O : Array Value} (h : Rda W2 O y) (j : Nat) (hj : j < O.size) (u : Value) : Rda W2 (O.setIfInBounds j u) (y.setCell ⟨W2.heap.size, j, none⟩ u) := by
 refine ⟨fun k => ?_, fun k => ?_, bl_set (p := ⟨W2.heap.size, j, none⟩) h.e (Nat.le_refl _) u, by have := h.f; simpa using this⟩
 ·
  by_cases e : k = j
  ·
   subst e
   have h1 := h.b k
   rw [Array.getElem?_eq_getElem hj] at h1
   rw [Array.getElem?_setIfInBounds_self_of_lt hj]
   exact World.cell?_setCell_same _ _ _ h1
  ·
   rw [Array.getElem?_setIfInBounds_ne (fun h' => e h'.symm), ← h.b k]
   exact World.cell?_setCell_other _ _ _ _ (fun h' => e (by have := congrArg Addr.off h'; exact this.symm))
 ·
  rw [World.frozen?_setCell]; exact h.c k
theorem Rda.new (W2 : World) (O : Array Value) (t : TypeId) : Rda W2 O (W2.alloc (.cells O t)) :=
 ⟨fun k => by rw [World.cell?_alloc_new], fun k => by simp [go_sem], bl_alloc (Below.refl _ _) _, by simp⟩
theorem cutL_pos (b : UInt8) (l : List UInt8) : 0 < (cutL b l).length := by
 cases l with
 | nil => simp [cutL]
 | cons x r =>
  rw [cutL]
  split
  ·
   simp
  ·
   cases cutL b r <;> simp
theorem cutL_mem (b : UInt8) : ∀ (l : List UInt8), ∀ x ∈ cutL b l, x.length ≤ l.length
 | [], x, h => by simp [cutL] at h; subst h; simp
 | y :: l, x, h => by
  have ih := cutL_mem b l
  rw [cutL] at h
  split at h
  ·
   rcases List.mem_cons.1 h with rfl | h
   ·
    simp
   ·
    exact Nat.le_trans (ih x h) (by simp)
  ·
   cases hc : cutL b l with
   | nil => rw [hc] at h; simp at h; subst h; simp
   | cons z zs =>
    rw [hc] at h ih
    rcases List.mem_cons.1 h with rfl | h
    ·
     have := ih z (List.mem_cons_self ..); simpa using this
    ·
     exact Nat.le_trans (ih x (List.mem_cons_of_mem _ h)) (by simp)
theorem atL_len (b : UInt8) (l : List UInt8) (k : Nat) : (atL (cutL b l) k).length ≤ l.length := by
 unfold atL
 cases h : (cutL b l)[k]? with
 | none => simp
 | some x => exact cutL_mem b l x (List.mem_of_getElem? h)
theorem wd_size (l : List UInt8) : (wd l).size = l.length := by rw [size_data, wd_list]
theorem at0 {b : UInt8} {l : List UInt8} : (cutL b l)[0]? = some (atL (cutL b l) 0) := by
 unfold atL
 rw [List.getElem?_eq_getElem (cutL_pos b l)]
 rfl
theorem holdR_size (x : ByteArray) : (holdR x).size ≤ x.size := by
 unfold holdR
 split
 ·
  exact Nat.zero_le _
 ·
  exact Nat.le_refl _
theorem ans_set {w y : World} {cs old : Array Value} {t : TypeId} (h : y.heap[w.heap.size]? = some (.cells old t (0, 0))) (hb : Below w.heap.size w y) :
  Hid (∀ j, (y.setRow w.heap.size cs).cell? ⟨w.heap.size, j, none⟩ = cs[j]?) ∧ Hid (Below w.heap.size w (y.setRow w.heap.size cs)) ∧ Hid (y.grownBy (y.setRow w.heap.size cs) (some w.heap.size)) := by
 have h1 := setRow_heap y w.heap.size old cs t _ h
 have hg : y.grownBy (y.setRow w.heap.size cs) (some w.heap.size) := ⟨rfl, rfl, rfl, by simp, fun k _ hk => setRow_other y w.heap.size k _ (fun e => hk (by simp [e]))⟩
 refine ⟨fun j => ?_, ?_, hg⟩
 ·
  show _ = _
  rw [cell_of_row _ _ j cs t (0, 0) h1]
 ·
  show Below _ _ _
  exact Below.grown (row := some w.heap.size) hb hg hb.size (fun k hk => by cases hk; exact Nat.le_refl _)
theorem sl_ws {w : World} {v : Value} {l : List W.WantD} {B : Nat} (h : W.Sl w v l B) (hc : ∀ g n c, v = .slice (some ⟨g, 0, none⟩) n c → n ≤ c) : WsIn w v l := by
 rcases h with ⟨rfl, rfl⟩ | ⟨g, cap, rfl, h1, h2, h3, h4⟩
 ·
  exact Or.inl ⟨none, 0, rfl, rfl⟩
 ·
  exact Or.inr ⟨g, cap, rfl, hc _ _ _ rfl, h3, h2⟩
theorem okP_no {s : ByteArray} {P : ParD} (h : s.toList.isEmpty = true) : okP s P = false := by simp [okP, h]
theorem okP_ne {s : ByteArray} {P : ParD} (h : ((formT P).toList == s.toList) = false) : okP s P = false := by simp [okP, h]
theorem okP_yes {s : ByteArray} {P : ParD} (h0 : s.toList.isEmpty = false) (h : ((formT P).toList == s.toList) = true) : okP s P = true := by simp only [okP, h0, h]; rfl
theorem post_no {s : ByteArray} {P : ParD} {w w' : World} {e : Ending} (h : okP s P = false) (he : e = .returned (.tuple #[.agg #[.int .i64 0, .string ⟨#[]⟩, .int .i64 0, .slice none 0 0, .string ⟨#[]⟩, .string ⟨#[]⟩, .int .i64 0], .bool false])) (hb : Below w.heap.size w w') : RdPost s P w e w' := by
 have hz : ansP s P = zP := if_neg (by rw [h]; simp)
 exact ⟨.slice none 0 0, by rw [hz, h, he]; rfl, by rw [hz]; exact Or.inl ⟨rfl, rfl⟩, hb⟩
theorem post_yes {s : ByteArray} {P : ParD} {w w' : World} {e : Ending} {v : Value} (h : okP s P = true) (he : e = .returned (.tuple #[.agg (pcells P v), .bool true])) (hv : W.Sl w' v P.ws w.heap.size) (hb : Below w.heap.size w w') : RdPost s P w e w' := by
 have hz : ansP s P = P := if_pos h
 exact ⟨v, by rw [hz, h, he], by rw [hz]; exact hv, hb⟩
theorem l7AtE (g cap : Nat) (xs : List (List UInt8)) (k : Nat) (x : ByteArray) (hx : wd (atL xs k) = x) (w : World) (hk : k ≤ 10) (hl : xs.length ≤ 1048577) (hc : ∀ (j : Nat) x, xs[j]? = some x → w.cell? ⟨g, j, none⟩ = some (.string (wd x))) :
  Calls Tryz.prog 33 #[.slice (some ⟨g, 0, none⟩) xs.length cap, .int .i64 k] w fun e w' => e = .returned (.string x) ∧ w' = w := by subst hx; exact l7At_any g cap xs k w hk hl hc
theorem l7NumE (x : ByteArray) (n : Int) (hn : numS x = n) (w : World) (hx : x.size ≤ 1048576) :
  Calls Tryz.prog 34 #[.string x] w fun e w' => e = .returned (.int .i64 n) ∧ Below w.heap.size w w' := by subst hn; exact l7Number_any x w hx
theorem l7CutE (s : ByteArray) (l : List UInt8) (hl : s.data.toList = l) (bb : UInt8) (nb : Int) (hnb : nb = (bb.toNat : Int)) (w : World) (hs : l.length ≤ 1048576) (L : List (List UInt8)) (hL : cutL bb l = L) :
  Calls Tryz.prog 32 #[.string s, .int .u8 nb] w fun e w' => (∃ g cap, e = .returned (.slice (some ⟨g, 0, none⟩) L.length cap) ∧ L.length ≤ cap ∧ g < w'.heap.size ∧ ∀ (j : Nat) x, L[j]? = some x → w'.cell? ⟨g, j, none⟩ = some (.string (wd x))) ∧ Below w.heap.size w w' := by
 subst hl hL
 exact l7Cut_any s bb nb hnb w (by rw [size_data]; exact hs)
theorem Rda.grow {W2 y y' : World} {O : Array Value} {row : Option Nat} (h : Rda W2 O y) (hg : y.grownBy y' row) (hr : ∀ g, row = some g → W2.heap.size < g) : Rda W2 O y' := by
 have hne : ∀ k, k ≤ W2.heap.size → some k ≠ row := fun k hk e => by
  have := hr k e.symm
  omega
 have hf := h.f
 refine ⟨fun k => ?_, fun k => ?_, ⟨hg.os.trans h.e.os, hg.tape.trans h.e.tape, hg.output.trans h.e.output, Nat.le_trans h.e.size hg.size, fun k hk => (hg.block k (by omega) (hne k (by omega))).trans (h.e.block k hk)⟩, Nat.lt_of_lt_of_le hf hg.size⟩
 ·
  rw [← h.b k]
  exact World.cell?_of_block (w := y) (a := ⟨W2.heap.size, k, none⟩) (hg.block _ hf (hne _ (Nat.le_refl _)))
 ·
  rw [← h.c k]
  exact World.frozen?_of_block (w := y) (a := ⟨W2.heap.size, k, none⟩) (hg.block _ hf (hne _ (Nat.le_refl _)))
theorem wantS_fits {l : List UInt8} (h : l.length ≤ 1048576) : (wantS l).fits := by
 have h1 := Nat.le_trans (atL_len 32 l 1) h
 have h3 := Nat.le_trans (atL_len 32 l 3) h
 refine ⟨?_, ?_⟩
 ·
  show (wd (atL (cutL 32 l) 1)).size ≤ maxLen
  rw [wd_size]; unfold maxLen; omega
 ·
  show (holdR (wd (atL (cutL 32 l) 3))).size ≤ maxLen
  refine Nat.le_trans (holdR_size _) ?_
  rw [wd_size]; unfold maxLen; omega
theorem word_full {s : ByteArray} {x : List UInt8} (h : atL (cutL 32 (atL (cutL 10 s.data.toList) 0)) 0 = x) (hx : x ≠ []) : s.toList.isEmpty = false := by
 cases hh : s.toList.isEmpty with
 | false => rfl
 | true =>
  rw [ByteArray.toList_eq] at hh
  rw [List.isEmpty_iff.1 hh] at h
  exact absurd h.symm hx
theorem Sl_lowS {w : World} {v : Value} {l : List W.WantD} {B B' : Nat} (h : W.Sl w v l B) (hB : B' ≤ B) : W.Sl w v l B' := by
 rcases h with h | ⟨g, cap, h1, h2, h3⟩
 ·
  exact Or.inl h
 ·
  exact Or.inr ⟨g, cap, h1, Nat.le_trans hB h2, h3⟩
theorem Rq.ex {w w' : World} {kr k : Nat} {q : Int} (h : Rq w kr q) (he : Ex k w w') (hk : kr < k) : Rq w' kr q := h.grown (ex_grown he) (fun k' e => by cases e; exact hk)
theorem W.Ow.ex {w w' : World} {v : Value} {l : List W.WantD} {B k : Nat} (h : W.Ow w v l B) (he : Ex k w w') (hk : k < B) : W.Ow w' v l B := by
 refine W.Ow.grown h (ex_grown he) ?_
 cases hv : v.ownBlock with
 | none => exact Or.inl rfl
 | some g => exact Or.inr (fun e => by have := (h.lt g hv).1; have e2 := Option.some.inj e; omega)
theorem W.Ow.ws {w : World} {v : Value} {l : List W.WantD} {B : Nat} (h : W.Ow w v l B) : WsIn w v l := by
 obtain ⟨hl, ⟨rfl, hn⟩ | ⟨g, cap, cur, rfl, hb, hg, hnc, hcm, hcs, htk⟩⟩ := id h
 ·
  exact Or.inl ⟨none, 0, rfl, List.length_eq_zero_iff.1 hn⟩
 ·
  rcases W.Ow.sl h with ⟨h1, h2⟩ | ⟨g', cap', h1, h2, h3, h4, h5⟩
  ·
   cases h1
  ·
   cases h1
   exact Or.inr ⟨_, _, rfl, hnc, h4, h3⟩
structure Pq (P : ParD) : Prop where
 b : P.b.size ≤ 20
 h : P.h.size ≤ 20
 c : P.c.size ≤ 20
 l : P.ws.length ≤ 5
 f : ∀ r ∈ P.ws, r.fits
theorem Pq.sz {P : ParD} (h : Pq P) : ParSz P := ⟨by have := h.b; omega, by have := h.h; omega, by have := h.c; omega, by have := h.l; omega⟩
theorem there7p (w : World) (t : TypeId) : (w.alloc (.cells #[.int .i64 0, .string ⟨#[]⟩, .int .i64 0, .slice none 0 0, .string ⟨#[]⟩, .string ⟨#[]⟩, .int .i64 0] t)).there w.heap.size 0 7 :=
 fun j hj => ⟨by simp [go_sem]; omega, by simp [go_sem]⟩
theorem cells7q {wx : World} {k : Nat} {v0 v1 v2 v3 v4 v5 v6 : Value} (h : wx.rangeAt k 0 [v0, v1, v2, v3, v4, v5, v6]) : wx.cell? ⟨k, 0, none⟩ = some v0 ∧ wx.cell? ⟨k, 1, none⟩ = some v1 ∧ wx.cell? ⟨k, 2, none⟩ = some v2 ∧ wx.cell? ⟨k, 3, none⟩ = some v3 ∧ wx.cell? ⟨k, 4, none⟩ = some v4 ∧ wx.cell? ⟨k, 5, none⟩ = some v5 ∧ wx.cell? ⟨k, 6, none⟩ = some v6 :=
 ⟨by simpa using h 0 _ rfl, by simpa using h 1 _ rfl, by simpa using h 2 _ rfl, by simpa using h 3 _ rfl, by simpa using h 4 _ rfl, by simpa using h 5 _ rfl, by simpa using h 6 _ rfl⟩
theorem lay7 {kr : Nat} {q : Int} {w y : World} {C : List Value} (hT : y.there w.heap.size 0 7) (hE : Ex kr w y) (hR : Rq y kr q) (hk : kr < w.heap.size) :
  Hid (Ex kr w (World.setCells y w.heap.size 0 C)) ∧ Hid (Rq (World.setCells y w.heap.size 0 C) kr q) ∧ Hid (Ex w.heap.size y (World.setCells y w.heap.size 0 C)) := by
 have hx1 : Ex w.heap.size y (World.setCells y w.heap.size 0 C) := (Ex.refl _ _).cells _ _
 exact ⟨Ex.other hE hx1 (Nat.le_refl _), hR.ex hx1 hk, hx1⟩
set_option maxRecDepth 4000 in
set_option maxHeartbeats 4000000 in
theorem parcelQ (kr : Nat) (q : Int) (w : World) (hr : Rq w kr q) (hq : q < 600000) :
  Calls Tryz.prog 18 #[.pointer (some ⟨kr, 0, none⟩)] w fun e w' => ∃ (P : ParD) (a : Option Addr) (n : Nat), e = .returned (.agg #[.int .i64 P.k, .string P.b, .int .i64 P.se, .slice a P.ws.length n, .string P.h, .string P.c, .int .i64 P.t]) ∧ W.Ow w' (.slice a P.ws.length n) P.ws w.heap.size ∧ Pq P ∧ P.ws.length ≤ 4 ∧ Rq w' kr (q + 200) ∧ Ex kr w w' := by
 have hkr := hr.lt
 have hinfo : (Tryz.prog.info? 25).map (·.size) = some 7 := by kernel_rfl
 go_enter Tryz.func18, Tryz.ntmps18
 go_wp2_with fail
 have hb0 : Below w.heap.size w (w.alloc (.cells #[.int .i64 0, .string ⟨#[]⟩, .int .i64 0, .slice none 0 0, .string ⟨#[]⟩, .string ⟨#[]⟩, .int .i64 0] 25)) := bl_alloc (Below.refl _ _) _
 refine (pickQ kr q 6 _ (hr.below hb0) (by omega) (by omega) (by omega)).mono ?_
 rintro e w1 ⟨m1, rfl, m10, m11, r1, e1⟩
 have z1 : w.heap.size < w1.heap.size := Nat.lt_of_lt_of_le (by simp) e1.size
 have T1 : Hid (w1.there w.heap.size 0 7) := there_ex (there7p w 25) (by simp) e1 (by omega)
 have E1 : Hid (Ex kr w w1) := (Ex.of_below hb0).trans e1
 have R1 : Hid (Rq w1 kr (q + 1)) := r1
 clear e1 hb0 r1 hr
 rcases (by omega : (m1 = 0 ∨ m1 = 1) ∨ m1 = 2 ∨ m1 = 3 ∨ (m1 = 4 ∨ m1 = 5)) with hm | hm | hm | hm
 ·
  rcases hm with rfl | rfl
  all_goals
   clear m10 m11
   go_wp2_with fail
   refine (pickQ kr _ 9 _ R1.out (by omega) (by omega) (by omega)).mono ?_
   rintro e w2 ⟨m2, rfl, m20, m21, r2, e2⟩
   have z2 : w1.heap.size ≤ w2.heap.size := e2.size
   have T2 : Hid (w2.there w.heap.size 0 7) := there_ex T1.out (by omega) e2 (by omega)
   have E2 : Hid (Ex kr w w2) := E1.out.trans e2
   have R2 : Hid (Rq w2 kr (q + 2)) := r2.up (by omega)
   clear e2 r2
   go_wp2_with fail
   refine (wantsQ kr _ _ R2.out (by omega)).mono ?_
   rintro e w3 ⟨ws, v, rfl, o3, l3, f3, r3, e3⟩
   obtain ⟨aa, pp, rfl⟩ := W.Ow.shape (W.Ow.of_owns o3)
   have z3 : w2.heap.size ≤ w3.heap.size := e3.size
   have T3 : Hid (w3.there w.heap.size 0 7) := there_ex T2.out (by omega) e3 (by omega)
   have E3 : Hid (Ex kr w w3) := E2.out.trans e3
   have R3 : Hid (Rq w3 kr (q + 102)) := r3.up (by omega)
   have O3 : Hid (W.Ow w3 (.slice aa ws.length pp) ws w2.heap.size) := o3
   have F3 : Hid (∀ x ∈ ws, x.fits) := f3
   clear e3 r3 o3 f3
   go_wp2_with (refine wpList_store_mid (by rfl) 25 _ _ (by rfl) w.heap.size 0 #[.int .i64 1, .string ⟨#[97]⟩, .int .i64 (1 + m2), .slice aa ws.length pp, .string ⟨#[]⟩, .string ⟨#[]⟩, .int .i64 0] (by rfl) (by rfl) (by exact T3.out) hinfo (by simp [Value.oneCell']) ?_)
   obtain ⟨d0, d1, d2, d3, d4, d5, d6⟩ := cells7q (World.rangeAt_setCells_same w3 w.heap.size 0 [.int .i64 1, .string ⟨#[97]⟩, .int .i64 (1 + m2), .slice aa ws.length pp, .string ⟨#[]⟩, .string ⟨#[]⟩, .int .i64 0] (by exact T3.out))
   obtain ⟨X1, X2, X3⟩ := lay7 (C := [.int .i64 1, .string ⟨#[97]⟩, .int .i64 (1 + m2), .slice aa ws.length pp, .string ⟨#[]⟩, .string ⟨#[]⟩, .int .i64 0]) T3.out E3.out R3.out hkr
   exact bodyPost_ret (v := .agg #[.int .i64 1, .string ⟨#[97]⟩, .int .i64 (1 + m2), .slice aa ws.length pp, .string ⟨#[]⟩, .string ⟨#[]⟩, .int .i64 0]) (by simp [results, Tryz.results18, go_sem, d0, d1, d2, d3, d4, d5, d6]) rfl ⟨⟨1, { data := #[97] }, 1 + m2, ws, { data := #[] }, { data := #[] }, 0⟩, _, _, rfl, (O3.out.ex X3.out (by omega)).low (by omega), ⟨by show 1 ≤ 20; omega, Nat.zero_le _, Nat.zero_le _, by show ws.length ≤ 5; omega, F3.out⟩, l3, X2.out.up (by omega), X1.out⟩
 ·
  obtain rfl : m1 = 2 := by omega
  clear hm m10 m11
  go_wp2_with fail
  refine (pickQ kr _ 99 _ R1.out (by omega) (by omega) (by omega)).mono ?_
  rintro e w2 ⟨m2, rfl, m20, m21, r2, e2⟩
  have z2 : w1.heap.size ≤ w2.heap.size := e2.size
  have T2 : Hid (w2.there w.heap.size 0 7) := there_ex T1.out (by omega) e2 (by omega)
  have E2 : Hid (Ex kr w w2) := E1.out.trans e2
  have R2 : Hid (Rq w2 kr (q + 2)) := r2.up (by omega)
  clear e2 r2
  go_wp2_with (refine wpList_store_mid (by rfl) 25 _ _ (by rfl) w.heap.size 0 #[.int .i64 5, .string ⟨#[98]⟩, .int .i64 0, .slice none 0 0, .string ⟨#[118, 111, 108]⟩, .string ⟨#[]⟩, .int .i64 m2] (by rfl) (by rfl) (by exact T2.out) hinfo (by simp [Value.oneCell']) ?_)
  obtain ⟨d0, d1, d2, d3, d4, d5, d6⟩ := cells7q (World.rangeAt_setCells_same w2 w.heap.size 0 [.int .i64 5, .string ⟨#[98]⟩, .int .i64 0, .slice none 0 0, .string ⟨#[118, 111, 108]⟩, .string ⟨#[]⟩, .int .i64 m2] (by exact T2.out))
  obtain ⟨X1, X2, X3⟩ := lay7 (C := [.int .i64 5, .string ⟨#[98]⟩, .int .i64 0, .slice none 0 0, .string ⟨#[118, 111, 108]⟩, .string ⟨#[]⟩, .int .i64 m2]) T2.out E2.out R2.out hkr
  exact bodyPost_ret (v := .agg #[.int .i64 5, .string ⟨#[98]⟩, .int .i64 0, .slice none 0 0, .string ⟨#[118, 111, 108]⟩, .string ⟨#[]⟩, .int .i64 m2]) (by simp [results, Tryz.results18, go_sem, d0, d1, d2, d3, d4, d5, d6]) rfl ⟨⟨5, { data := #[98] }, 0, [], { data := #[118, 111, 108] }, { data := #[] }, m2⟩, _, _, rfl, W.Ow.nil _ _, ⟨by show 1 ≤ 20; omega, by show 3 ≤ 20; omega, Nat.zero_le _, Nat.zero_le _, (fun r hr => by cases hr)⟩, Nat.zero_le _, X2.out.up (by omega), X1.out⟩
 ·
  obtain rfl : m1 = 3 := by omega
  clear hm m10 m11
  go_wp2_with fail
  refine (pickQ kr _ 9 _ R1.out (by omega) (by omega) (by omega)).mono ?_
  rintro e w2 ⟨m2, rfl, m20, m21, r2, e2⟩
  have z2 : w1.heap.size ≤ w2.heap.size := e2.size
  have T2 : Hid (w2.there w.heap.size 0 7) := there_ex T1.out (by omega) e2 (by omega)
  have E2 : Hid (Ex kr w w2) := E1.out.trans e2
  have R2 : Hid (Rq w2 kr (q + 2)) := r2.up (by omega)
  clear e2 r2
  go_wp2_with (refine wpList_store_mid (by rfl) 25 _ _ (by rfl) w.heap.size 0 #[.int .i64 6, .string ⟨#[98]⟩, .int .i64 m2, .slice none 0 0, .string ⟨#[]⟩, .string ⟨#[]⟩, .int .i64 0] (by rfl) (by rfl) (by exact T2.out) hinfo (by simp [Value.oneCell']) ?_)
  obtain ⟨d0, d1, d2, d3, d4, d5, d6⟩ := cells7q (World.rangeAt_setCells_same w2 w.heap.size 0 [.int .i64 6, .string ⟨#[98]⟩, .int .i64 m2, .slice none 0 0, .string ⟨#[]⟩, .string ⟨#[]⟩, .int .i64 0] (by exact T2.out))
  obtain ⟨X1, X2, X3⟩ := lay7 (C := [.int .i64 6, .string ⟨#[98]⟩, .int .i64 m2, .slice none 0 0, .string ⟨#[]⟩, .string ⟨#[]⟩, .int .i64 0]) T2.out E2.out R2.out hkr
  exact bodyPost_ret (v := .agg #[.int .i64 6, .string ⟨#[98]⟩, .int .i64 m2, .slice none 0 0, .string ⟨#[]⟩, .string ⟨#[]⟩, .int .i64 0]) (by simp [results, Tryz.results18, go_sem, d0, d1, d2, d3, d4, d5, d6]) rfl ⟨⟨6, { data := #[98] }, m2, [], { data := #[] }, { data := #[] }, 0⟩, _, _, rfl, W.Ow.nil _ _, ⟨by show 1 ≤ 20; omega, Nat.zero_le _, Nat.zero_le _, Nat.zero_le _, (fun r hr => by cases hr)⟩, Nat.zero_le _, X2.out.up (by omega), X1.out⟩
 ·
  rcases hm with rfl | rfl
  all_goals
   clear m10 m11
   go_wp2_with fail
   refine (pickQ kr _ 3 _ R1.out (by omega) (by omega) (by omega)).mono ?_
   rintro e w2 ⟨m2, rfl, m20, m21, r2, e2⟩
   have z2 : w1.heap.size ≤ w2.heap.size := e2.size
   have T2 : Hid (w2.there w.heap.size 0 7) := there_ex T1.out (by omega) e2 (by omega)
   have E2 : Hid (Ex kr w w2) := E1.out.trans e2
   have R2 : Hid (Rq w2 kr (q + 2)) := r2.up (by omega)
   clear e2 r2
   go_wp2_with fail
   refine (pickQ kr _ 99 _ R2.out (by omega) (by omega) (by omega)).mono ?_
   rintro e w3 ⟨m3, rfl, m30, m31, r3, e3⟩
   have z3 : w2.heap.size ≤ w3.heap.size := e3.size
   have T3 : Hid (w3.there w.heap.size 0 7) := there_ex T2.out (by omega) e3 (by omega)
   have E3 : Hid (Ex kr w w3) := E2.out.trans e3
   have R3 : Hid (Rq w3 kr (q + 3)) := r3.up (by omega)
   clear e3 r3
   go_wp2_with (refine wpList_store_mid (by rfl) 25 _ _ (by rfl) w.heap.size 0 #[.int .i64 (2 + m2), .string ⟨#[97]⟩, .int .i64 0, .slice none 0 0, .string ⟨#[118, 111, 108]⟩, .string ⟨#[99, 49]⟩, .int .i64 m3] (by rfl) (by rfl) (by exact T3.out) hinfo (by simp [Value.oneCell']) ?_)
   obtain ⟨d0, d1, d2, d3, d4, d5, d6⟩ := cells7q (World.rangeAt_setCells_same w3 w.heap.size 0 [.int .i64 (2 + m2), .string ⟨#[97]⟩, .int .i64 0, .slice none 0 0, .string ⟨#[118, 111, 108]⟩, .string ⟨#[99, 49]⟩, .int .i64 m3] (by exact T3.out))
   obtain ⟨X1, X2, X3⟩ := lay7 (C := [.int .i64 (2 + m2), .string ⟨#[97]⟩, .int .i64 0, .slice none 0 0, .string ⟨#[118, 111, 108]⟩, .string ⟨#[99, 49]⟩, .int .i64 m3]) T3.out E3.out R3.out hkr
   exact bodyPost_ret (v := .agg #[.int .i64 (2 + m2), .string ⟨#[97]⟩, .int .i64 0, .slice none 0 0, .string ⟨#[118, 111, 108]⟩, .string ⟨#[99, 49]⟩, .int .i64 m3]) (by simp [results, Tryz.results18, go_sem, d0, d1, d2, d3, d4, d5, d6]) rfl ⟨⟨2 + m2, { data := #[97] }, 0, [], { data := #[118, 111, 108] }, { data := #[99, 49] }, m3⟩, _, _, rfl, W.Ow.nil _ _, ⟨by show 1 ≤ 20; omega, by show 3 ≤ 20; omega, by show 2 ≤ 20; omega, Nat.zero_le _, (fun r hr => by cases hr)⟩, Nat.zero_le _, X2.out.up (by omega), X1.out⟩
def depOf (md : Region.Mode) (ops : Array Oper) (i j : Nat) : Bool := match ops[i]? with
 | some o => o.after.toList.any (fun e => Region.binds md e && e.on == j)
 | none => false
theorem dep_of {md : Region.Mode} {ops : Array Oper} {listed : Array Bool} {i j : Nat} (hi : i ∈ Region.ready md ops listed) (hd : depOf md ops i j = true) : listed.getD j false = true := by
 unfold depOf at hd
 split at hd
 ·
  rename_i o ho; exact dep_listed hi ho hd
 ·
  cases hd
theorem open_not {listed : Array Bool} {i : Nat} (ho : listed.getD i true = false) (h : listed.getD i false = true) : False := by
 simp only [Array.getD_eq_getD_getElem?] at ho h
 cases hb : listed[i]? with
 | none => rw [hb] at ho; cases ho
 | some b => rw [hb] at ho h; simp only [Option.getD_some] at ho h; rw [ho] at h; cases h
theorem set_ne {listed : Array Bool} {i j : Nat} (hne : j ≠ i) : (listed.setIfInBounds i true).getD j false = listed.getD j false := by
 simp only [Array.getD_eq_getD_getElem?]
 rw [Array.getElem?_setIfInBounds_ne (fun x => hne x.symm)]
theorem set_same {listed : Array Bool} {i : Nat} (hi : i < listed.size) : (listed.setIfInBounds i true).getD i false = true := by
 simp only [Array.getD_eq_getD_getElem?]
 rw [Array.getElem?_setIfInBounds_self_of_lt hi, Option.getD_some]
theorem not_true {b : Bool} (h : b = true → False) : b = false := by
 cases b
 ·
  rfl
 ·
  exact (h rfl).elim
structure Ir (lo n A : Nat) (md : Region.Mode) (ops : Array Oper) (a0 : Act) (G : World → Nat → Value → Prop) (V : Array Bool → World → Prop) (listed : Array Bool) (a : Act) (w : World) : Prop where
 df : a.defers = a0.defers
 sz : a.tmps.size = a0.tmps.size
 out : ∀ k, k < lo ∨ lo + n ≤ k → a.tmps.getD k undef = a0.tmps.getD k undef
 lz : listed.size = n + 1
 tr : ∀ i j, depOf md ops i j = true → listed.getD i false = true → listed.getD j false = true
 good : ∀ i, i < n → listed.getD i false = true → (listed.getD A false = false ∨ (A ≤ i ∧ listed.getD n false = false)) → G w i (a.tmps.getD (lo + i) undef)
 v : V listed w
section
variable {lo n A : Nat} {md : Region.Mode} {ops : Array Oper} {a0 : Act} {G : World → Nat → Value → Prop} {V : Array Bool → World → Prop} {listed : Array Bool} {a : Act} {w w' : World} {i : Nat} {v : Value}
theorem tr_set (hr : i ∈ Region.ready md ops listed) (hz : i < listed.size) (tr : ∀ i j, depOf md ops i j = true → listed.getD i false = true → listed.getD j false = true) : ∀ k j, depOf md ops k j = true → (listed.setIfInBounds i true).getD k false = true → (listed.setIfInBounds i true).getD j false = true := by
 intro k j hd hk
 by_cases ej : j = i
 ·
  subst ej; exact set_same hz
 rw [set_ne ej]
 by_cases ek : k = i
 ·
  subst ek; exact dep_of hr hd
 ·
  rw [set_ne ek] at hk; exact tr k j hd hk
theorem Ir.put (h : Ir lo n A md ops a0 G V listed a w) (hr : i ∈ Region.ready md ops listed) (hi : i < n) (hn : lo + n ≤ a0.tmps.size) (hg : G w' i v)
  (hk : ∀ j u, j < n → j ≠ i → listed.getD j false = true → ((listed.setIfInBounds i true).getD A false = false ∨ A ≤ j) → G w j u → G w' j u) (hv : V (listed.setIfInBounds i true) w') :
  Ir lo n A md ops a0 G V (listed.setIfInBounds i true) (a.put (some (lo + i)) v) w' := by
 have hsz := h.sz
 have hlz := h.lz
 refine ⟨h.df, by simpa [Act.put] using hsz, ?_, by simpa using hlz, tr_set hr (by omega) h.tr, ?_, hv⟩
 ·
  intro k hko
  rw [← h.out k hko]
  simp only [Act.put, Array.getD_eq_getD_getElem?]
  rw [Array.getElem?_setIfInBounds_ne (by omega)]
 ·
  intro j hj hl hc
  by_cases e : j = i
  ·
   subst e
   simp only [Act.put, Array.getD_eq_getD_getElem?]
   rw [Array.getElem?_setIfInBounds_self_of_lt (by omega)]
   exact hg
  ·
   rw [set_ne e] at hl
   have hc' : listed.getD A false = false ∨ (A ≤ j ∧ listed.getD n false = false) := by
    rcases hc with hc | ⟨hc, hc2⟩
    ·
     left
     by_cases eA : A = i
     ·
      subst eA
      by_cases hA : A < listed.size
      ·
       rw [set_same hA] at hc; cases hc
      ·
       exact absurd hi (by omega)
     ·
      rwa [set_ne eA] at hc
    ·
     right
     rw [set_ne (by omega)] at hc2
     exact ⟨hc, hc2⟩
   have h1 := hk j _ hj e hl (hc.imp id (fun h => h.1)) (h.good j hj hl hc')
   simp only [Act.put, Array.getD_eq_getD_getElem?] at h1 ⊢
   rw [Array.getElem?_setIfInBounds_ne (by omega)]
   exact h1
theorem Ir.last (h : Ir lo n A md ops a0 G V listed a w) (hr : n ∈ Region.ready md ops listed) (hA : A = n ∨ listed.getD A false = true) (hv : V (listed.setIfInBounds n true) w') {u : Value} :
  Ir lo n A md ops a0 G V (listed.setIfInBounds n true) (a.put none u) w' := by
 have hlz := h.lz
 refine ⟨h.df, h.sz, h.out, by simpa using hlz, tr_set hr (by omega) h.tr, ?_, hv⟩
 intro j hj hl hc
 have hsn : (listed.setIfInBounds n true).getD n false = true := set_same (by omega)
 rcases hc with hc | ⟨hc, hc2⟩
 ·
  rcases hA with rfl | hA
  ·
   rw [hsn] at hc; cases hc
  ·
   by_cases e : A = n
   ·
    subst e; rw [hsn] at hc; cases hc
   ·
    rw [set_ne e, hA] at hc; cases hc
 ·
  rw [hsn] at hc2; cases hc2
theorem frame_of (df : a.defers = a0.defers) (sz : a.tmps.size = a0.tmps.size) (out : ∀ k, k < lo ∨ lo + n ≤ k → a.tmps.getD k undef = a0.tmps.getD k undef) (hn : lo + n ≤ a0.tmps.size) :
  ∃ l : List Value, l.length = n ∧ a = ⟨(a0.tmps.toList.take lo ++ (l ++ a0.tmps.toList.drop (lo + n))).toArray, a0.defers⟩ := by
 obtain ⟨⟨t⟩, d⟩ := a
 obtain ⟨⟨t0⟩, d0⟩ := a0
 simp only at df
 subst df
 have sz : t.length = t0.length := sz
 have hn : lo + n ≤ t0.length := hn
 refine ⟨(t.drop lo).take n, by simp; omega, ?_⟩
 have e : t = t0.take lo ++ ((t.drop lo).take n ++ t0.drop (lo + n)) := by
  apply List.ext_getElem?
  intro k
  rcases Nat.lt_or_ge k lo with h1 | h1
  ·
   have h2 := out k (Or.inl h1)
   rw [List.getElem?_append_left (by simp; omega), List.getElem?_take_of_lt h1]
   simp only [Array.getD_eq_getD_getElem?, List.getElem?_toArray] at h2
   rw [List.getElem?_eq_getElem (by omega), List.getElem?_eq_getElem (by omega)] at h2 ⊢
   simpa using h2
  ·
   rw [List.getElem?_append_right (by simp; omega)]
   have hl : (t0.take lo).length = lo := by simp; omega
   rw [hl]
   rcases Nat.lt_or_ge k (lo + n) with h3 | h3
   ·
    rw [List.getElem?_append_left (by simp; omega), List.getElem?_take_of_lt (by omega), List.getElem?_drop]
    congr 1; omega
   ·
    rw [List.getElem?_append_right (by simp; omega)]
    have hl2 : ((t.drop lo).take n).length = n := by simp; omega
    rw [hl2, List.getElem?_drop]
    have e2 : lo + n + (k - lo - n) = k := by omega
    rw [e2]
    have h2 := out k (Or.inr h3)
    simp only [Array.getD_eq_getD_getElem?, List.getElem?_toArray] at h2
    rcases Nat.lt_or_ge k t.length with h4 | h4
    ·
     rw [List.getElem?_eq_getElem (by omega), List.getElem?_eq_getElem (by omega)] at h2 ⊢
     simpa using h2
    ·
     rw [List.getElem?_eq_none h4, List.getElem?_eq_none (by omega)]
 show Act.mk ⟨t⟩ d = Act.mk ⟨_⟩ d
 exact congrArg (fun l => Act.mk ⟨l⟩ d) e
end
theorem len_succ {l : List Value} {k : Nat} (h : l.length = k + 1) : ∃ x t, l = x :: t ∧ t.length = k := by
 cases l with
 | nil => cases h
 | cons x t => exact ⟨x, t, rfl, by simpa using h⟩
theorem len_zero {l : List Value} (h : l.length = 0) : l = [] := List.eq_nil_of_length_eq_zero h
def Vr (A n : Nat) (D : Int → World → Prop) (E : World → Prop) (q : Int) (listed : Array Bool) (w : World) : Prop :=
 (listed.getD A false = false → ∃ p, D p w ∧ p + 200 * (openOf listed : Int) ≤ q + 200 * ((n : Int) + 1)) ∧ (listed.getD n false = true → E w)
theorem Vr.mk {A n : Nat} {D : Int → World → Prop} {E : World → Prop} {q p : Int} {listed : Array Bool} {w : World} (hD : D p w) (hp : p + 200 * (openOf listed : Int) ≤ q + 200 * ((n : Int) + 1)) (hn : listed.getD n false = false) : Vr A n D E q listed w :=
 ⟨fun _ => ⟨p, hD, hp⟩, fun h => by rw [hn] at h; cases h⟩
theorem Vr.past {A n : Nat} {D : Int → World → Prop} {E : World → Prop} {q : Int} {listed : Array Bool} {w : World} (hA : listed.getD A false = true) (hn : listed.getD n false = false) : Vr A n D E q listed w :=
 ⟨fun h => (by rw [hA] at h; cases h), fun h => (by rw [hn] at h; cases h)⟩
theorem Vr.fin {A n : Nat} {D : Int → World → Prop} {E : World → Prop} {q : Int} {listed : Array Bool} {w : World} (hA : listed.getD A false = true) (hE : E w) : Vr A n D E q listed w :=
 ⟨fun h => (by rw [hA] at h; cases h), fun _ => hE⟩
theorem wp_append_own_at {P : Program} {w : World} {o : Oper} {a : Act} {K : Act → World → Prop} {Q : Exit → Act → World → Prop} (s x : Operand) (t : TypeId)
  (ho : o.op = .call { callee := .builtin .append, args := #[s, x], argTypes := #[t, t] })
  (base : Nat) (e : TypeId) (i : TypeInfo) (z : Value) (size bytes : Nat) (ht : P.underlying t = some (.slice e)) (hi : P.info? e = some i) (hz : i.zero = some z)
  (hsize : i.size = size) (hby : i.bytes = bytes) (hzs : z.cells.size = size) (hsz : 0 < size)
  (v : Value) (n : Nat) (xs : List Value) (hs : a.eval s = v) (hown : w.ownsRow base e size v n xs)
  (ad : Addr) (m c : Nat) (news : List Value) (hx : a.eval x = .slice (some ad) m c) (hl : news.length = m * size) (hnews : ∀ j u, news[j]? = some u → w.cell? (ad.add j) = some u) (h1 : ∀ u ∈ news, u.oneCell' = true)
  (h63 : n + m ≤ maxLen) (hbytes : (n + m) * bytes ≤ 140737488355328) (hbase : base ≤ w.heap.size)
  (h : ∀ v' w', w'.ownsRow base e size v' (n + m) (xs ++ news) → w.grownBy w' v.ownBlock → (v'.ownBlock = v.ownBlock ∨ v'.ownBlock = some w.heap.size) → K (a.put o.dst v') w') : o.wp P a w K Q := by
 obtain ⟨v', w', hr, h2, h3, h4, h5⟩ := run_append_own_at (P := P) w base t o.type e i z size bytes ht hi hz hsize hby hzs hsz v n xs hown ad m c news hl hnews h1 h63 hbytes hbase
 unfold Oper.wp execOp
 simp only [ho, resolve, invoke, builtin, Sem.run_bind, Sem.run_pure, Result.andThen_ok, List.map_toArray, List.map_cons, List.map_nil, hs, hx, hr]
 exact h v' w' h2 h3 h5
theorem rep_false (k i : Nat) : (Array.replicate k false).getD i false = false := by
 simp only [Array.getD_eq_getD_getElem?, Array.getElem?_replicate]
 split <;> rfl
theorem open_rep (k : Nat) : openOf (Array.replicate k false) ≤ k := by
 unfold openOf
 exact Nat.le_trans List.countP_le_length (by simp)
theorem Vr.same {A n : Nat} {D : Int → World → Prop} {E : World → Prop} {q : Int} {listed : Array Bool} {w : World} {i : Nat} (h : Vr A n D E q listed w) (ho : listed.getD i true = false) (hA : i ≠ A) (hn : i ≠ n) : Vr A n D E q (listed.setIfInBounds i true) w := by
 have hop := openOf_set ho
 refine ⟨fun h1 => ?_, fun h1 => ?_⟩
 ·
  rw [set_ne (fun e => hA e.symm)] at h1
  obtain ⟨p, hD, hp⟩ := h.1 h1
  exact ⟨p, hD, by omega⟩
 ·
  rw [set_ne (fun e => hn e.symm)] at h1
  exact h.2 h1
theorem Vr.turn {A n : Nat} {D : Int → World → Prop} {E : World → Prop} {q p : Int} {listed : Array Bool} {w : World} {i : Nat} (ho : listed.getD i true = false) (hn : listed.getD n false = false) (hin : i ≠ n) (hD : D p w) (hp : p + 200 * (openOf listed : Int) ≤ q + 200 * ((n : Int) + 1) + 200) : Vr A n D E q (listed.setIfInBounds i true) w := by
 have hop := openOf_set ho
 exact Vr.mk hD (by omega) (by rw [set_ne (fun e => hin e.symm)]; exact hn)
theorem reg_inv {P : Program} {ops : Array Oper} {Q : Exit → Act → World → Prop} {a0 : Act} {w0 : World} (lo n A : Nat) (G : World → Nat → Value → Prop) (D : Int → World → Prop) (E : World → Prop) (q : Int)
  (hd : depsOk ops = true) (hops : ops.size = n + 1) (hsz : lo + n ≤ a0.tmps.size) (hD : D q w0)
  (done : ∀ l y, l.length = n → E y → Q .normal ⟨(a0.tmps.toList.take lo ++ (l ++ a0.tmps.toList.drop (lo + n))).toArray, a0.defers⟩ y)
  (step : ∀ listed x y i, Ir lo n A .any ops a0 G (Vr A n D E q) listed x y → i ∈ Region.ready .any ops listed → i < n + 1 → wpOp P ops Q i (Ir lo n A .any ops a0 G (Vr A n D E q) (listed.setIfInBounds i true)) x y) :
  wpAny P .any ops Q ops.size (Array.replicate ops.size false) a0 w0 := by
 refine wpAny_inv (Ir lo n A .any ops a0 G (Vr A n D E q)) (fun listed x y i hI hi => step listed x y i hI hi (by have := List.mem_range.1 (List.mem_filter.1 hi).1; omega)) ?_ _ _ _ _ (open_rep _) ?_
 ·
  intro listed x y hI hr
  have hall := all_listed hd hr (by rw [hI.lz, hops])
  obtain ⟨l, hl, rfl⟩ := frame_of hI.df hI.sz hI.out hsz
  exact done l y hl (hI.v.2 (hall n (by omega)))
 ·
  refine ⟨rfl, rfl, fun _ _ => rfl, by simp [hops], ?_, ?_, ?_⟩
  ·
   intro i j _ h
   rw [rep_false] at h; cases h
  ·
   intro i _ h
   rw [rep_false] at h; cases h
  ·
   have h1 := open_rep ops.size
   exact Vr.mk hD (by omega) (rep_false _ _)
theorem wp_hide {P : Program} {o : Oper} {a : Act} {w : World} {I : Act → World → Prop} {Q : Exit → Act → World → Prop} (h : ∀ K : Act → World → Prop, Hid (∀ a w, I a w → K a w) → o.wp P a w K Q) : o.wp P a w I Q := h I (fun _ _ h => h)
end Go.Proofs.YtgakmkhbnjofhaaGreatDoor
