import Derived.Test.YtgakmkhbnjofhaaGreatDoorJ12
import Derived.Test.YtgakmkhbnjofhaaGreatDoorJ05
namespace Go.Proofs.YtgakmkhbnjofhaaGreatDoor
open Go.RowKit
set_option linter.unusedVariables false
theorem specDecI (n : Int) (w : World) (h0 : 0 ≤ n) (h1 : n < 1000000000) :
  Calls Tryz.prog 28 #[.int .i64 n] w fun e w' => e = .returned (.string (decT n)) ∧ Below w.heap.size w w' := by
 obtain ⟨k, rfl⟩ := Int.eq_ofNat_of_zero_le h0
 exact specDec k w (by omega)
theorem decT_le (n : Int) (h0 : 0 ≤ n) (h1 : n < 1000000000) : (decT n).size ≤ 1000000000 := by
 obtain ⟨k, rfl⟩ := Int.eq_ofNat_of_zero_le h0
 have := decT_size k
 omega
def catL : List ByteArray → ByteArray
 | [] => { data := #[] }
 | x :: l => l.foldl (· ++ ·) x
theorem fold_le (M : Nat) : ∀ (l : List ByteArray) (x : ByteArray), (∀ p ∈ l, p.size ≤ M) → (l.foldl (· ++ ·) x).size ≤ x.size + l.length * M
 | [], x, _ => by simp
 | p :: l, x, h => by
  have h1 := fold_le M l (x ++ p) (fun q hq => h q (List.mem_cons_of_mem _ hq))
  have h2 := h p (List.mem_cons_self ..)
  rw [ByteArray.size_append] at h1
  rw [List.foldl_cons, List.length_cons, Nat.succ_mul]
  omega
theorem catL_le (M : Nat) (l : List ByteArray) (h : ∀ p ∈ l, p.size ≤ M) : (catL l).size ≤ l.length * M := by
 cases l with
 | nil => exact Nat.zero_le _
 | cons x l =>
  have h1 := fold_le M l x (fun q hq => h q (List.mem_cons_of_mem _ hq))
  have h2 := h x (List.mem_cons_self ..)
  show (l.foldl (· ++ ·) x).size ≤ _
  rw [List.length_cons, Nat.succ_mul]
  omega
theorem cat_room (l : List ByteArray) (k : Nat) (h : ∀ p ∈ l, p.size ≤ 1000000000) (hl : l.length ≤ 100) : ¬ (9223372036854775807 < (catL (l.take k)).size + (l.getD k { data := #[] }).size) := by
 have h1 := catL_le 1000000000 (l.take k) (fun p hp => h p (List.mem_of_mem_take hp))
 have h2 : (l.take k).length ≤ 100 := Nat.le_trans (by simp; omega) hl
 have h3 : (l.getD k { data := #[] }).size ≤ 1000000000 := by
  rw [List.getD_eq_getElem?_getD]
  cases e : l[k]? with
  | none => exact Nat.zero_le _
  | some p => exact h p (List.mem_of_getElem? e)
 have h4 : (l.take k).length * 1000000000 ≤ 100 * 1000000000 := Nat.mul_le_mul_right _ h2
 omega
theorem cat_room1 (l : List ByteArray) (h : ∀ p ∈ l, p.size ≤ 1000000000) (hl : l.length ≤ 100) : ¬ (9223372036854775807 < (l.getD 0 { data := #[] }).size + (l.getD 1 { data := #[] }).size) := by
 have h3 : ∀ k, (l.getD k { data := #[] }).size ≤ 1000000000 := fun k => by
  rw [List.getD_eq_getElem?_getD]
  cases e : l[k]? with
  | none => exact Nat.zero_le _
  | some p => exact h p (List.mem_of_getElem? e)
 have := h3 0
 have := h3 1
 omega
def holdT (h : ByteArray) : ByteArray := if h.toList.isEmpty = true then { data := #[42] } else h
def NumW (n : Int) : Prop := 0 ≤ n ∧ n < 1000000000
structure Writes (r : W.WantD) : Prop where
 c : r.c.size ≤ 1000000
 h : r.h.size ≤ 1000000
 v : NumW r.v
 p : NumW r.p
 s : NumW r.s
 d : NumW r.d
 g : NumW r.g
def wantT (r : W.WantD) : ByteArray := (fun (c h2 : ByteArray) (v1 p1 s1 d1 g1 : Int) => catL [{ data := #[119, 97, 110, 116, 32] }, c, { data := #[32] }, (decT v1), { data := #[32] }, h2, { data := #[32] }, (decT p1), { data := #[32] }, (decT s1), { data := #[32] }, (decT d1), { data := #[32] }, (decT g1), { data := #[10] }]) r.c (holdT r.h) r.v r.p r.s r.d r.g
def slWnt : Nat → Nat
 | 0 => 8
 | 1 => 9
 | 2 => 10
 | 3 => 11
 | 4 => 12
 | 5 => 13
 | 6 => 14
 | 7 => 15
 | 8 => 16
 | 9 => 17
 | 10 => 18
 | 11 => 19
 | 12 => 20
 | 13 => 21
 | 14 => 22
 | 15 => 23
 | 16 => 24
 | 17 => 25
 | 18 => 26
 | 19 => 27
 | 20 => 28
 | 21 => 29
 | 22 => 30
 | 23 => 31
 | 24 => 32
 | 25 => 33
 | 26 => 34
 | 27 => 35
 | 28 => 36
 | 29 => 37
 | 30 => 38
 | 31 => 39
 | 32 => 2
 | _ => 0
theorem slWnt_inj {i : Nat} (hi : i < 33) : ∀ j, j < 33 → slWnt j = slWnt i → j = i := by
 have h : ∀ a : _root_.Fin 33, ∀ b : _root_.Fin 33, slWnt b.val = slWnt a.val → b.val = a.val := by decide
 intro j hj e
 exact h ⟨i, hi⟩ ⟨j, hj⟩ e
theorem slWnt_out (k : Nat) (h : (List.range 33).all (fun i => slWnt i != k) = true) : ∀ i, i < 33 → slWnt i ≠ k := fun i hi e => by
 have h1 := List.all_eq_true.1 h i (List.mem_range.2 hi)
 rw [e] at h1
 simp at h1
def GWnt (bm : Nat) (c h h2 : ByteArray) (v1 p1 s1 d1 g1 : Int) (w : World) : Nat → Value → Prop
 | 0, v => v = .pointer (some ⟨bm, 0, none⟩)
 | 1, v => v = .string c
 | 2, v => v = .string (catL [{ data := #[119, 97, 110, 116, 32] }, c])
 | 3, v => v = .string (catL [{ data := #[119, 97, 110, 116, 32] }, c, { data := #[32] }])
 | 4, v => v = .pointer (some ⟨bm, 1, none⟩)
 | 5, v => v = .int .i64 v1
 | 6, v => v = .string (decT v1)
 | 7, v => v = .string (catL [{ data := #[119, 97, 110, 116, 32] }, c, { data := #[32] }, (decT v1)])
 | 8, v => v = .string (catL [{ data := #[119, 97, 110, 116, 32] }, c, { data := #[32] }, (decT v1), { data := #[32] }])
 | 9, v => v = .string h2
 | 10, v => v = .string (catL [{ data := #[119, 97, 110, 116, 32] }, c, { data := #[32] }, (decT v1), { data := #[32] }, h2])
 | 11, v => v = .string (catL [{ data := #[119, 97, 110, 116, 32] }, c, { data := #[32] }, (decT v1), { data := #[32] }, h2, { data := #[32] }])
 | 12, v => v = .pointer (some ⟨bm, 3, none⟩)
 | 13, v => v = .int .i64 p1
 | 14, v => v = .string (decT p1)
 | 15, v => v = .string (catL [{ data := #[119, 97, 110, 116, 32] }, c, { data := #[32] }, (decT v1), { data := #[32] }, h2, { data := #[32] }, (decT p1)])
 | 16, v => v = .string (catL [{ data := #[119, 97, 110, 116, 32] }, c, { data := #[32] }, (decT v1), { data := #[32] }, h2, { data := #[32] }, (decT p1), { data := #[32] }])
 | 17, v => v = .pointer (some ⟨bm, 4, none⟩)
 | 18, v => v = .int .i64 s1
 | 19, v => v = .string (decT s1)
 | 20, v => v = .string (catL [{ data := #[119, 97, 110, 116, 32] }, c, { data := #[32] }, (decT v1), { data := #[32] }, h2, { data := #[32] }, (decT p1), { data := #[32] }, (decT s1)])
 | 21, v => v = .string (catL [{ data := #[119, 97, 110, 116, 32] }, c, { data := #[32] }, (decT v1), { data := #[32] }, h2, { data := #[32] }, (decT p1), { data := #[32] }, (decT s1), { data := #[32] }])
 | 22, v => v = .pointer (some ⟨bm, 5, none⟩)
 | 23, v => v = .int .i64 d1
 | 24, v => v = .string (decT d1)
 | 25, v => v = .string (catL [{ data := #[119, 97, 110, 116, 32] }, c, { data := #[32] }, (decT v1), { data := #[32] }, h2, { data := #[32] }, (decT p1), { data := #[32] }, (decT s1), { data := #[32] }, (decT d1)])
 | 26, v => v = .string (catL [{ data := #[119, 97, 110, 116, 32] }, c, { data := #[32] }, (decT v1), { data := #[32] }, h2, { data := #[32] }, (decT p1), { data := #[32] }, (decT s1), { data := #[32] }, (decT d1), { data := #[32] }])
 | 27, v => v = .pointer (some ⟨bm, 6, none⟩)
 | 28, v => v = .int .i64 g1
 | 29, v => v = .string (decT g1)
 | 30, v => v = .string (catL [{ data := #[119, 97, 110, 116, 32] }, c, { data := #[32] }, (decT v1), { data := #[32] }, h2, { data := #[32] }, (decT p1), { data := #[32] }, (decT s1), { data := #[32] }, (decT d1), { data := #[32] }, (decT g1)])
 | 31, v => v = .string (catL [{ data := #[119, 97, 110, 116, 32] }, c, { data := #[32] }, (decT v1), { data := #[32] }, h2, { data := #[32] }, (decT p1), { data := #[32] }, (decT s1), { data := #[32] }, (decT d1), { data := #[32] }, (decT g1), { data := #[10] }])
 | 32, v => v = .string (catL [{ data := #[119, 97, 110, 116, 32] }, c, { data := #[32] }, (decT v1), { data := #[32] }, h2, { data := #[32] }, (decT p1), { data := #[32] }, (decT s1), { data := #[32] }, (decT d1), { data := #[32] }, (decT g1), { data := #[10] }])
 | _, _ => True
theorem GWnt.keep {bm : Nat} {c h h2 : ByteArray} {v1 p1 s1 d1 g1 : Int} {w w' : World} (hb : Below w.heap.size w w') : ∀ i v, GWnt bm c h h2 v1 p1 s1 d1 g1 w i v → GWnt bm c h h2 v1 p1 s1 d1 g1 w' i v
 | 0, _, h => h
 | 1, _, h => h
 | 2, _, h => h
 | 3, _, h => h
 | 4, _, h => h
 | 5, _, h => h
 | 6, _, h => h
 | 7, _, h => h
 | 8, _, h => h
 | 9, _, h => h
 | 10, _, h => h
 | 11, _, h => h
 | 12, _, h => h
 | 13, _, h => h
 | 14, _, h => h
 | 15, _, h => h
 | 16, _, h => h
 | 17, _, h => h
 | 18, _, h => h
 | 19, _, h => h
 | 20, _, h => h
 | 21, _, h => h
 | 22, _, h => h
 | 23, _, h => h
 | 24, _, h => h
 | 25, _, h => h
 | 26, _, h => h
 | 27, _, h => h
 | 28, _, h => h
 | 29, _, h => h
 | 30, _, h => h
 | 31, _, h => h
 | 32, _, h => h
 | _ + 33, _, h => h
set_option maxRecDepth 4000 in
set_option maxHeartbeats 4000000 in
theorem specWantT (r : W.WantD) (w : World) (hr : Writes r) :
  Calls Tryz.prog 29 #[.agg #[.string r.c, .int .i64 r.v, .string r.h, .int .i64 r.p, .int .i64 r.s, .int .i64 r.d, .int .i64 r.g]] w fun e w' => e = .returned (.string (wantT r)) ∧ Below w.heap.size w w' := by
 obtain ⟨c, h, v1, p1, s1, d1, g1⟩ := r
 obtain ⟨zc, zh, ⟨v0, v2⟩, ⟨p0, p2⟩, ⟨s0, s2⟩, ⟨d0, d2⟩, ⟨g0, g2⟩⟩ := hr
 simp only at zc zh v0 v2 p0 p2 s0 s2 d0 d2 g0 g2
 obtain ⟨W1, hW1⟩ : ∃ W1, W1 = w.alloc (.cells #[.string c, .int .i64 v1, .string h, .int .i64 p1, .int .i64 s1, .int .i64 d1, .int .i64 g1] 46) := ⟨_, rfl⟩
 have HB : Hid (Below w.heap.size w W1) := by rw [hW1]; exact bl_alloc (Below.refl _ _) _
 have KX : Hid (∀ y, Below W1.heap.size W1 y → ∀ k, y.cell? ⟨w.heap.size, k, none⟩ = (#[.string c, .int .i64 v1, .string h, .int .i64 p1, .int .i64 s1, .int .i64 d1, .int .i64 g1] : Array Value)[k]?) := by
  intro y hb k
  rw [hW1] at hb
  rw [box_keep hb k]
  simp [go_sem]
 have HW1 : Hid (W1 = w.alloc (.cells #[.string c, .int .i64 v1, .string h, .int .i64 p1, .int .i64 s1, .int .i64 d1, .int .i64 g1] 46)) := hW1
 clear hW1
 have hh2 : (holdT h).size ≤ 1000000000 := by unfold holdT; split; decide; omega
 have HH : Hid (holdT h = (if h.toList.isEmpty = true then { data := #[42] } else h)) := rfl
 have hP : ∀ h2 : ByteArray, h2.size ≤ 1000000000 → ∀ p ∈ [{ data := #[119, 97, 110, 116, 32] }, c, { data := #[32] }, (decT v1), { data := #[32] }, h2, { data := #[32] }, (decT p1), { data := #[32] }, (decT s1), { data := #[32] }, (decT d1), { data := #[32] }, (decT g1), { data := #[10] }], p.size ≤ 1000000000 := by
  intro h2 z2 p hp
  have k1 := decT_le v1 v0 v2
  have k2 := decT_le p1 p0 p2
  have k3 := decT_le s1 s0 s2
  have k4 := decT_le d1 d0 d2
  have k5 := decT_le g1 g0 g2
  simp only [List.mem_cons, List.not_mem_nil, or_false] at hp
  rcases hp with rfl | rfl | rfl | rfl | rfl | rfl | rfl | rfl | rfl | rfl | rfl | rfl | rfl | rfl | rfl
  all_goals first | assumption | decide | omega
 have HPP : Hid (∀ h2 : ByteArray, h2.size ≤ 1000000000 → ∀ p ∈ [{ data := #[119, 97, 110, 116, 32] }, c, { data := #[32] }, (decT v1), { data := #[32] }, h2, { data := #[32] }, (decT p1), { data := #[32] }, (decT s1), { data := #[32] }, (decT d1), { data := #[32] }, (decT g1), { data := #[10] }], p.size ≤ 1000000000) := hP
 clear hP
 show Calls Tryz.prog 29 #[.agg #[.string c, .int .i64 v1, .string h, .int .i64 p1, .int .i64 s1, .int .i64 d1, .int .i64 g1]] w _
 cases hq : h.toList.isEmpty
 ·
  have HP : Hid (∀ p ∈ [{ data := #[119, 97, 110, 116, 32] }, c, { data := #[32] }, (decT v1), { data := #[32] }, h, { data := #[32] }, (decT p1), { data := #[32] }, (decT s1), { data := #[32] }, (decT d1), { data := #[32] }, (decT g1), { data := #[10] }], p.size ≤ 1000000000) := HPP.out h (by first | decide | omega)
  have e0 : holdT h = h := (by rw [HH.out, hq]; rfl)
  have hT0 : wantT ⟨c, h, v1, p1, s1, d1, g1⟩ = catL [{ data := #[119, 97, 110, 116, 32] }, c, { data := #[32] }, (decT v1), { data := #[32] }, h, { data := #[32] }, (decT p1), { data := #[32] }, (decT s1), { data := #[32] }, (decT d1), { data := #[32] }, (decT g1), { data := #[10] }] := (by unfold wantT; dsimp only; rw [e0])
  have HT : Hid (wantT ⟨c, h, v1, p1, s1, d1, g1⟩ = catL [{ data := #[119, 97, 110, 116, 32] }, c, { data := #[32] }, (decT v1), { data := #[32] }, h, { data := #[32] }, (decT p1), { data := #[32] }, (decT s1), { data := #[32] }, (decT d1), { data := #[32] }, (decT g1), { data := #[10] }]) := hT0
  clear hT0 e0
  go_enter Tryz.func29, Tryz.ntmps29
  go_wp2_with fail
  rw [← HW1.out]
  refine wp_region_any (by kernel_rfl) ?_
  refine reg_invP slWnt 33 (GWnt w.heap.size c h h v1 p1 s1 d1 g1) (fun y => Below W1.heap.size W1 y) (by decide) rfl (bl_drew (Below.refl _ _)) ?donewa ?stepwa
  case donewa =>
   intro a y hI
   have r2 : a.tmps[2]?.getD undef = .string (catL [{ data := #[119, 97, 110, 116, 32] }, c, { data := #[32] }, (decT v1), { data := #[32] }, h, { data := #[32] }, (decT p1), { data := #[32] }, (decT s1), { data := #[32] }, (decT d1), { data := #[32] }, (decT g1), { data := #[10] }]) := ev_tmp (hI.all 32 (by omega))
   have df := hI.df
   go_wp2
   exact bodyPost_ret (v := .string (catL [{ data := #[119, 97, 110, 116, 32] }, c, { data := #[32] }, (decT v1), { data := #[32] }, h, { data := #[32] }, (decT p1), { data := #[32] }, (decT s1), { data := #[32] }, (decT d1), { data := #[32] }, (decT g1), { data := #[10] }])) (by simp [results, Tryz.results29, go_sem, r2]) df ⟨by rw [HT.out], bl_trans HB.out hI.d⟩
  case stepwa =>
   intro listed x y i hI hi hlt
   obtain rfl | rfl | rfl | rfl | rfl | rfl | rfl | rfl | rfl | rfl | rfl | rfl | rfl | rfl | rfl | rfl | rfl | rfl | rfl | rfl | rfl | rfl | rfl | rfl | rfl | rfl | rfl | rfl | rfl | rfl | rfl | rfl | rfl : i = 0 ∨ i = 1 ∨ i = 2 ∨ i = 3 ∨ i = 4 ∨ i = 5 ∨ i = 6 ∨ i = 7 ∨ i = 8 ∨ i = 9 ∨ i = 10 ∨ i = 11 ∨ i = 12 ∨ i = 13 ∨ i = 14 ∨ i = 15 ∨ i = 16 ∨ i = 17 ∨ i = 18 ∨ i = 19 ∨ i = 20 ∨ i = 21 ∨ i = 22 ∨ i = 23 ∨ i = 24 ∨ i = 25 ∨ i = 26 ∨ i = 27 ∨ i = 28 ∨ i = 29 ∨ i = 30 ∨ i = 31 ∨ i = 32 := by omega
   ·
    clear hi
    refine wpOp_plain rfl rfl (wp_cover fun K hK => ?_)
    have i1 : x.tmps[1]?.getD undef = _ := ev_tmp (hI.out 1 (slWnt_out 1 (by decide)))
    have HJ := hidP hI
    clear hI
    go_simp
    exact HJ.out.sm hK (by omega) (lb rfl) (slWnt_inj (by omega)) rfl
   ·
    have gd0 := hI.good 0 (by omega) (waits_of hi (j := 0) (by rfl))
    clear hi
    refine wpOp_plain rfl rfl (wp_cover fun K hK => ?_)
    have ed0 : x.tmps[8]?.getD undef = _ := ev_tmp gd0
    have k9 : y.cell? ⟨w.heap.size, 0, none⟩ = some (.string c) := KX.out y hI.d 0
    have HJ := hidP hI
    clear hI gd0
    go_simp
    exact HJ.out.sm hK (by omega) (lb rfl) (slWnt_inj (by omega)) rfl
   ·
    have gd1 := hI.good 1 (by omega) (waits_of hi (j := 1) (by rfl))
    clear hi
    refine wpOp_plain rfl rfl (wp_cover fun K hK => ?_)
    have ed1 : x.tmps[9]?.getD undef = _ := ev_tmp gd1
    have hz : ¬ (9223372036854775807 < 5 + (c).size) := by have h := cat_room1 [{ data := #[119, 97, 110, 116, 32] }, c, { data := #[32] }, (decT v1), { data := #[32] }, h, { data := #[32] }, (decT p1), { data := #[32] }, (decT s1), { data := #[32] }, (decT d1), { data := #[32] }, (decT g1), { data := #[10] }] HP.out (lb rfl); exact h
    have HJ := hidP hI
    clear hI gd1
    go_simp
    exact HJ.out.sm hK (by omega) (lb rfl) (slWnt_inj (by omega)) rfl
   ·
    have gd2 := hI.good 2 (by omega) (waits_of hi (j := 2) (by rfl))
    clear hi
    refine wpOp_plain rfl rfl (wp_cover fun K hK => ?_)
    have ed2 : x.tmps[10]?.getD undef = _ := ev_tmp gd2
    have hz : ¬ (9223372036854775807 < (catL [{ data := #[119, 97, 110, 116, 32] }, c]).size + 1) := by have h := cat_room [{ data := #[119, 97, 110, 116, 32] }, c, { data := #[32] }, (decT v1), { data := #[32] }, h, { data := #[32] }, (decT p1), { data := #[32] }, (decT s1), { data := #[32] }, (decT d1), { data := #[32] }, (decT g1), { data := #[10] }] 2 HP.out (lb rfl); exact h
    have HJ := hidP hI
    clear hI gd2
    go_simp
    exact HJ.out.sm hK (by omega) (lb rfl) (slWnt_inj (by omega)) rfl
   ·
    clear hi
    refine wpOp_plain rfl rfl (wp_cover fun K hK => ?_)
    have i1 : x.tmps[1]?.getD undef = _ := ev_tmp (hI.out 1 (slWnt_out 1 (by decide)))
    have HJ := hidP hI
    clear hI
    go_simp
    exact HJ.out.sm hK (by omega) (lb rfl) (slWnt_inj (by omega)) rfl
   ·
    have gd4 := hI.good 4 (by omega) (waits_of hi (j := 4) (by rfl))
    clear hi
    refine wpOp_plain rfl rfl (wp_cover fun K hK => ?_)
    have ed4 : x.tmps[12]?.getD undef = _ := ev_tmp gd4
    have k9 : y.cell? ⟨w.heap.size, 1, none⟩ = some (.int .i64 v1) := KX.out y hI.d 1
    have HJ := hidP hI
    clear hI gd4
    go_simp
    exact HJ.out.sm hK (by omega) (lb rfl) (slWnt_inj (by omega)) rfl
   ·
    have gd5 := hI.good 5 (by omega) (waits_of hi (j := 5) (by rfl))
    clear hi
    refine wpOp_plain rfl rfl (wp_cover fun K hK => ?_)
    have ed5 : x.tmps[13]?.getD undef = _ := ev_tmp gd5
    have HJ := hidP hI
    clear hI gd5
    go_simp
    refine (specDecI v1 y (by first | assumption | omega) (by first | assumption | omega)).mono ?_
    rintro e y' ⟨rfl, hb⟩
    exact hK.out _ _ (HJ.out.put (by omega) (lb rfl) (slWnt_inj (by omega)) (rfl) (fun j u _ h => GWnt.keep hb j u h) (bl_trans HJ.out.d hb))
   ·
    have gd3 := hI.good 3 (by omega) (waits_of hi (j := 3) (by rfl))
    have gd6 := hI.good 6 (by omega) (waits_of hi (j := 6) (by rfl))
    clear hi
    refine wpOp_plain rfl rfl (wp_cover fun K hK => ?_)
    have ed3 : x.tmps[11]?.getD undef = _ := ev_tmp gd3
    have ed6 : x.tmps[14]?.getD undef = _ := ev_tmp gd6
    have hz : ¬ (9223372036854775807 < (catL [{ data := #[119, 97, 110, 116, 32] }, c, { data := #[32] }]).size + ((decT v1)).size) := by have h := cat_room [{ data := #[119, 97, 110, 116, 32] }, c, { data := #[32] }, (decT v1), { data := #[32] }, h, { data := #[32] }, (decT p1), { data := #[32] }, (decT s1), { data := #[32] }, (decT d1), { data := #[32] }, (decT g1), { data := #[10] }] 3 HP.out (lb rfl); exact h
    have HJ := hidP hI
    clear hI gd3 gd6
    go_simp
    exact HJ.out.sm hK (by omega) (lb rfl) (slWnt_inj (by omega)) rfl
   ·
    have gd7 := hI.good 7 (by omega) (waits_of hi (j := 7) (by rfl))
    clear hi
    refine wpOp_plain rfl rfl (wp_cover fun K hK => ?_)
    have ed7 : x.tmps[15]?.getD undef = _ := ev_tmp gd7
    have hz : ¬ (9223372036854775807 < (catL [{ data := #[119, 97, 110, 116, 32] }, c, { data := #[32] }, (decT v1)]).size + 1) := by have h := cat_room [{ data := #[119, 97, 110, 116, 32] }, c, { data := #[32] }, (decT v1), { data := #[32] }, h, { data := #[32] }, (decT p1), { data := #[32] }, (decT s1), { data := #[32] }, (decT d1), { data := #[32] }, (decT g1), { data := #[10] }] 4 HP.out (lb rfl); exact h
    have HJ := hidP hI
    clear hI gd7
    go_simp
    exact HJ.out.sm hK (by omega) (lb rfl) (slWnt_inj (by omega)) rfl
   ·
    clear hi
    refine wpOp_plain rfl rfl (wp_cover fun K hK => ?_)
    have i3 : x.tmps[3]?.getD undef = _ := ev_tmp (hI.out 3 (slWnt_out 3 (by decide)))
    have HJ := hidP hI
    clear hI
    go_simp
    exact HJ.out.sm hK (by omega) (lb rfl) (slWnt_inj (by omega)) rfl
   ·
    have gd8 := hI.good 8 (by omega) (waits_of hi (j := 8) (by rfl))
    have gd9 := hI.good 9 (by omega) (waits_of hi (j := 9) (by rfl))
    clear hi
    refine wpOp_plain rfl rfl (wp_cover fun K hK => ?_)
    have ed8 : x.tmps[16]?.getD undef = _ := ev_tmp gd8
    have ed9 : x.tmps[17]?.getD undef = _ := ev_tmp gd9
    have hz : ¬ (9223372036854775807 < (catL [{ data := #[119, 97, 110, 116, 32] }, c, { data := #[32] }, (decT v1), { data := #[32] }]).size + (h).size) := by have h := cat_room [{ data := #[119, 97, 110, 116, 32] }, c, { data := #[32] }, (decT v1), { data := #[32] }, h, { data := #[32] }, (decT p1), { data := #[32] }, (decT s1), { data := #[32] }, (decT d1), { data := #[32] }, (decT g1), { data := #[10] }] 5 HP.out (lb rfl); exact h
    have HJ := hidP hI
    clear hI gd8 gd9
    go_simp
    exact HJ.out.sm hK (by omega) (lb rfl) (slWnt_inj (by omega)) rfl
   ·
    have gd10 := hI.good 10 (by omega) (waits_of hi (j := 10) (by rfl))
    clear hi
    refine wpOp_plain rfl rfl (wp_cover fun K hK => ?_)
    have ed10 : x.tmps[18]?.getD undef = _ := ev_tmp gd10
    have hz : ¬ (9223372036854775807 < (catL [{ data := #[119, 97, 110, 116, 32] }, c, { data := #[32] }, (decT v1), { data := #[32] }, h]).size + 1) := by have h := cat_room [{ data := #[119, 97, 110, 116, 32] }, c, { data := #[32] }, (decT v1), { data := #[32] }, h, { data := #[32] }, (decT p1), { data := #[32] }, (decT s1), { data := #[32] }, (decT d1), { data := #[32] }, (decT g1), { data := #[10] }] 6 HP.out (lb rfl); exact h
    have HJ := hidP hI
    clear hI gd10
    go_simp
    exact HJ.out.sm hK (by omega) (lb rfl) (slWnt_inj (by omega)) rfl
   ·
    clear hi
    refine wpOp_plain rfl rfl (wp_cover fun K hK => ?_)
    have i1 : x.tmps[1]?.getD undef = _ := ev_tmp (hI.out 1 (slWnt_out 1 (by decide)))
    have HJ := hidP hI
    clear hI
    go_simp
    exact HJ.out.sm hK (by omega) (lb rfl) (slWnt_inj (by omega)) rfl
   ·
    have gd12 := hI.good 12 (by omega) (waits_of hi (j := 12) (by rfl))
    clear hi
    refine wpOp_plain rfl rfl (wp_cover fun K hK => ?_)
    have ed12 : x.tmps[20]?.getD undef = _ := ev_tmp gd12
    have k9 : y.cell? ⟨w.heap.size, 3, none⟩ = some (.int .i64 p1) := KX.out y hI.d 3
    have HJ := hidP hI
    clear hI gd12
    go_simp
    exact HJ.out.sm hK (by omega) (lb rfl) (slWnt_inj (by omega)) rfl
   ·
    have gd13 := hI.good 13 (by omega) (waits_of hi (j := 13) (by rfl))
    clear hi
    refine wpOp_plain rfl rfl (wp_cover fun K hK => ?_)
    have ed13 : x.tmps[21]?.getD undef = _ := ev_tmp gd13
    have HJ := hidP hI
    clear hI gd13
    go_simp
    refine (specDecI p1 y (by first | assumption | omega) (by first | assumption | omega)).mono ?_
    rintro e y' ⟨rfl, hb⟩
    exact hK.out _ _ (HJ.out.put (by omega) (lb rfl) (slWnt_inj (by omega)) (rfl) (fun j u _ h => GWnt.keep hb j u h) (bl_trans HJ.out.d hb))
   ·
    have gd11 := hI.good 11 (by omega) (waits_of hi (j := 11) (by rfl))
    have gd14 := hI.good 14 (by omega) (waits_of hi (j := 14) (by rfl))
    clear hi
    refine wpOp_plain rfl rfl (wp_cover fun K hK => ?_)
    have ed11 : x.tmps[19]?.getD undef = _ := ev_tmp gd11
    have ed14 : x.tmps[22]?.getD undef = _ := ev_tmp gd14
    have hz : ¬ (9223372036854775807 < (catL [{ data := #[119, 97, 110, 116, 32] }, c, { data := #[32] }, (decT v1), { data := #[32] }, h, { data := #[32] }]).size + ((decT p1)).size) := by have h := cat_room [{ data := #[119, 97, 110, 116, 32] }, c, { data := #[32] }, (decT v1), { data := #[32] }, h, { data := #[32] }, (decT p1), { data := #[32] }, (decT s1), { data := #[32] }, (decT d1), { data := #[32] }, (decT g1), { data := #[10] }] 7 HP.out (lb rfl); exact h
    have HJ := hidP hI
    clear hI gd11 gd14
    go_simp
    exact HJ.out.sm hK (by omega) (lb rfl) (slWnt_inj (by omega)) rfl
   ·
    have gd15 := hI.good 15 (by omega) (waits_of hi (j := 15) (by rfl))
    clear hi
    refine wpOp_plain rfl rfl (wp_cover fun K hK => ?_)
    have ed15 : x.tmps[23]?.getD undef = _ := ev_tmp gd15
    have hz : ¬ (9223372036854775807 < (catL [{ data := #[119, 97, 110, 116, 32] }, c, { data := #[32] }, (decT v1), { data := #[32] }, h, { data := #[32] }, (decT p1)]).size + 1) := by have h := cat_room [{ data := #[119, 97, 110, 116, 32] }, c, { data := #[32] }, (decT v1), { data := #[32] }, h, { data := #[32] }, (decT p1), { data := #[32] }, (decT s1), { data := #[32] }, (decT d1), { data := #[32] }, (decT g1), { data := #[10] }] 8 HP.out (lb rfl); exact h
    have HJ := hidP hI
    clear hI gd15
    go_simp
    exact HJ.out.sm hK (by omega) (lb rfl) (slWnt_inj (by omega)) rfl
   ·
    clear hi
    refine wpOp_plain rfl rfl (wp_cover fun K hK => ?_)
    have i1 : x.tmps[1]?.getD undef = _ := ev_tmp (hI.out 1 (slWnt_out 1 (by decide)))
    have HJ := hidP hI
    clear hI
    go_simp
    exact HJ.out.sm hK (by omega) (lb rfl) (slWnt_inj (by omega)) rfl
   ·
    have gd17 := hI.good 17 (by omega) (waits_of hi (j := 17) (by rfl))
    clear hi
    refine wpOp_plain rfl rfl (wp_cover fun K hK => ?_)
    have ed17 : x.tmps[25]?.getD undef = _ := ev_tmp gd17
    have k9 : y.cell? ⟨w.heap.size, 4, none⟩ = some (.int .i64 s1) := KX.out y hI.d 4
    have HJ := hidP hI
    clear hI gd17
    go_simp
    exact HJ.out.sm hK (by omega) (lb rfl) (slWnt_inj (by omega)) rfl
   ·
    have gd18 := hI.good 18 (by omega) (waits_of hi (j := 18) (by rfl))
    clear hi
    refine wpOp_plain rfl rfl (wp_cover fun K hK => ?_)
    have ed18 : x.tmps[26]?.getD undef = _ := ev_tmp gd18
    have HJ := hidP hI
    clear hI gd18
    go_simp
    refine (specDecI s1 y (by first | assumption | omega) (by first | assumption | omega)).mono ?_
    rintro e y' ⟨rfl, hb⟩
    exact hK.out _ _ (HJ.out.put (by omega) (lb rfl) (slWnt_inj (by omega)) (rfl) (fun j u _ h => GWnt.keep hb j u h) (bl_trans HJ.out.d hb))
   ·
    have gd16 := hI.good 16 (by omega) (waits_of hi (j := 16) (by rfl))
    have gd19 := hI.good 19 (by omega) (waits_of hi (j := 19) (by rfl))
    clear hi
    refine wpOp_plain rfl rfl (wp_cover fun K hK => ?_)
    have ed16 : x.tmps[24]?.getD undef = _ := ev_tmp gd16
    have ed19 : x.tmps[27]?.getD undef = _ := ev_tmp gd19
    have hz : ¬ (9223372036854775807 < (catL [{ data := #[119, 97, 110, 116, 32] }, c, { data := #[32] }, (decT v1), { data := #[32] }, h, { data := #[32] }, (decT p1), { data := #[32] }]).size + ((decT s1)).size) := by have h := cat_room [{ data := #[119, 97, 110, 116, 32] }, c, { data := #[32] }, (decT v1), { data := #[32] }, h, { data := #[32] }, (decT p1), { data := #[32] }, (decT s1), { data := #[32] }, (decT d1), { data := #[32] }, (decT g1), { data := #[10] }] 9 HP.out (lb rfl); exact h
    have HJ := hidP hI
    clear hI gd16 gd19
    go_simp
    exact HJ.out.sm hK (by omega) (lb rfl) (slWnt_inj (by omega)) rfl
   ·
    have gd20 := hI.good 20 (by omega) (waits_of hi (j := 20) (by rfl))
    clear hi
    refine wpOp_plain rfl rfl (wp_cover fun K hK => ?_)
    have ed20 : x.tmps[28]?.getD undef = _ := ev_tmp gd20
    have hz : ¬ (9223372036854775807 < (catL [{ data := #[119, 97, 110, 116, 32] }, c, { data := #[32] }, (decT v1), { data := #[32] }, h, { data := #[32] }, (decT p1), { data := #[32] }, (decT s1)]).size + 1) := by have h := cat_room [{ data := #[119, 97, 110, 116, 32] }, c, { data := #[32] }, (decT v1), { data := #[32] }, h, { data := #[32] }, (decT p1), { data := #[32] }, (decT s1), { data := #[32] }, (decT d1), { data := #[32] }, (decT g1), { data := #[10] }] 10 HP.out (lb rfl); exact h
    have HJ := hidP hI
    clear hI gd20
    go_simp
    exact HJ.out.sm hK (by omega) (lb rfl) (slWnt_inj (by omega)) rfl
   ·
    clear hi
    refine wpOp_plain rfl rfl (wp_cover fun K hK => ?_)
    have i1 : x.tmps[1]?.getD undef = _ := ev_tmp (hI.out 1 (slWnt_out 1 (by decide)))
    have HJ := hidP hI
    clear hI
    go_simp
    exact HJ.out.sm hK (by omega) (lb rfl) (slWnt_inj (by omega)) rfl
   ·
    have gd22 := hI.good 22 (by omega) (waits_of hi (j := 22) (by rfl))
    clear hi
    refine wpOp_plain rfl rfl (wp_cover fun K hK => ?_)
    have ed22 : x.tmps[30]?.getD undef = _ := ev_tmp gd22
    have k9 : y.cell? ⟨w.heap.size, 5, none⟩ = some (.int .i64 d1) := KX.out y hI.d 5
    have HJ := hidP hI
    clear hI gd22
    go_simp
    exact HJ.out.sm hK (by omega) (lb rfl) (slWnt_inj (by omega)) rfl
   ·
    have gd23 := hI.good 23 (by omega) (waits_of hi (j := 23) (by rfl))
    clear hi
    refine wpOp_plain rfl rfl (wp_cover fun K hK => ?_)
    have ed23 : x.tmps[31]?.getD undef = _ := ev_tmp gd23
    have HJ := hidP hI
    clear hI gd23
    go_simp
    refine (specDecI d1 y (by first | assumption | omega) (by first | assumption | omega)).mono ?_
    rintro e y' ⟨rfl, hb⟩
    exact hK.out _ _ (HJ.out.put (by omega) (lb rfl) (slWnt_inj (by omega)) (rfl) (fun j u _ h => GWnt.keep hb j u h) (bl_trans HJ.out.d hb))
   ·
    have gd21 := hI.good 21 (by omega) (waits_of hi (j := 21) (by rfl))
    have gd24 := hI.good 24 (by omega) (waits_of hi (j := 24) (by rfl))
    clear hi
    refine wpOp_plain rfl rfl (wp_cover fun K hK => ?_)
    have ed21 : x.tmps[29]?.getD undef = _ := ev_tmp gd21
    have ed24 : x.tmps[32]?.getD undef = _ := ev_tmp gd24
    have hz : ¬ (9223372036854775807 < (catL [{ data := #[119, 97, 110, 116, 32] }, c, { data := #[32] }, (decT v1), { data := #[32] }, h, { data := #[32] }, (decT p1), { data := #[32] }, (decT s1), { data := #[32] }]).size + ((decT d1)).size) := by have h := cat_room [{ data := #[119, 97, 110, 116, 32] }, c, { data := #[32] }, (decT v1), { data := #[32] }, h, { data := #[32] }, (decT p1), { data := #[32] }, (decT s1), { data := #[32] }, (decT d1), { data := #[32] }, (decT g1), { data := #[10] }] 11 HP.out (lb rfl); exact h
    have HJ := hidP hI
    clear hI gd21 gd24
    go_simp
    exact HJ.out.sm hK (by omega) (lb rfl) (slWnt_inj (by omega)) rfl
   ·
    have gd25 := hI.good 25 (by omega) (waits_of hi (j := 25) (by rfl))
    clear hi
    refine wpOp_plain rfl rfl (wp_cover fun K hK => ?_)
    have ed25 : x.tmps[33]?.getD undef = _ := ev_tmp gd25
    have hz : ¬ (9223372036854775807 < (catL [{ data := #[119, 97, 110, 116, 32] }, c, { data := #[32] }, (decT v1), { data := #[32] }, h, { data := #[32] }, (decT p1), { data := #[32] }, (decT s1), { data := #[32] }, (decT d1)]).size + 1) := by have h := cat_room [{ data := #[119, 97, 110, 116, 32] }, c, { data := #[32] }, (decT v1), { data := #[32] }, h, { data := #[32] }, (decT p1), { data := #[32] }, (decT s1), { data := #[32] }, (decT d1), { data := #[32] }, (decT g1), { data := #[10] }] 12 HP.out (lb rfl); exact h
    have HJ := hidP hI
    clear hI gd25
    go_simp
    exact HJ.out.sm hK (by omega) (lb rfl) (slWnt_inj (by omega)) rfl
   ·
    clear hi
    refine wpOp_plain rfl rfl (wp_cover fun K hK => ?_)
    have i1 : x.tmps[1]?.getD undef = _ := ev_tmp (hI.out 1 (slWnt_out 1 (by decide)))
    have HJ := hidP hI
    clear hI
    go_simp
    exact HJ.out.sm hK (by omega) (lb rfl) (slWnt_inj (by omega)) rfl
   ·
    have gd27 := hI.good 27 (by omega) (waits_of hi (j := 27) (by rfl))
    clear hi
    refine wpOp_plain rfl rfl (wp_cover fun K hK => ?_)
    have ed27 : x.tmps[35]?.getD undef = _ := ev_tmp gd27
    have k9 : y.cell? ⟨w.heap.size, 6, none⟩ = some (.int .i64 g1) := KX.out y hI.d 6
    have HJ := hidP hI
    clear hI gd27
    go_simp
    exact HJ.out.sm hK (by omega) (lb rfl) (slWnt_inj (by omega)) rfl
   ·
    have gd28 := hI.good 28 (by omega) (waits_of hi (j := 28) (by rfl))
    clear hi
    refine wpOp_plain rfl rfl (wp_cover fun K hK => ?_)
    have ed28 : x.tmps[36]?.getD undef = _ := ev_tmp gd28
    have HJ := hidP hI
    clear hI gd28
    go_simp
    refine (specDecI g1 y (by first | assumption | omega) (by first | assumption | omega)).mono ?_
    rintro e y' ⟨rfl, hb⟩
    exact hK.out _ _ (HJ.out.put (by omega) (lb rfl) (slWnt_inj (by omega)) (rfl) (fun j u _ h => GWnt.keep hb j u h) (bl_trans HJ.out.d hb))
   ·
    have gd26 := hI.good 26 (by omega) (waits_of hi (j := 26) (by rfl))
    have gd29 := hI.good 29 (by omega) (waits_of hi (j := 29) (by rfl))
    clear hi
    refine wpOp_plain rfl rfl (wp_cover fun K hK => ?_)
    have ed26 : x.tmps[34]?.getD undef = _ := ev_tmp gd26
    have ed29 : x.tmps[37]?.getD undef = _ := ev_tmp gd29
    have hz : ¬ (9223372036854775807 < (catL [{ data := #[119, 97, 110, 116, 32] }, c, { data := #[32] }, (decT v1), { data := #[32] }, h, { data := #[32] }, (decT p1), { data := #[32] }, (decT s1), { data := #[32] }, (decT d1), { data := #[32] }]).size + ((decT g1)).size) := by have h := cat_room [{ data := #[119, 97, 110, 116, 32] }, c, { data := #[32] }, (decT v1), { data := #[32] }, h, { data := #[32] }, (decT p1), { data := #[32] }, (decT s1), { data := #[32] }, (decT d1), { data := #[32] }, (decT g1), { data := #[10] }] 13 HP.out (lb rfl); exact h
    have HJ := hidP hI
    clear hI gd26 gd29
    go_simp
    exact HJ.out.sm hK (by omega) (lb rfl) (slWnt_inj (by omega)) rfl
   ·
    have gd30 := hI.good 30 (by omega) (waits_of hi (j := 30) (by rfl))
    clear hi
    refine wpOp_plain rfl rfl (wp_cover fun K hK => ?_)
    have ed30 : x.tmps[38]?.getD undef = _ := ev_tmp gd30
    have hz : ¬ (9223372036854775807 < (catL [{ data := #[119, 97, 110, 116, 32] }, c, { data := #[32] }, (decT v1), { data := #[32] }, h, { data := #[32] }, (decT p1), { data := #[32] }, (decT s1), { data := #[32] }, (decT d1), { data := #[32] }, (decT g1)]).size + 1) := by have h := cat_room [{ data := #[119, 97, 110, 116, 32] }, c, { data := #[32] }, (decT v1), { data := #[32] }, h, { data := #[32] }, (decT p1), { data := #[32] }, (decT s1), { data := #[32] }, (decT d1), { data := #[32] }, (decT g1), { data := #[10] }] 14 HP.out (lb rfl); exact h
    have HJ := hidP hI
    clear hI gd30
    go_simp
    exact HJ.out.sm hK (by omega) (lb rfl) (slWnt_inj (by omega)) rfl
   ·
    have gd31 := hI.good 31 (by omega) (waits_of hi (j := 31) (by rfl))
    clear hi
    refine wpOp_plain rfl rfl (wp_cover fun K hK => ?_)
    have ed31 : x.tmps[39]?.getD undef = _ := ev_tmp gd31
    have HJ := hidP hI
    clear hI gd31
    go_simp
    exact HJ.out.sm hK (by omega) (lb rfl) (slWnt_inj (by omega)) rfl
 ·
  have HP : Hid (∀ p ∈ [{ data := #[119, 97, 110, 116, 32] }, c, { data := #[32] }, (decT v1), { data := #[32] }, { data := #[42] }, { data := #[32] }, (decT p1), { data := #[32] }, (decT s1), { data := #[32] }, (decT d1), { data := #[32] }, (decT g1), { data := #[10] }], p.size ≤ 1000000000) := HPP.out { data := #[42] } (by first | decide | omega)
  have e0 : holdT h = { data := #[42] } := (by rw [HH.out, hq]; rfl)
  have hT0 : wantT ⟨c, h, v1, p1, s1, d1, g1⟩ = catL [{ data := #[119, 97, 110, 116, 32] }, c, { data := #[32] }, (decT v1), { data := #[32] }, { data := #[42] }, { data := #[32] }, (decT p1), { data := #[32] }, (decT s1), { data := #[32] }, (decT d1), { data := #[32] }, (decT g1), { data := #[10] }] := (by unfold wantT; dsimp only; rw [e0])
  have HT : Hid (wantT ⟨c, h, v1, p1, s1, d1, g1⟩ = catL [{ data := #[119, 97, 110, 116, 32] }, c, { data := #[32] }, (decT v1), { data := #[32] }, { data := #[42] }, { data := #[32] }, (decT p1), { data := #[32] }, (decT s1), { data := #[32] }, (decT d1), { data := #[32] }, (decT g1), { data := #[10] }]) := hT0
  clear hT0 e0
  go_enter Tryz.func29, Tryz.ntmps29
  go_wp2_with fail
  rw [← HW1.out]
  refine wp_region_any (by kernel_rfl) ?_
  refine reg_invP slWnt 33 (GWnt w.heap.size c h { data := #[42] } v1 p1 s1 d1 g1) (fun y => Below W1.heap.size W1 y) (by decide) rfl (bl_drew (Below.refl _ _)) ?donewb ?stepwb
  case donewb =>
   intro a y hI
   have r2 : a.tmps[2]?.getD undef = .string (catL [{ data := #[119, 97, 110, 116, 32] }, c, { data := #[32] }, (decT v1), { data := #[32] }, { data := #[42] }, { data := #[32] }, (decT p1), { data := #[32] }, (decT s1), { data := #[32] }, (decT d1), { data := #[32] }, (decT g1), { data := #[10] }]) := ev_tmp (hI.all 32 (by omega))
   have df := hI.df
   go_wp2
   exact bodyPost_ret (v := .string (catL [{ data := #[119, 97, 110, 116, 32] }, c, { data := #[32] }, (decT v1), { data := #[32] }, { data := #[42] }, { data := #[32] }, (decT p1), { data := #[32] }, (decT s1), { data := #[32] }, (decT d1), { data := #[32] }, (decT g1), { data := #[10] }])) (by simp [results, Tryz.results29, go_sem, r2]) df ⟨by rw [HT.out], bl_trans HB.out hI.d⟩
  case stepwb =>
   intro listed x y i hI hi hlt
   obtain rfl | rfl | rfl | rfl | rfl | rfl | rfl | rfl | rfl | rfl | rfl | rfl | rfl | rfl | rfl | rfl | rfl | rfl | rfl | rfl | rfl | rfl | rfl | rfl | rfl | rfl | rfl | rfl | rfl | rfl | rfl | rfl | rfl : i = 0 ∨ i = 1 ∨ i = 2 ∨ i = 3 ∨ i = 4 ∨ i = 5 ∨ i = 6 ∨ i = 7 ∨ i = 8 ∨ i = 9 ∨ i = 10 ∨ i = 11 ∨ i = 12 ∨ i = 13 ∨ i = 14 ∨ i = 15 ∨ i = 16 ∨ i = 17 ∨ i = 18 ∨ i = 19 ∨ i = 20 ∨ i = 21 ∨ i = 22 ∨ i = 23 ∨ i = 24 ∨ i = 25 ∨ i = 26 ∨ i = 27 ∨ i = 28 ∨ i = 29 ∨ i = 30 ∨ i = 31 ∨ i = 32 := by omega
   ·
    clear hi
    refine wpOp_plain rfl rfl (wp_cover fun K hK => ?_)
    have i1 : x.tmps[1]?.getD undef = _ := ev_tmp (hI.out 1 (slWnt_out 1 (by decide)))
    have HJ := hidP hI
    clear hI
    go_simp
    exact HJ.out.sm hK (by omega) (lb rfl) (slWnt_inj (by omega)) rfl
   ·
    have gd0 := hI.good 0 (by omega) (waits_of hi (j := 0) (by rfl))
    clear hi
    refine wpOp_plain rfl rfl (wp_cover fun K hK => ?_)
    have ed0 : x.tmps[8]?.getD undef = _ := ev_tmp gd0
    have k9 : y.cell? ⟨w.heap.size, 0, none⟩ = some (.string c) := KX.out y hI.d 0
    have HJ := hidP hI
    clear hI gd0
    go_simp
    exact HJ.out.sm hK (by omega) (lb rfl) (slWnt_inj (by omega)) rfl
   ·
    have gd1 := hI.good 1 (by omega) (waits_of hi (j := 1) (by rfl))
    clear hi
    refine wpOp_plain rfl rfl (wp_cover fun K hK => ?_)
    have ed1 : x.tmps[9]?.getD undef = _ := ev_tmp gd1
    have hz : ¬ (9223372036854775807 < 5 + (c).size) := by have h := cat_room1 [{ data := #[119, 97, 110, 116, 32] }, c, { data := #[32] }, (decT v1), { data := #[32] }, { data := #[42] }, { data := #[32] }, (decT p1), { data := #[32] }, (decT s1), { data := #[32] }, (decT d1), { data := #[32] }, (decT g1), { data := #[10] }] HP.out (lb rfl); exact h
    have HJ := hidP hI
    clear hI gd1
    go_simp
    exact HJ.out.sm hK (by omega) (lb rfl) (slWnt_inj (by omega)) rfl
   ·
    have gd2 := hI.good 2 (by omega) (waits_of hi (j := 2) (by rfl))
    clear hi
    refine wpOp_plain rfl rfl (wp_cover fun K hK => ?_)
    have ed2 : x.tmps[10]?.getD undef = _ := ev_tmp gd2
    have hz : ¬ (9223372036854775807 < (catL [{ data := #[119, 97, 110, 116, 32] }, c]).size + 1) := by have h := cat_room [{ data := #[119, 97, 110, 116, 32] }, c, { data := #[32] }, (decT v1), { data := #[32] }, { data := #[42] }, { data := #[32] }, (decT p1), { data := #[32] }, (decT s1), { data := #[32] }, (decT d1), { data := #[32] }, (decT g1), { data := #[10] }] 2 HP.out (lb rfl); exact h
    have HJ := hidP hI
    clear hI gd2
    go_simp
    exact HJ.out.sm hK (by omega) (lb rfl) (slWnt_inj (by omega)) rfl
   ·
    clear hi
    refine wpOp_plain rfl rfl (wp_cover fun K hK => ?_)
    have i1 : x.tmps[1]?.getD undef = _ := ev_tmp (hI.out 1 (slWnt_out 1 (by decide)))
    have HJ := hidP hI
    clear hI
    go_simp
    exact HJ.out.sm hK (by omega) (lb rfl) (slWnt_inj (by omega)) rfl
   ·
    have gd4 := hI.good 4 (by omega) (waits_of hi (j := 4) (by rfl))
    clear hi
    refine wpOp_plain rfl rfl (wp_cover fun K hK => ?_)
    have ed4 : x.tmps[12]?.getD undef = _ := ev_tmp gd4
    have k9 : y.cell? ⟨w.heap.size, 1, none⟩ = some (.int .i64 v1) := KX.out y hI.d 1
    have HJ := hidP hI
    clear hI gd4
    go_simp
    exact HJ.out.sm hK (by omega) (lb rfl) (slWnt_inj (by omega)) rfl
   ·
    have gd5 := hI.good 5 (by omega) (waits_of hi (j := 5) (by rfl))
    clear hi
    refine wpOp_plain rfl rfl (wp_cover fun K hK => ?_)
    have ed5 : x.tmps[13]?.getD undef = _ := ev_tmp gd5
    have HJ := hidP hI
    clear hI gd5
    go_simp
    refine (specDecI v1 y (by first | assumption | omega) (by first | assumption | omega)).mono ?_
    rintro e y' ⟨rfl, hb⟩
    exact hK.out _ _ (HJ.out.put (by omega) (lb rfl) (slWnt_inj (by omega)) (rfl) (fun j u _ h => GWnt.keep hb j u h) (bl_trans HJ.out.d hb))
   ·
    have gd3 := hI.good 3 (by omega) (waits_of hi (j := 3) (by rfl))
    have gd6 := hI.good 6 (by omega) (waits_of hi (j := 6) (by rfl))
    clear hi
    refine wpOp_plain rfl rfl (wp_cover fun K hK => ?_)
    have ed3 : x.tmps[11]?.getD undef = _ := ev_tmp gd3
    have ed6 : x.tmps[14]?.getD undef = _ := ev_tmp gd6
    have hz : ¬ (9223372036854775807 < (catL [{ data := #[119, 97, 110, 116, 32] }, c, { data := #[32] }]).size + ((decT v1)).size) := by have h := cat_room [{ data := #[119, 97, 110, 116, 32] }, c, { data := #[32] }, (decT v1), { data := #[32] }, { data := #[42] }, { data := #[32] }, (decT p1), { data := #[32] }, (decT s1), { data := #[32] }, (decT d1), { data := #[32] }, (decT g1), { data := #[10] }] 3 HP.out (lb rfl); exact h
    have HJ := hidP hI
    clear hI gd3 gd6
    go_simp
    exact HJ.out.sm hK (by omega) (lb rfl) (slWnt_inj (by omega)) rfl
   ·
    have gd7 := hI.good 7 (by omega) (waits_of hi (j := 7) (by rfl))
    clear hi
    refine wpOp_plain rfl rfl (wp_cover fun K hK => ?_)
    have ed7 : x.tmps[15]?.getD undef = _ := ev_tmp gd7
    have hz : ¬ (9223372036854775807 < (catL [{ data := #[119, 97, 110, 116, 32] }, c, { data := #[32] }, (decT v1)]).size + 1) := by have h := cat_room [{ data := #[119, 97, 110, 116, 32] }, c, { data := #[32] }, (decT v1), { data := #[32] }, { data := #[42] }, { data := #[32] }, (decT p1), { data := #[32] }, (decT s1), { data := #[32] }, (decT d1), { data := #[32] }, (decT g1), { data := #[10] }] 4 HP.out (lb rfl); exact h
    have HJ := hidP hI
    clear hI gd7
    go_simp
    exact HJ.out.sm hK (by omega) (lb rfl) (slWnt_inj (by omega)) rfl
   ·
    clear hi
    refine wpOp_plain rfl rfl (wp_cover fun K hK => ?_)
    have i3 : x.tmps[3]?.getD undef = _ := ev_tmp (hI.out 3 (slWnt_out 3 (by decide)))
    have HJ := hidP hI
    clear hI
    go_simp
    exact HJ.out.sm hK (by omega) (lb rfl) (slWnt_inj (by omega)) rfl
   ·
    have gd8 := hI.good 8 (by omega) (waits_of hi (j := 8) (by rfl))
    have gd9 := hI.good 9 (by omega) (waits_of hi (j := 9) (by rfl))
    clear hi
    refine wpOp_plain rfl rfl (wp_cover fun K hK => ?_)
    have ed8 : x.tmps[16]?.getD undef = _ := ev_tmp gd8
    have ed9 : x.tmps[17]?.getD undef = _ := ev_tmp gd9
    have hz : ¬ (9223372036854775807 < (catL [{ data := #[119, 97, 110, 116, 32] }, c, { data := #[32] }, (decT v1), { data := #[32] }]).size + 1) := by have h := cat_room [{ data := #[119, 97, 110, 116, 32] }, c, { data := #[32] }, (decT v1), { data := #[32] }, { data := #[42] }, { data := #[32] }, (decT p1), { data := #[32] }, (decT s1), { data := #[32] }, (decT d1), { data := #[32] }, (decT g1), { data := #[10] }] 5 HP.out (lb rfl); exact h
    have HJ := hidP hI
    clear hI gd8 gd9
    go_simp
    exact HJ.out.sm hK (by omega) (lb rfl) (slWnt_inj (by omega)) rfl
   ·
    have gd10 := hI.good 10 (by omega) (waits_of hi (j := 10) (by rfl))
    clear hi
    refine wpOp_plain rfl rfl (wp_cover fun K hK => ?_)
    have ed10 : x.tmps[18]?.getD undef = _ := ev_tmp gd10
    have hz : ¬ (9223372036854775807 < (catL [{ data := #[119, 97, 110, 116, 32] }, c, { data := #[32] }, (decT v1), { data := #[32] }, { data := #[42] }]).size + 1) := by have h := cat_room [{ data := #[119, 97, 110, 116, 32] }, c, { data := #[32] }, (decT v1), { data := #[32] }, { data := #[42] }, { data := #[32] }, (decT p1), { data := #[32] }, (decT s1), { data := #[32] }, (decT d1), { data := #[32] }, (decT g1), { data := #[10] }] 6 HP.out (lb rfl); exact h
    have HJ := hidP hI
    clear hI gd10
    go_simp
    exact HJ.out.sm hK (by omega) (lb rfl) (slWnt_inj (by omega)) rfl
   ·
    clear hi
    refine wpOp_plain rfl rfl (wp_cover fun K hK => ?_)
    have i1 : x.tmps[1]?.getD undef = _ := ev_tmp (hI.out 1 (slWnt_out 1 (by decide)))
    have HJ := hidP hI
    clear hI
    go_simp
    exact HJ.out.sm hK (by omega) (lb rfl) (slWnt_inj (by omega)) rfl
   ·
    have gd12 := hI.good 12 (by omega) (waits_of hi (j := 12) (by rfl))
    clear hi
    refine wpOp_plain rfl rfl (wp_cover fun K hK => ?_)
    have ed12 : x.tmps[20]?.getD undef = _ := ev_tmp gd12
    have k9 : y.cell? ⟨w.heap.size, 3, none⟩ = some (.int .i64 p1) := KX.out y hI.d 3
    have HJ := hidP hI
    clear hI gd12
    go_simp
    exact HJ.out.sm hK (by omega) (lb rfl) (slWnt_inj (by omega)) rfl
   ·
    have gd13 := hI.good 13 (by omega) (waits_of hi (j := 13) (by rfl))
    clear hi
    refine wpOp_plain rfl rfl (wp_cover fun K hK => ?_)
    have ed13 : x.tmps[21]?.getD undef = _ := ev_tmp gd13
    have HJ := hidP hI
    clear hI gd13
    go_simp
    refine (specDecI p1 y (by first | assumption | omega) (by first | assumption | omega)).mono ?_
    rintro e y' ⟨rfl, hb⟩
    exact hK.out _ _ (HJ.out.put (by omega) (lb rfl) (slWnt_inj (by omega)) (rfl) (fun j u _ h => GWnt.keep hb j u h) (bl_trans HJ.out.d hb))
   ·
    have gd11 := hI.good 11 (by omega) (waits_of hi (j := 11) (by rfl))
    have gd14 := hI.good 14 (by omega) (waits_of hi (j := 14) (by rfl))
    clear hi
    refine wpOp_plain rfl rfl (wp_cover fun K hK => ?_)
    have ed11 : x.tmps[19]?.getD undef = _ := ev_tmp gd11
    have ed14 : x.tmps[22]?.getD undef = _ := ev_tmp gd14
    have hz : ¬ (9223372036854775807 < (catL [{ data := #[119, 97, 110, 116, 32] }, c, { data := #[32] }, (decT v1), { data := #[32] }, { data := #[42] }, { data := #[32] }]).size + ((decT p1)).size) := by have h := cat_room [{ data := #[119, 97, 110, 116, 32] }, c, { data := #[32] }, (decT v1), { data := #[32] }, { data := #[42] }, { data := #[32] }, (decT p1), { data := #[32] }, (decT s1), { data := #[32] }, (decT d1), { data := #[32] }, (decT g1), { data := #[10] }] 7 HP.out (lb rfl); exact h
    have HJ := hidP hI
    clear hI gd11 gd14
    go_simp
    exact HJ.out.sm hK (by omega) (lb rfl) (slWnt_inj (by omega)) rfl
   ·
    have gd15 := hI.good 15 (by omega) (waits_of hi (j := 15) (by rfl))
    clear hi
    refine wpOp_plain rfl rfl (wp_cover fun K hK => ?_)
    have ed15 : x.tmps[23]?.getD undef = _ := ev_tmp gd15
    have hz : ¬ (9223372036854775807 < (catL [{ data := #[119, 97, 110, 116, 32] }, c, { data := #[32] }, (decT v1), { data := #[32] }, { data := #[42] }, { data := #[32] }, (decT p1)]).size + 1) := by have h := cat_room [{ data := #[119, 97, 110, 116, 32] }, c, { data := #[32] }, (decT v1), { data := #[32] }, { data := #[42] }, { data := #[32] }, (decT p1), { data := #[32] }, (decT s1), { data := #[32] }, (decT d1), { data := #[32] }, (decT g1), { data := #[10] }] 8 HP.out (lb rfl); exact h
    have HJ := hidP hI
    clear hI gd15
    go_simp
    exact HJ.out.sm hK (by omega) (lb rfl) (slWnt_inj (by omega)) rfl
   ·
    clear hi
    refine wpOp_plain rfl rfl (wp_cover fun K hK => ?_)
    have i1 : x.tmps[1]?.getD undef = _ := ev_tmp (hI.out 1 (slWnt_out 1 (by decide)))
    have HJ := hidP hI
    clear hI
    go_simp
    exact HJ.out.sm hK (by omega) (lb rfl) (slWnt_inj (by omega)) rfl
   ·
    have gd17 := hI.good 17 (by omega) (waits_of hi (j := 17) (by rfl))
    clear hi
    refine wpOp_plain rfl rfl (wp_cover fun K hK => ?_)
    have ed17 : x.tmps[25]?.getD undef = _ := ev_tmp gd17
    have k9 : y.cell? ⟨w.heap.size, 4, none⟩ = some (.int .i64 s1) := KX.out y hI.d 4
    have HJ := hidP hI
    clear hI gd17
    go_simp
    exact HJ.out.sm hK (by omega) (lb rfl) (slWnt_inj (by omega)) rfl
   ·
    have gd18 := hI.good 18 (by omega) (waits_of hi (j := 18) (by rfl))
    clear hi
    refine wpOp_plain rfl rfl (wp_cover fun K hK => ?_)
    have ed18 : x.tmps[26]?.getD undef = _ := ev_tmp gd18
    have HJ := hidP hI
    clear hI gd18
    go_simp
    refine (specDecI s1 y (by first | assumption | omega) (by first | assumption | omega)).mono ?_
    rintro e y' ⟨rfl, hb⟩
    exact hK.out _ _ (HJ.out.put (by omega) (lb rfl) (slWnt_inj (by omega)) (rfl) (fun j u _ h => GWnt.keep hb j u h) (bl_trans HJ.out.d hb))
   ·
    have gd16 := hI.good 16 (by omega) (waits_of hi (j := 16) (by rfl))
    have gd19 := hI.good 19 (by omega) (waits_of hi (j := 19) (by rfl))
    clear hi
    refine wpOp_plain rfl rfl (wp_cover fun K hK => ?_)
    have ed16 : x.tmps[24]?.getD undef = _ := ev_tmp gd16
    have ed19 : x.tmps[27]?.getD undef = _ := ev_tmp gd19
    have hz : ¬ (9223372036854775807 < (catL [{ data := #[119, 97, 110, 116, 32] }, c, { data := #[32] }, (decT v1), { data := #[32] }, { data := #[42] }, { data := #[32] }, (decT p1), { data := #[32] }]).size + ((decT s1)).size) := by have h := cat_room [{ data := #[119, 97, 110, 116, 32] }, c, { data := #[32] }, (decT v1), { data := #[32] }, { data := #[42] }, { data := #[32] }, (decT p1), { data := #[32] }, (decT s1), { data := #[32] }, (decT d1), { data := #[32] }, (decT g1), { data := #[10] }] 9 HP.out (lb rfl); exact h
    have HJ := hidP hI
    clear hI gd16 gd19
    go_simp
    exact HJ.out.sm hK (by omega) (lb rfl) (slWnt_inj (by omega)) rfl
   ·
    have gd20 := hI.good 20 (by omega) (waits_of hi (j := 20) (by rfl))
    clear hi
    refine wpOp_plain rfl rfl (wp_cover fun K hK => ?_)
    have ed20 : x.tmps[28]?.getD undef = _ := ev_tmp gd20
    have hz : ¬ (9223372036854775807 < (catL [{ data := #[119, 97, 110, 116, 32] }, c, { data := #[32] }, (decT v1), { data := #[32] }, { data := #[42] }, { data := #[32] }, (decT p1), { data := #[32] }, (decT s1)]).size + 1) := by have h := cat_room [{ data := #[119, 97, 110, 116, 32] }, c, { data := #[32] }, (decT v1), { data := #[32] }, { data := #[42] }, { data := #[32] }, (decT p1), { data := #[32] }, (decT s1), { data := #[32] }, (decT d1), { data := #[32] }, (decT g1), { data := #[10] }] 10 HP.out (lb rfl); exact h
    have HJ := hidP hI
    clear hI gd20
    go_simp
    exact HJ.out.sm hK (by omega) (lb rfl) (slWnt_inj (by omega)) rfl
   ·
    clear hi
    refine wpOp_plain rfl rfl (wp_cover fun K hK => ?_)
    have i1 : x.tmps[1]?.getD undef = _ := ev_tmp (hI.out 1 (slWnt_out 1 (by decide)))
    have HJ := hidP hI
    clear hI
    go_simp
    exact HJ.out.sm hK (by omega) (lb rfl) (slWnt_inj (by omega)) rfl
   ·
    have gd22 := hI.good 22 (by omega) (waits_of hi (j := 22) (by rfl))
    clear hi
    refine wpOp_plain rfl rfl (wp_cover fun K hK => ?_)
    have ed22 : x.tmps[30]?.getD undef = _ := ev_tmp gd22
    have k9 : y.cell? ⟨w.heap.size, 5, none⟩ = some (.int .i64 d1) := KX.out y hI.d 5
    have HJ := hidP hI
    clear hI gd22
    go_simp
    exact HJ.out.sm hK (by omega) (lb rfl) (slWnt_inj (by omega)) rfl
   ·
    have gd23 := hI.good 23 (by omega) (waits_of hi (j := 23) (by rfl))
    clear hi
    refine wpOp_plain rfl rfl (wp_cover fun K hK => ?_)
    have ed23 : x.tmps[31]?.getD undef = _ := ev_tmp gd23
    have HJ := hidP hI
    clear hI gd23
    go_simp
    refine (specDecI d1 y (by first | assumption | omega) (by first | assumption | omega)).mono ?_
    rintro e y' ⟨rfl, hb⟩
    exact hK.out _ _ (HJ.out.put (by omega) (lb rfl) (slWnt_inj (by omega)) (rfl) (fun j u _ h => GWnt.keep hb j u h) (bl_trans HJ.out.d hb))
   ·
    have gd21 := hI.good 21 (by omega) (waits_of hi (j := 21) (by rfl))
    have gd24 := hI.good 24 (by omega) (waits_of hi (j := 24) (by rfl))
    clear hi
    refine wpOp_plain rfl rfl (wp_cover fun K hK => ?_)
    have ed21 : x.tmps[29]?.getD undef = _ := ev_tmp gd21
    have ed24 : x.tmps[32]?.getD undef = _ := ev_tmp gd24
    have hz : ¬ (9223372036854775807 < (catL [{ data := #[119, 97, 110, 116, 32] }, c, { data := #[32] }, (decT v1), { data := #[32] }, { data := #[42] }, { data := #[32] }, (decT p1), { data := #[32] }, (decT s1), { data := #[32] }]).size + ((decT d1)).size) := by have h := cat_room [{ data := #[119, 97, 110, 116, 32] }, c, { data := #[32] }, (decT v1), { data := #[32] }, { data := #[42] }, { data := #[32] }, (decT p1), { data := #[32] }, (decT s1), { data := #[32] }, (decT d1), { data := #[32] }, (decT g1), { data := #[10] }] 11 HP.out (lb rfl); exact h
    have HJ := hidP hI
    clear hI gd21 gd24
    go_simp
    exact HJ.out.sm hK (by omega) (lb rfl) (slWnt_inj (by omega)) rfl
   ·
    have gd25 := hI.good 25 (by omega) (waits_of hi (j := 25) (by rfl))
    clear hi
    refine wpOp_plain rfl rfl (wp_cover fun K hK => ?_)
    have ed25 : x.tmps[33]?.getD undef = _ := ev_tmp gd25
    have hz : ¬ (9223372036854775807 < (catL [{ data := #[119, 97, 110, 116, 32] }, c, { data := #[32] }, (decT v1), { data := #[32] }, { data := #[42] }, { data := #[32] }, (decT p1), { data := #[32] }, (decT s1), { data := #[32] }, (decT d1)]).size + 1) := by have h := cat_room [{ data := #[119, 97, 110, 116, 32] }, c, { data := #[32] }, (decT v1), { data := #[32] }, { data := #[42] }, { data := #[32] }, (decT p1), { data := #[32] }, (decT s1), { data := #[32] }, (decT d1), { data := #[32] }, (decT g1), { data := #[10] }] 12 HP.out (lb rfl); exact h
    have HJ := hidP hI
    clear hI gd25
    go_simp
    exact HJ.out.sm hK (by omega) (lb rfl) (slWnt_inj (by omega)) rfl
   ·
    clear hi
    refine wpOp_plain rfl rfl (wp_cover fun K hK => ?_)
    have i1 : x.tmps[1]?.getD undef = _ := ev_tmp (hI.out 1 (slWnt_out 1 (by decide)))
    have HJ := hidP hI
    clear hI
    go_simp
    exact HJ.out.sm hK (by omega) (lb rfl) (slWnt_inj (by omega)) rfl
   ·
    have gd27 := hI.good 27 (by omega) (waits_of hi (j := 27) (by rfl))
    clear hi
    refine wpOp_plain rfl rfl (wp_cover fun K hK => ?_)
    have ed27 : x.tmps[35]?.getD undef = _ := ev_tmp gd27
    have k9 : y.cell? ⟨w.heap.size, 6, none⟩ = some (.int .i64 g1) := KX.out y hI.d 6
    have HJ := hidP hI
    clear hI gd27
    go_simp
    exact HJ.out.sm hK (by omega) (lb rfl) (slWnt_inj (by omega)) rfl
   ·
    have gd28 := hI.good 28 (by omega) (waits_of hi (j := 28) (by rfl))
    clear hi
    refine wpOp_plain rfl rfl (wp_cover fun K hK => ?_)
    have ed28 : x.tmps[36]?.getD undef = _ := ev_tmp gd28
    have HJ := hidP hI
    clear hI gd28
    go_simp
    refine (specDecI g1 y (by first | assumption | omega) (by first | assumption | omega)).mono ?_
    rintro e y' ⟨rfl, hb⟩
    exact hK.out _ _ (HJ.out.put (by omega) (lb rfl) (slWnt_inj (by omega)) (rfl) (fun j u _ h => GWnt.keep hb j u h) (bl_trans HJ.out.d hb))
   ·
    have gd26 := hI.good 26 (by omega) (waits_of hi (j := 26) (by rfl))
    have gd29 := hI.good 29 (by omega) (waits_of hi (j := 29) (by rfl))
    clear hi
    refine wpOp_plain rfl rfl (wp_cover fun K hK => ?_)
    have ed26 : x.tmps[34]?.getD undef = _ := ev_tmp gd26
    have ed29 : x.tmps[37]?.getD undef = _ := ev_tmp gd29
    have hz : ¬ (9223372036854775807 < (catL [{ data := #[119, 97, 110, 116, 32] }, c, { data := #[32] }, (decT v1), { data := #[32] }, { data := #[42] }, { data := #[32] }, (decT p1), { data := #[32] }, (decT s1), { data := #[32] }, (decT d1), { data := #[32] }]).size + ((decT g1)).size) := by have h := cat_room [{ data := #[119, 97, 110, 116, 32] }, c, { data := #[32] }, (decT v1), { data := #[32] }, { data := #[42] }, { data := #[32] }, (decT p1), { data := #[32] }, (decT s1), { data := #[32] }, (decT d1), { data := #[32] }, (decT g1), { data := #[10] }] 13 HP.out (lb rfl); exact h
    have HJ := hidP hI
    clear hI gd26 gd29
    go_simp
    exact HJ.out.sm hK (by omega) (lb rfl) (slWnt_inj (by omega)) rfl
   ·
    have gd30 := hI.good 30 (by omega) (waits_of hi (j := 30) (by rfl))
    clear hi
    refine wpOp_plain rfl rfl (wp_cover fun K hK => ?_)
    have ed30 : x.tmps[38]?.getD undef = _ := ev_tmp gd30
    have hz : ¬ (9223372036854775807 < (catL [{ data := #[119, 97, 110, 116, 32] }, c, { data := #[32] }, (decT v1), { data := #[32] }, { data := #[42] }, { data := #[32] }, (decT p1), { data := #[32] }, (decT s1), { data := #[32] }, (decT d1), { data := #[32] }, (decT g1)]).size + 1) := by have h := cat_room [{ data := #[119, 97, 110, 116, 32] }, c, { data := #[32] }, (decT v1), { data := #[32] }, { data := #[42] }, { data := #[32] }, (decT p1), { data := #[32] }, (decT s1), { data := #[32] }, (decT d1), { data := #[32] }, (decT g1), { data := #[10] }] 14 HP.out (lb rfl); exact h
    have HJ := hidP hI
    clear hI gd30
    go_simp
    exact HJ.out.sm hK (by omega) (lb rfl) (slWnt_inj (by omega)) rfl
   ·
    have gd31 := hI.good 31 (by omega) (waits_of hi (j := 31) (by rfl))
    clear hi
    refine wpOp_plain rfl rfl (wp_cover fun K hK => ?_)
    have ed31 : x.tmps[39]?.getD undef = _ := ev_tmp gd31
    have HJ := hidP hI
    clear hI gd31
    go_simp
    exact HJ.out.sm hK (by omega) (lb rfl) (slWnt_inj (by omega)) rfl
end Go.Proofs.YtgakmkhbnjofhaaGreatDoor
