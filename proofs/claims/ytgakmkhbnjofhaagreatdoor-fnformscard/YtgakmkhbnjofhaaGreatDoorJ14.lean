import Derived.Test.YtgakmkhbnjofhaaGreatDoorJ13
import Derived.Test.YtgakmkhbnjofhaaGreatDoorShelf
import Derived.Lib.Join
import Derived.Lib.SmallJoins
import Derived.Lib.AppendIntMem
namespace Go.Proofs.YtgakmkhbnjofhaaGreatDoor
open Go.RowKit
set_option linter.unusedVariables false
def joinT (xs : List ByteArray) : ByteArray := ⟨(Lib.join (xs.map (·.data.toList)) [32]).toArray⟩
theorem joinTail_le (M : Nat) : ∀ (xs : List ByteArray), (∀ x ∈ xs, x.size ≤ M) → (Lib.joinTail [32] (xs.map (·.data.toList))).length ≤ xs.length * (M + 1)
 | [], _ => by simp [Lib.joinTail]
 | x :: xs, h => by
  have h1 := joinTail_le M xs (fun q hq => h q (List.mem_cons_of_mem _ hq))
  have h2 : x.data.toList.length ≤ M := by have := h x (List.mem_cons_self ..); rw [Array.length_toList]; exact this
  unfold Lib.joinTail at h1 ⊢
  simp only [List.map_cons, List.flatten_cons, List.length_append, List.length_cons, List.length_nil, Nat.succ_mul] at h1 ⊢
  omega
theorem join_le (M : Nat) (xs : List ByteArray) (h : ∀ x ∈ xs, x.size ≤ M) : (Lib.join (xs.map (·.data.toList)) [32]).length ≤ xs.length * (M + 1) := by
 cases xs with
 | nil => rw [List.map_nil, Lib.join_nil]; exact Nat.zero_le _
 | cons x xs =>
  have h1 := joinTail_le M xs (fun q hq => h q (List.mem_cons_of_mem _ hq))
  have h2 : x.data.toList.length ≤ M := by have := h x (List.mem_cons_self ..); rw [Array.length_toList]; exact this
  rw [List.map_cons, Lib.join_cons, List.length_append, List.length_cons, Nat.succ_mul]
  omega
theorem joinT_size (M : Nat) (xs : List ByteArray) (h : ∀ x ∈ xs, x.size ≤ M) : (joinT xs).size ≤ xs.length * (M + 1) := by
 have h1 := join_le M xs h
 show (Lib.join (xs.map (·.data.toList)) [32]).toArray.size ≤ _
 rw [List.size_toArray]
 exact h1
def lineT (word : ByteArray) (xs : List ByteArray) : ByteArray := catL [word, { data := #[32] }, joinT xs, { data := #[10] }]
set_option maxRecDepth 4000 in
set_option maxHeartbeats 2000000 in
theorem implLine (word : ByteArray) (bk c : Nat) (xs : List ByteArray) (w : World) (hcells : ∀ (j : Nat) x, xs[j]? = some x → w.cell? ⟨bk, j, none⟩ = some (.string x)) (hbk : bk < w.heap.size) (hN : xs.length ≤ 100) (hcap : xs.length ≤ c)
  (hz : ∀ x ∈ xs, x.size ≤ 1000000000) (hw : word.size ≤ 1000000000) :
  Calls Tryz.prog 22 #[.string word, .slice (some ⟨bk, 0, none⟩) xs.length c] w fun e w' => e = .returned (.string (lineT word xs)) ∧ Below w.heap.size w w' := by
 have hj := join_le 1000000000 xs hz
 have hj2 : (joinT xs).size ≤ 200000000000 := by
  have h1 := joinT_size 1000000000 xs hz
  have h2 : xs.length * 1000000001 ≤ 100 * 1000000001 := Nat.mul_le_mul_right _ hN
  omega
 have hlen : (Lib.join (xs.map (·.data.toList)) [32]).length ≤ 140737488355328 := by
  have h2 : xs.length * 1000000001 ≤ 100 * 1000000001 := Nat.mul_le_mul_right _ hN
  omega
 have HC : Hid (∀ (j : Nat) x, xs[j]? = some x → w.cell? ⟨bk, 0 + j, none⟩ = some (.string x)) := fun j x h => by rw [Nat.zero_add]; exact hcells j x h
 have HL : Hid ((Lib.join (xs.map (·.data.toList)) [32]).length ≤ 140737488355328) := hlen
 have HJ : Hid (joinT xs = ⟨(Lib.join (xs.map (·.data.toList)) [32]).toArray⟩) := rfl
 clear hcells hj hlen hz
 obtain ⟨J, hJ⟩ : ∃ J, J = joinT xs := ⟨_, rfl⟩
 have HJ2 : Hid (J = joinT xs) := hJ
 rw [← hJ] at hj2
 clear hJ
 have hz1 : ¬ (9223372036854775807 < word.size + 1) := by omega
 have hz2 : ¬ (9223372036854775807 < word.size + 1 + J.size) := by omega
 have hz3 : ¬ (9223372036854775807 < word.size + 1 + J.size + 1) := by omega
 go_enter Tryz.func22, Tryz.ntmps22
 go_wp2_with (go_at_call 54; refine (Tryz.strings_Join bk 0 c xs { data := #[32] } _ HC.out hbk (by omega) hcap HL.out).mono ?_; rintro e w1 ⟨rfl, hb⟩; have HB : Hid (Below w.heap.size w w1) := hb; clear hb; rw [show ({ data := (Lib.join (xs.map (·.data.toList)) ({ data := #[32] } : ByteArray).data.toList).toArray } : ByteArray) = J from HJ2.out.symm])
 go_ret
 exact ⟨by show Ending.returned (Value.string (word ++ { data := #[32] } ++ J ++ { data := #[10] })) = _; rw [HJ2.out]; rfl, HB.out⟩
theorem bytes_inj' {a b : ByteArray} (h : a.data.toList = b.data.toList) : a = b := by
 obtain ⟨⟨x⟩⟩ := a
 obtain ⟨⟨y⟩⟩ := b
 simp only at h
 subst h
 rfl
def wd (l : List UInt8) : ByteArray := ⟨l.toArray⟩
theorem catL_data : ∀ (l : List ByteArray), (catL l).data.toList = (l.map (·.data.toList)).flatten
 | [] => rfl
 | x :: l => by
  have h : ∀ (l : List ByteArray) (x : ByteArray), (l.foldl (· ++ ·) x).data.toList = x.data.toList ++ (l.map (·.data.toList)).flatten := by
   intro l
   induction l with
   | nil => intro x; simp
   | cons y l ih => intro x; rw [List.foldl_cons, ih]; simp
  exact h l x
theorem joinT_data (xs : List ByteArray) : (joinT xs).data.toList = Lib.join (xs.map (·.data.toList)) [32] := by simp [joinT]
theorem line2 (l : List UInt8) (a b : ByteArray) : lineT (wd l) [a, b] = catL [wd (l ++ [32]), a, { data := #[32] }, b, { data := #[10] }] := by
 apply bytes_inj'
 unfold lineT
 rw [catL_data, catL_data]
 simp [joinT_data, Lib.join_cons, Lib.joinTail, wd]
theorem line3 (l : List UInt8) (a b c : ByteArray) : lineT (wd l) [a, b, c] = catL [wd (l ++ [32]), a, { data := #[32] }, b, { data := #[32] }, c, { data := #[10] }] := by
 apply bytes_inj'
 unfold lineT
 rw [catL_data, catL_data]
 simp [joinT_data, Lib.join_cons, Lib.joinTail, wd]
theorem line4 (l : List UInt8) (a b c d : ByteArray) : lineT (wd l) [a, b, c, d] = catL [wd (l ++ [32]), a, { data := #[32] }, b, { data := #[32] }, c, { data := #[32] }, d, { data := #[10] }] := by
 apply bytes_inj'
 unfold lineT
 rw [catL_data, catL_data]
 simp [joinT_data, Lib.join_cons, Lib.joinTail, wd]
theorem line7 (l : List UInt8) (a b c d e f g : ByteArray) : lineT (wd l) [a, b, c, d, e, f, g] = catL [wd (l ++ [32]), a, { data := #[32] }, b, { data := #[32] }, c, { data := #[32] }, d, { data := #[32] }, e, { data := #[32] }, f, { data := #[32] }, g, { data := #[10] }] := by
 apply bytes_inj'
 unfold lineT
 rw [catL_data, catL_data]
 simp [joinT_data, Lib.join_cons, Lib.joinTail, wd]
theorem wantT_line (r : W.WantD) : wantT r = lineT (wd [119, 97, 110, 116]) [r.c, decT r.v, holdT r.h, decT r.p, decT r.s, decT r.d, decT r.g] := by
 rw [line7]
 rfl
def Tab (w : World) : Prop := Lib.TabIs Tryz.prog w "internal/strconv.uint64pow10" .u64 Lib.pow10Tab
theorem Tab.keep {w w' : World} (h : Tab w) (hb : Below w.heap.size w w') : Tab w' := by
 have h1 : (Tryz.prog.globalNamed "internal/strconv.uint64pow10").isSome = true := by kernel_rfl
 obtain ⟨g, hg⟩ := Option.isSome_iff_exists.1 h1
 exact Go.Joins.tab_stays hg h hb (Nat.le_refl _)
theorem implItoa (n : Int) (w : World) (h0 : -9223372036854775808 ≤ n) (h1 : n ≤ 9223372036854775807) (ht : Tab w) :
  Calls Tryz.prog 55 #[.int .i64 n] w fun e w' => e = .returned (.string (decT n)) ∧ Below w.heap.size w w' := by
 refine (Tryz.strconv_Itoa n h0 h1 w ht).mono ?_
 rintro e w' ⟨rfl, k, os, rfl⟩
 exact ⟨rfl, Lib.below_grow _ _ (Nat.le_refl _) _ _⟩
def RowS (xs : List ByteArray) (w : World) (v : Value) : Prop := ∃ g, v = .slice (some ⟨g, 0, none⟩) xs.length xs.length ∧ g < w.heap.size ∧ ∀ (j : Nat) x, xs[j]? = some x → w.cell? ⟨g, j, none⟩ = some (.string x)
theorem RowS.keep {xs : List ByteArray} {w w' : World} {v : Value} (h : RowS xs w v) (hb : Below w.heap.size w w') : RowS xs w' v := by
 obtain ⟨g, h1, h2, h3⟩ := h
 exact ⟨g, h1, Nat.lt_of_lt_of_le h2 hb.size, fun j x hj => (hb.cell (p := ⟨g, j, none⟩) h2).trans (h3 j x hj)⟩
def arrS (xs : List ByteArray) : Array Value := (xs.map Value.string).toArray
theorem RowS.new (xs : List ByteArray) (y : World) : RowS xs (y.alloc (.cells (arrS xs) 9)) (.slice (some ⟨y.heap.size, 0, none⟩) xs.length xs.length) :=
 ⟨y.heap.size, rfl, by simp, fun j x hj => by rw [World.cell?_alloc_new]; simp [arrS, hj]⟩
theorem bldS2 (a b : ByteArray) (w : World) : Sem.run Tryz.prog (Instr.buildSlice 43 2 #[(0, .string a), (1, .string b)]) w = .ok (.slice (some ⟨w.heap.size, 0, none⟩) 2 2) (w.alloc (.cells (arrS [a, b]) 9)) := by kernel_rfl
theorem bldS3 (a b c : ByteArray) (w : World) : Sem.run Tryz.prog (Instr.buildSlice 43 3 #[(0, .string a), (1, .string b), (2, .string c)]) w = .ok (.slice (some ⟨w.heap.size, 0, none⟩) 3 3) (w.alloc (.cells (arrS [a, b, c]) 9)) := by kernel_rfl
theorem bldS4 (a b c d : ByteArray) (w : World) : Sem.run Tryz.prog (Instr.buildSlice 43 4 #[(0, .string a), (1, .string b), (2, .string c), (3, .string d)]) w = .ok (.slice (some ⟨w.heap.size, 0, none⟩) 4 4) (w.alloc (.cells (arrS [a, b, c, d]) 9)) := by kernel_rfl
def slWSeen : Nat → Nat
 | 0 => 3
 | 1 => 4
 | 2 => 5
 | 3 => 6
 | 4 => 7
 | 5 => 8
 | 6 => 2
 | _ => 0
theorem slWSeen_inj {i : Nat} (hi : i < 7) : ∀ j, j < 7 → slWSeen j = slWSeen i → j = i := by
 have h : ∀ a : _root_.Fin 7, ∀ b : _root_.Fin 7, slWSeen b.val = slWSeen a.val → b.val = a.val := by decide
 intro j hj e
 exact h ⟨i, hi⟩ ⟨j, hj⟩ e
theorem slWSeen_out (k : Nat) (h : (List.range 7).all (fun i => slWSeen i != k) = true) : ∀ i, i < 7 → slWSeen i ≠ k := fun i hi e => by
 have h1 := List.all_eq_true.1 h i (List.mem_range.2 hi)
 rw [e] at h1
 simp at h1
def GWSeen (bm : Nat) (b h c : ByteArray) (k se t : Int) (w : World) : Nat → Value → Prop
 | 0, v => v = .pointer (some ⟨bm, 1, none⟩)
 | 1, v => v = .string b
 | 2, v => v = .pointer (some ⟨bm, 2, none⟩)
 | 3, v => v = .int .i64 se
 | 4, v => v = .string (decT se)
 | 5, v => RowS [b, (decT se)] w v
 | 6, v => RowS [b, (decT se)] w v
 | _, _ => True
theorem GWSeen.keep {bm : Nat} {b h c : ByteArray} {k se t : Int} {w w' : World} (hb : Below w.heap.size w w') : ∀ i v, GWSeen bm b h c k se t w i v → GWSeen bm b h c k se t w' i v
 | 0, _, h => h
 | 1, _, h => h
 | 2, _, h => h
 | 3, _, h => h
 | 4, _, h => h
 | 5, _, h => RowS.keep h hb
 | 6, _, h => RowS.keep h hb
 | _ + 7, _, h => h
set_option maxRecDepth 4000 in
set_option maxHeartbeats 4000000 in
theorem writeSeen (k : Int) (b : ByteArray) (se : Int) (v3 : Value) (h c : ByteArray) (t : Int) (w : World) (h3 : v3.oneCell' = true) (s0 : 0 ≤ se ∧ se ≤ 1000000) (t0 : 0 ≤ t ∧ t ≤ 1000000) (ht : Tab w) :
  Calls Tryz.prog 74 #[.agg #[.int .i64 k, .string b, .int .i64 se, v3, .string h, .string c, .int .i64 t]] w fun e w' => (∃ v, e = .returned v ∧ RowS [b, (decT se)] w' v) ∧ Below w.heap.size w w' := by
 obtain ⟨W1, hW1⟩ : ∃ W1, W1 = (w.alloc (.cells #[.int .i64 k, .string b, .int .i64 se, v3, .string h, .string c, .int .i64 t] 25)) := ⟨_, rfl⟩
 have HB : Hid (Below w.heap.size w W1) := by rw [hW1]; exact bl_alloc (Below.refl _ _) _
 have HTab : Hid (∀ y, Below W1.heap.size W1 y → Tab y) := fun y hb => (ht.keep HB.out).keep hb
 have KX : Hid (∀ y, Below W1.heap.size W1 y → ∀ k', y.cell? ⟨w.heap.size, k', none⟩ = (#[.int .i64 k, .string b, .int .i64 se, v3, .string h, .string c, .int .i64 t] : Array Value)[k']?) := by
  intro y hb k'
  rw [hW1] at hb
  rw [box_keep hb k']
  simp [go_sem]
 have HW1 : Hid (W1 = (w.alloc (.cells #[.int .i64 k, .string b, .int .i64 se, v3, .string h, .string c, .int .i64 t] 25))) := hW1
 clear hW1 ht
 go_enter Tryz.func74, Tryz.ntmps74
 go_wp2_with fail
 rw [← HW1.out]
 refine wp_region_any (by kernel_rfl) ?_
 refine reg_invP slWSeen 7 (GWSeen w.heap.size b h c k se t) (fun y => Below W1.heap.size W1 y) (by decide) rfl (bl_drew (Below.refl _ _)) ?donewSeen ?stepwSeen
 case donewSeen =>
  intro a y hI
  obtain ⟨g3, g4, g5, g6⟩ := hI.all 6 (by omega)
  have r2 : a.tmps[2]?.getD undef = _ := ev_tmp g4
  have df := hI.df
  have HG : Hid (∀ (j : Nat) x, [b, (decT se)][j]? = some x → y.cell? ⟨g3, j, none⟩ = some (.string x)) := g6
  clear g6 g4
  go_wp2
  exact bodyPost_ret (by simp [results, Tryz.results74, go_sem, r2]) df ⟨⟨_, rfl, ⟨g3, rfl, g5, HG.out⟩⟩, bl_trans HB.out hI.d⟩
 case stepwSeen =>
  intro listed x y i hI hi hlt
  obtain rfl | rfl | rfl | rfl | rfl | rfl | rfl : i = 0 ∨ i = 1 ∨ i = 2 ∨ i = 3 ∨ i = 4 ∨ i = 5 ∨ i = 6 := by omega
  ·
   clear hi
   refine wpOp_plain rfl rfl (wp_cover fun K hK => ?_)
   have i1 : x.tmps[1]?.getD undef = _ := ev_tmp (hI.out 1 (slWSeen_out 1 (by decide)))
   have HJ := hidP hI
   clear hI
   go_simp
   exact HJ.out.sm hK (by omega) (lb rfl) (slWSeen_inj (by omega)) rfl
  ·
   have gd0 := hI.good 0 (by omega) (waits_of hi (j := 0) (by rfl))
   clear hi
   refine wpOp_plain rfl rfl (wp_cover fun K hK => ?_)
   have ed0 : x.tmps[3]?.getD undef = _ := ev_tmp gd0
   have k9 : y.cell? ⟨w.heap.size, 1, none⟩ = some (.string b) := KX.out y hI.d 1
   have HJ := hidP hI
   clear hI gd0
   go_simp
   exact HJ.out.sm hK (by omega) (lb rfl) (slWSeen_inj (by omega)) rfl
  ·
   clear hi
   refine wpOp_plain rfl rfl (wp_cover fun K hK => ?_)
   have i1 : x.tmps[1]?.getD undef = _ := ev_tmp (hI.out 1 (slWSeen_out 1 (by decide)))
   have HJ := hidP hI
   clear hI
   go_simp
   exact HJ.out.sm hK (by omega) (lb rfl) (slWSeen_inj (by omega)) rfl
  ·
   have gd2 := hI.good 2 (by omega) (waits_of hi (j := 2) (by rfl))
   clear hi
   refine wpOp_plain rfl rfl (wp_cover fun K hK => ?_)
   have ed2 : x.tmps[5]?.getD undef = _ := ev_tmp gd2
   have k9 : y.cell? ⟨w.heap.size, 2, none⟩ = some (.int .i64 se) := KX.out y hI.d 2
   have HJ := hidP hI
   clear hI gd2
   go_simp
   exact HJ.out.sm hK (by omega) (lb rfl) (slWSeen_inj (by omega)) rfl
  ·
   have gd3 := hI.good 3 (by omega) (waits_of hi (j := 3) (by rfl))
   clear hi
   refine wpOp_plain rfl rfl (wp_cover fun K hK => ?_)
   have ed3 : x.tmps[6]?.getD undef = _ := ev_tmp gd3
   have HJ := hidP hI
   clear hI gd3
   go_simp
   refine (implItoa se y (by omega) (by omega) (HTab.out y HJ.out.d)).mono ?_
   rintro e y' ⟨rfl, hb⟩
   exact hK.out _ _ (HJ.out.put (by omega) (lb rfl) (slWSeen_inj (by omega)) (rfl) (fun j u _ h => GWSeen.keep hb j u h) (bl_trans HJ.out.d hb))
  ·
   have gd1 := hI.good 1 (by omega) (waits_of hi (j := 1) (by rfl))
   have gd4 := hI.good 4 (by omega) (waits_of hi (j := 4) (by rfl))
   clear hi
   refine wpOp_plain rfl rfl (wp_cover fun K hK => ?_)
   have ed1 : x.tmps[4]?.getD undef = _ := ev_tmp gd1
   have ed4 : x.tmps[7]?.getD undef = _ := ev_tmp gd4
   have hbb := bldS2 (b) ((decT se))
   have HJ := hidP hI
   clear hI gd1 gd4
   go_simp
   have hb : Below y.heap.size y (y.alloc (.cells (arrS [b, (decT se)]) 9)) := bl_alloc (Below.refl _ _) _
   exact hK.out _ _ (HJ.out.put (by omega) (lb rfl) (slWSeen_inj (by omega)) (RowS.new [b, (decT se)] y) (fun j u _ h => GWSeen.keep hb j u h) (bl_trans HJ.out.d hb))
  ·
   have gd5 := hI.good 5 (by omega) (waits_of hi (j := 5) (by rfl))
   clear hi
   refine wpOp_plain rfl rfl (wp_cover fun K hK => ?_)
   obtain ⟨g3, g4, g5, g6⟩ := gd5
   have ed5 : x.tmps[8]?.getD undef = _ := ev_tmp g4
   clear g4
   have G6 : Hid (∀ (j : Nat) x, [b, (decT se)][j]? = some x → y.cell? ⟨g3, j, none⟩ = some (.string x)) := g6
   clear g6
   have HJ := hidP hI
   clear hI
   go_simp
   exact hK.out _ _ (HJ.out.put (by omega) (lb rfl) (slWSeen_inj (by omega)) (⟨g3, rfl, g5, G6.out⟩) (fun j u _ h => h) HJ.out.d)
def slWHold : Nat → Nat
 | 0 => 3
 | 1 => 4
 | 2 => 5
 | 3 => 6
 | 4 => 7
 | 5 => 8
 | 6 => 9
 | 7 => 10
 | 8 => 11
 | 9 => 12
 | 10 => 2
 | _ => 0
theorem slWHold_inj {i : Nat} (hi : i < 11) : ∀ j, j < 11 → slWHold j = slWHold i → j = i := by
 have h : ∀ a : _root_.Fin 11, ∀ b : _root_.Fin 11, slWHold b.val = slWHold a.val → b.val = a.val := by decide
 intro j hj e
 exact h ⟨i, hi⟩ ⟨j, hj⟩ e
theorem slWHold_out (k : Nat) (h : (List.range 11).all (fun i => slWHold i != k) = true) : ∀ i, i < 11 → slWHold i ≠ k := fun i hi e => by
 have h1 := List.all_eq_true.1 h i (List.mem_range.2 hi)
 rw [e] at h1
 simp at h1
def GWHold (bm : Nat) (b h c : ByteArray) (k se t : Int) (w : World) : Nat → Value → Prop
 | 0, v => v = .pointer (some ⟨bm, 1, none⟩)
 | 1, v => v = .string b
 | 2, v => v = .pointer (some ⟨bm, 4, none⟩)
 | 3, v => v = .string h
 | 4, v => v = .pointer (some ⟨bm, 5, none⟩)
 | 5, v => v = .string c
 | 6, v => v = .pointer (some ⟨bm, 6, none⟩)
 | 7, v => v = .int .i64 t
 | 8, v => v = .string (decT t)
 | 9, v => RowS [b, h, c, (decT t)] w v
 | 10, v => RowS [b, h, c, (decT t)] w v
 | _, _ => True
theorem GWHold.keep {bm : Nat} {b h c : ByteArray} {k se t : Int} {w w' : World} (hb : Below w.heap.size w w') : ∀ i v, GWHold bm b h c k se t w i v → GWHold bm b h c k se t w' i v
 | 0, _, h => h
 | 1, _, h => h
 | 2, _, h => h
 | 3, _, h => h
 | 4, _, h => h
 | 5, _, h => h
 | 6, _, h => h
 | 7, _, h => h
 | 8, _, h => h
 | 9, _, h => RowS.keep h hb
 | 10, _, h => RowS.keep h hb
 | _ + 11, _, h => h
set_option maxRecDepth 4000 in
set_option maxHeartbeats 4000000 in
theorem writeHold (k : Int) (b : ByteArray) (se : Int) (v3 : Value) (h c : ByteArray) (t : Int) (w : World) (h3 : v3.oneCell' = true) (s0 : 0 ≤ se ∧ se ≤ 1000000) (t0 : 0 ≤ t ∧ t ≤ 1000000) (ht : Tab w) :
  Calls Tryz.prog 77 #[.agg #[.int .i64 k, .string b, .int .i64 se, v3, .string h, .string c, .int .i64 t]] w fun e w' => (∃ v, e = .returned v ∧ RowS [b, h, c, (decT t)] w' v) ∧ Below w.heap.size w w' := by
 obtain ⟨W1, hW1⟩ : ∃ W1, W1 = (w.alloc (.cells #[.int .i64 k, .string b, .int .i64 se, v3, .string h, .string c, .int .i64 t] 25)) := ⟨_, rfl⟩
 have HB : Hid (Below w.heap.size w W1) := by rw [hW1]; exact bl_alloc (Below.refl _ _) _
 have HTab : Hid (∀ y, Below W1.heap.size W1 y → Tab y) := fun y hb => (ht.keep HB.out).keep hb
 have KX : Hid (∀ y, Below W1.heap.size W1 y → ∀ k', y.cell? ⟨w.heap.size, k', none⟩ = (#[.int .i64 k, .string b, .int .i64 se, v3, .string h, .string c, .int .i64 t] : Array Value)[k']?) := by
  intro y hb k'
  rw [hW1] at hb
  rw [box_keep hb k']
  simp [go_sem]
 have HW1 : Hid (W1 = (w.alloc (.cells #[.int .i64 k, .string b, .int .i64 se, v3, .string h, .string c, .int .i64 t] 25))) := hW1
 clear hW1 ht
 go_enter Tryz.func77, Tryz.ntmps77
 go_wp2_with fail
 rw [← HW1.out]
 refine wp_region_any (by kernel_rfl) ?_
 refine reg_invP slWHold 11 (GWHold w.heap.size b h c k se t) (fun y => Below W1.heap.size W1 y) (by decide) rfl (bl_drew (Below.refl _ _)) ?donewHold ?stepwHold
 case donewHold =>
  intro a y hI
  obtain ⟨g3, g4, g5, g6⟩ := hI.all 10 (by omega)
  have r2 : a.tmps[2]?.getD undef = _ := ev_tmp g4
  have df := hI.df
  have HG : Hid (∀ (j : Nat) x, [b, h, c, (decT t)][j]? = some x → y.cell? ⟨g3, j, none⟩ = some (.string x)) := g6
  clear g6 g4
  go_wp2
  exact bodyPost_ret (by simp [results, Tryz.results77, go_sem, r2]) df ⟨⟨_, rfl, ⟨g3, rfl, g5, HG.out⟩⟩, bl_trans HB.out hI.d⟩
 case stepwHold =>
  intro listed x y i hI hi hlt
  obtain rfl | rfl | rfl | rfl | rfl | rfl | rfl | rfl | rfl | rfl | rfl : i = 0 ∨ i = 1 ∨ i = 2 ∨ i = 3 ∨ i = 4 ∨ i = 5 ∨ i = 6 ∨ i = 7 ∨ i = 8 ∨ i = 9 ∨ i = 10 := by omega
  ·
   clear hi
   refine wpOp_plain rfl rfl (wp_cover fun K hK => ?_)
   have i1 : x.tmps[1]?.getD undef = _ := ev_tmp (hI.out 1 (slWHold_out 1 (by decide)))
   have HJ := hidP hI
   clear hI
   go_simp
   exact HJ.out.sm hK (by omega) (lb rfl) (slWHold_inj (by omega)) rfl
  ·
   have gd0 := hI.good 0 (by omega) (waits_of hi (j := 0) (by rfl))
   clear hi
   refine wpOp_plain rfl rfl (wp_cover fun K hK => ?_)
   have ed0 : x.tmps[3]?.getD undef = _ := ev_tmp gd0
   have k9 : y.cell? ⟨w.heap.size, 1, none⟩ = some (.string b) := KX.out y hI.d 1
   have HJ := hidP hI
   clear hI gd0
   go_simp
   exact HJ.out.sm hK (by omega) (lb rfl) (slWHold_inj (by omega)) rfl
  ·
   clear hi
   refine wpOp_plain rfl rfl (wp_cover fun K hK => ?_)
   have i1 : x.tmps[1]?.getD undef = _ := ev_tmp (hI.out 1 (slWHold_out 1 (by decide)))
   have HJ := hidP hI
   clear hI
   go_simp
   exact HJ.out.sm hK (by omega) (lb rfl) (slWHold_inj (by omega)) rfl
  ·
   have gd2 := hI.good 2 (by omega) (waits_of hi (j := 2) (by rfl))
   clear hi
   refine wpOp_plain rfl rfl (wp_cover fun K hK => ?_)
   have ed2 : x.tmps[5]?.getD undef = _ := ev_tmp gd2
   have k9 : y.cell? ⟨w.heap.size, 4, none⟩ = some (.string h) := KX.out y hI.d 4
   have HJ := hidP hI
   clear hI gd2
   go_simp
   exact HJ.out.sm hK (by omega) (lb rfl) (slWHold_inj (by omega)) rfl
  ·
   clear hi
   refine wpOp_plain rfl rfl (wp_cover fun K hK => ?_)
   have i1 : x.tmps[1]?.getD undef = _ := ev_tmp (hI.out 1 (slWHold_out 1 (by decide)))
   have HJ := hidP hI
   clear hI
   go_simp
   exact HJ.out.sm hK (by omega) (lb rfl) (slWHold_inj (by omega)) rfl
  ·
   have gd4 := hI.good 4 (by omega) (waits_of hi (j := 4) (by rfl))
   clear hi
   refine wpOp_plain rfl rfl (wp_cover fun K hK => ?_)
   have ed4 : x.tmps[7]?.getD undef = _ := ev_tmp gd4
   have k9 : y.cell? ⟨w.heap.size, 5, none⟩ = some (.string c) := KX.out y hI.d 5
   have HJ := hidP hI
   clear hI gd4
   go_simp
   exact HJ.out.sm hK (by omega) (lb rfl) (slWHold_inj (by omega)) rfl
  ·
   clear hi
   refine wpOp_plain rfl rfl (wp_cover fun K hK => ?_)
   have i1 : x.tmps[1]?.getD undef = _ := ev_tmp (hI.out 1 (slWHold_out 1 (by decide)))
   have HJ := hidP hI
   clear hI
   go_simp
   exact HJ.out.sm hK (by omega) (lb rfl) (slWHold_inj (by omega)) rfl
  ·
   have gd6 := hI.good 6 (by omega) (waits_of hi (j := 6) (by rfl))
   clear hi
   refine wpOp_plain rfl rfl (wp_cover fun K hK => ?_)
   have ed6 : x.tmps[9]?.getD undef = _ := ev_tmp gd6
   have k9 : y.cell? ⟨w.heap.size, 6, none⟩ = some (.int .i64 t) := KX.out y hI.d 6
   have HJ := hidP hI
   clear hI gd6
   go_simp
   exact HJ.out.sm hK (by omega) (lb rfl) (slWHold_inj (by omega)) rfl
  ·
   have gd7 := hI.good 7 (by omega) (waits_of hi (j := 7) (by rfl))
   clear hi
   refine wpOp_plain rfl rfl (wp_cover fun K hK => ?_)
   have ed7 : x.tmps[10]?.getD undef = _ := ev_tmp gd7
   have HJ := hidP hI
   clear hI gd7
   go_simp
   refine (implItoa t y (by omega) (by omega) (HTab.out y HJ.out.d)).mono ?_
   rintro e y' ⟨rfl, hb⟩
   exact hK.out _ _ (HJ.out.put (by omega) (lb rfl) (slWHold_inj (by omega)) (rfl) (fun j u _ h => GWHold.keep hb j u h) (bl_trans HJ.out.d hb))
  ·
   have gd1 := hI.good 1 (by omega) (waits_of hi (j := 1) (by rfl))
   have gd3 := hI.good 3 (by omega) (waits_of hi (j := 3) (by rfl))
   have gd5 := hI.good 5 (by omega) (waits_of hi (j := 5) (by rfl))
   have gd8 := hI.good 8 (by omega) (waits_of hi (j := 8) (by rfl))
   clear hi
   refine wpOp_plain rfl rfl (wp_cover fun K hK => ?_)
   have ed1 : x.tmps[4]?.getD undef = _ := ev_tmp gd1
   have ed3 : x.tmps[6]?.getD undef = _ := ev_tmp gd3
   have ed5 : x.tmps[8]?.getD undef = _ := ev_tmp gd5
   have ed8 : x.tmps[11]?.getD undef = _ := ev_tmp gd8
   have hbb := bldS4 (b) (h) (c) ((decT t))
   have HJ := hidP hI
   clear hI gd1 gd3 gd5 gd8
   go_simp
   have hb : Below y.heap.size y (y.alloc (.cells (arrS [b, h, c, (decT t)]) 9)) := bl_alloc (Below.refl _ _) _
   exact hK.out _ _ (HJ.out.put (by omega) (lb rfl) (slWHold_inj (by omega)) (RowS.new [b, h, c, (decT t)] y) (fun j u _ h => GWHold.keep hb j u h) (bl_trans HJ.out.d hb))
  ·
   have gd9 := hI.good 9 (by omega) (waits_of hi (j := 9) (by rfl))
   clear hi
   refine wpOp_plain rfl rfl (wp_cover fun K hK => ?_)
   obtain ⟨g3, g4, g5, g6⟩ := gd9
   have ed9 : x.tmps[12]?.getD undef = _ := ev_tmp g4
   clear g4
   have G6 : Hid (∀ (j : Nat) x, [b, h, c, (decT t)][j]? = some x → y.cell? ⟨g3, j, none⟩ = some (.string x)) := g6
   clear g6
   have HJ := hidP hI
   clear hI
   go_simp
   exact hK.out _ _ (HJ.out.put (by omega) (lb rfl) (slWHold_inj (by omega)) (⟨g3, rfl, g5, G6.out⟩) (fun j u _ h => h) HJ.out.d)
def slWGot : Nat → Nat
 | 0 => 3
 | 1 => 4
 | 2 => 5
 | 3 => 6
 | 4 => 7
 | 5 => 8
 | 6 => 9
 | 7 => 10
 | 8 => 2
 | _ => 0
theorem slWGot_inj {i : Nat} (hi : i < 9) : ∀ j, j < 9 → slWGot j = slWGot i → j = i := by
 have h : ∀ a : _root_.Fin 9, ∀ b : _root_.Fin 9, slWGot b.val = slWGot a.val → b.val = a.val := by decide
 intro j hj e
 exact h ⟨i, hi⟩ ⟨j, hj⟩ e
theorem slWGot_out (k : Nat) (h : (List.range 9).all (fun i => slWGot i != k) = true) : ∀ i, i < 9 → slWGot i ≠ k := fun i hi e => by
 have h1 := List.all_eq_true.1 h i (List.mem_range.2 hi)
 rw [e] at h1
 simp at h1
def GWGot (bm : Nat) (b h c : ByteArray) (k se t : Int) (w : World) : Nat → Value → Prop
 | 0, v => v = .pointer (some ⟨bm, 1, none⟩)
 | 1, v => v = .string b
 | 2, v => v = .pointer (some ⟨bm, 4, none⟩)
 | 3, v => v = .string h
 | 4, v => v = .pointer (some ⟨bm, 6, none⟩)
 | 5, v => v = .int .i64 t
 | 6, v => v = .string (decT t)
 | 7, v => RowS [b, h, (decT t)] w v
 | 8, v => RowS [b, h, (decT t)] w v
 | _, _ => True
theorem GWGot.keep {bm : Nat} {b h c : ByteArray} {k se t : Int} {w w' : World} (hb : Below w.heap.size w w') : ∀ i v, GWGot bm b h c k se t w i v → GWGot bm b h c k se t w' i v
 | 0, _, h => h
 | 1, _, h => h
 | 2, _, h => h
 | 3, _, h => h
 | 4, _, h => h
 | 5, _, h => h
 | 6, _, h => h
 | 7, _, h => RowS.keep h hb
 | 8, _, h => RowS.keep h hb
 | _ + 9, _, h => h
set_option maxRecDepth 4000 in
set_option maxHeartbeats 4000000 in
theorem writeGot (k : Int) (b : ByteArray) (se : Int) (v3 : Value) (h c : ByteArray) (t : Int) (w : World) (h3 : v3.oneCell' = true) (s0 : 0 ≤ se ∧ se ≤ 1000000) (t0 : 0 ≤ t ∧ t ≤ 1000000) (ht : Tab w) :
  Calls Tryz.prog 80 #[.agg #[.int .i64 k, .string b, .int .i64 se, v3, .string h, .string c, .int .i64 t]] w fun e w' => (∃ v, e = .returned v ∧ RowS [b, h, (decT t)] w' v) ∧ Below w.heap.size w w' := by
 obtain ⟨W1, hW1⟩ : ∃ W1, W1 = (w.alloc (.cells #[.int .i64 k, .string b, .int .i64 se, v3, .string h, .string c, .int .i64 t] 25)) := ⟨_, rfl⟩
 have HB : Hid (Below w.heap.size w W1) := by rw [hW1]; exact bl_alloc (Below.refl _ _) _
 have HTab : Hid (∀ y, Below W1.heap.size W1 y → Tab y) := fun y hb => (ht.keep HB.out).keep hb
 have KX : Hid (∀ y, Below W1.heap.size W1 y → ∀ k', y.cell? ⟨w.heap.size, k', none⟩ = (#[.int .i64 k, .string b, .int .i64 se, v3, .string h, .string c, .int .i64 t] : Array Value)[k']?) := by
  intro y hb k'
  rw [hW1] at hb
  rw [box_keep hb k']
  simp [go_sem]
 have HW1 : Hid (W1 = (w.alloc (.cells #[.int .i64 k, .string b, .int .i64 se, v3, .string h, .string c, .int .i64 t] 25))) := hW1
 clear hW1 ht
 go_enter Tryz.func80, Tryz.ntmps80
 go_wp2_with fail
 rw [← HW1.out]
 refine wp_region_any (by kernel_rfl) ?_
 refine reg_invP slWGot 9 (GWGot w.heap.size b h c k se t) (fun y => Below W1.heap.size W1 y) (by decide) rfl (bl_drew (Below.refl _ _)) ?donewGot ?stepwGot
 case donewGot =>
  intro a y hI
  obtain ⟨g3, g4, g5, g6⟩ := hI.all 8 (by omega)
  have r2 : a.tmps[2]?.getD undef = _ := ev_tmp g4
  have df := hI.df
  have HG : Hid (∀ (j : Nat) x, [b, h, (decT t)][j]? = some x → y.cell? ⟨g3, j, none⟩ = some (.string x)) := g6
  clear g6 g4
  go_wp2
  exact bodyPost_ret (by simp [results, Tryz.results80, go_sem, r2]) df ⟨⟨_, rfl, ⟨g3, rfl, g5, HG.out⟩⟩, bl_trans HB.out hI.d⟩
 case stepwGot =>
  intro listed x y i hI hi hlt
  obtain rfl | rfl | rfl | rfl | rfl | rfl | rfl | rfl | rfl : i = 0 ∨ i = 1 ∨ i = 2 ∨ i = 3 ∨ i = 4 ∨ i = 5 ∨ i = 6 ∨ i = 7 ∨ i = 8 := by omega
  ·
   clear hi
   refine wpOp_plain rfl rfl (wp_cover fun K hK => ?_)
   have i1 : x.tmps[1]?.getD undef = _ := ev_tmp (hI.out 1 (slWGot_out 1 (by decide)))
   have HJ := hidP hI
   clear hI
   go_simp
   exact HJ.out.sm hK (by omega) (lb rfl) (slWGot_inj (by omega)) rfl
  ·
   have gd0 := hI.good 0 (by omega) (waits_of hi (j := 0) (by rfl))
   clear hi
   refine wpOp_plain rfl rfl (wp_cover fun K hK => ?_)
   have ed0 : x.tmps[3]?.getD undef = _ := ev_tmp gd0
   have k9 : y.cell? ⟨w.heap.size, 1, none⟩ = some (.string b) := KX.out y hI.d 1
   have HJ := hidP hI
   clear hI gd0
   go_simp
   exact HJ.out.sm hK (by omega) (lb rfl) (slWGot_inj (by omega)) rfl
  ·
   clear hi
   refine wpOp_plain rfl rfl (wp_cover fun K hK => ?_)
   have i1 : x.tmps[1]?.getD undef = _ := ev_tmp (hI.out 1 (slWGot_out 1 (by decide)))
   have HJ := hidP hI
   clear hI
   go_simp
   exact HJ.out.sm hK (by omega) (lb rfl) (slWGot_inj (by omega)) rfl
  ·
   have gd2 := hI.good 2 (by omega) (waits_of hi (j := 2) (by rfl))
   clear hi
   refine wpOp_plain rfl rfl (wp_cover fun K hK => ?_)
   have ed2 : x.tmps[5]?.getD undef = _ := ev_tmp gd2
   have k9 : y.cell? ⟨w.heap.size, 4, none⟩ = some (.string h) := KX.out y hI.d 4
   have HJ := hidP hI
   clear hI gd2
   go_simp
   exact HJ.out.sm hK (by omega) (lb rfl) (slWGot_inj (by omega)) rfl
  ·
   clear hi
   refine wpOp_plain rfl rfl (wp_cover fun K hK => ?_)
   have i1 : x.tmps[1]?.getD undef = _ := ev_tmp (hI.out 1 (slWGot_out 1 (by decide)))
   have HJ := hidP hI
   clear hI
   go_simp
   exact HJ.out.sm hK (by omega) (lb rfl) (slWGot_inj (by omega)) rfl
  ·
   have gd4 := hI.good 4 (by omega) (waits_of hi (j := 4) (by rfl))
   clear hi
   refine wpOp_plain rfl rfl (wp_cover fun K hK => ?_)
   have ed4 : x.tmps[7]?.getD undef = _ := ev_tmp gd4
   have k9 : y.cell? ⟨w.heap.size, 6, none⟩ = some (.int .i64 t) := KX.out y hI.d 6
   have HJ := hidP hI
   clear hI gd4
   go_simp
   exact HJ.out.sm hK (by omega) (lb rfl) (slWGot_inj (by omega)) rfl
  ·
   have gd5 := hI.good 5 (by omega) (waits_of hi (j := 5) (by rfl))
   clear hi
   refine wpOp_plain rfl rfl (wp_cover fun K hK => ?_)
   have ed5 : x.tmps[8]?.getD undef = _ := ev_tmp gd5
   have HJ := hidP hI
   clear hI gd5
   go_simp
   refine (implItoa t y (by omega) (by omega) (HTab.out y HJ.out.d)).mono ?_
   rintro e y' ⟨rfl, hb⟩
   exact hK.out _ _ (HJ.out.put (by omega) (lb rfl) (slWGot_inj (by omega)) (rfl) (fun j u _ h => GWGot.keep hb j u h) (bl_trans HJ.out.d hb))
  ·
   have gd1 := hI.good 1 (by omega) (waits_of hi (j := 1) (by rfl))
   have gd3 := hI.good 3 (by omega) (waits_of hi (j := 3) (by rfl))
   have gd6 := hI.good 6 (by omega) (waits_of hi (j := 6) (by rfl))
   clear hi
   refine wpOp_plain rfl rfl (wp_cover fun K hK => ?_)
   have ed1 : x.tmps[4]?.getD undef = _ := ev_tmp gd1
   have ed3 : x.tmps[6]?.getD undef = _ := ev_tmp gd3
   have ed6 : x.tmps[9]?.getD undef = _ := ev_tmp gd6
   have hbb := bldS3 (b) (h) ((decT t))
   have HJ := hidP hI
   clear hI gd1 gd3 gd6
   go_simp
   have hb : Below y.heap.size y (y.alloc (.cells (arrS [b, h, (decT t)]) 9)) := bl_alloc (Below.refl _ _) _
   exact hK.out _ _ (HJ.out.put (by omega) (lb rfl) (slWGot_inj (by omega)) (RowS.new [b, h, (decT t)] y) (fun j u _ h => GWGot.keep hb j u h) (bl_trans HJ.out.d hb))
  ·
   have gd7 := hI.good 7 (by omega) (waits_of hi (j := 7) (by rfl))
   clear hi
   refine wpOp_plain rfl rfl (wp_cover fun K hK => ?_)
   obtain ⟨g3, g4, g5, g6⟩ := gd7
   have ed7 : x.tmps[10]?.getD undef = _ := ev_tmp g4
   clear g4
   have G6 : Hid (∀ (j : Nat) x, [b, h, (decT t)][j]? = some x → y.cell? ⟨g3, j, none⟩ = some (.string x)) := g6
   clear g6
   have HJ := hidP hI
   clear hI
   go_simp
   exact hK.out _ _ (HJ.out.put (by omega) (lb rfl) (slWGot_inj (by omega)) (⟨g3, rfl, g5, G6.out⟩) (fun j u _ h => h) HJ.out.d)
end Go.Proofs.YtgakmkhbnjofhaaGreatDoor
