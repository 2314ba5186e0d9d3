import Derived.Test.YtgakmkhbnjofhaaGreatDoorJ29
import Derived.Test.YtgakmkhbnjofhaaGreatDoorJ31
import Derived.Test.YtgakmkhbnjofhaaGreatDoorJ12
import Derived.Deep.RegionHeld3
import Derived.Deep.DeepCutAuto
import Derived.StillTactics
namespace Go.Proofs.YtgakmkhbnjofhaaGreatDoor
open Go.RowKit
set_option linter.unusedVariables false
def Str (n : Nat) (v : Value) : Prop := ∃ x : ByteArray, v = .string x ∧ x.size ≤ n
def Oct (v : Value) : Prop := ∃ x : Int, v = .int .u8 x ∧ 0 ≤ x ∧ x < 256
def Any8 (v : Value) : Prop := ∃ x : Int, v = .int .u8 x
def Any64 (v : Value) : Prop := ∃ x : Int, v = .int .i64 x
def NumU (v : Value) : Prop := ∃ x : Int, v = .int .u64 x ∧ 0 ≤ x ∧ x ≤ 7
def Byt (B : Nat) (w : World) (v : Value) : Prop := ∃ (g : Nat) (x : Int), v = .slice (some ⟨g, 0, none⟩) 1 1 ∧ B ≤ g ∧ g < w.heap.size ∧ w.cell? ⟨g, 0, none⟩ = some (.int .u8 x)
theorem Byt.keep {B kr : Nat} {w w' : World} {v : Value} (h : Byt B w v) (he : Ex kr w w') (hk : kr < B) : Byt B w' v := by
 obtain ⟨g, x, h1, h2, h3, h4⟩ := h
 exact ⟨g, x, h1, h2, Nat.lt_of_lt_of_le h3 he.size, (he.cell (p := ⟨g, 0, none⟩) h3 (by show g ≠ kr; omega)).trans h4⟩
def arr5t (a b c d e : ByteArray) : Array Value := #[.string a, .string b, .string c, .string d, .string e]
theorem bld5t (a b c d e : ByteArray) (w : World) : Sem.run Tryz.prog (Instr.buildSlice 43 5 #[(0, .string a), (1, .string b), (2, .string c), (3, .string d), (4, .string e)]) w = .ok (.slice (some ⟨w.heap.size, 0, none⟩) 5 5) (w.alloc (.cells (arr5t a b c d e) 9)) := by kernel_rfl
def arr1o (n : Int) : Array Value := #[.int .u8 n]
theorem bld1o (n : Int) (w : World) : Sem.run Tryz.prog (Instr.buildSlice 22 1 #[(0, .int .u8 n)]) w = .ok (.slice (some ⟨w.heap.size, 0, none⟩) 1 1) (w.alloc (.cells (arr1o n) 5)) := by kernel_rfl
theorem lst5 {w : World} {cs : List Value} {t : TypeId} {B rb : Nat} (hB : B ≤ w.heap.size) (hb : rb < w.heap.size) (h : ∀ v ∈ cs, Txt v) : Lst Txt B rb cs.length (w.alloc (.cells cs.toArray t)) (.slice (some ⟨w.heap.size, 0, none⟩) cs.length cs.length) :=
 ⟨w.heap.size, rfl, hB, by omega, by simp, fun j hj => ⟨cs[j], by rw [World.cell?_alloc_new]; simp [hj], h _ (List.getElem_mem hj)⟩⟩
theorem wrap_i (i : Int) (h0 : 0 ≤ i) (h1 : i ≤ 1000000) : IntKind.i64.wrap i = i := by
 simp [IntKind.wrap, IntKind.signed, IntKind.bits]; omega
theorem wrap_u (i : Int) (h0 : 0 ≤ i) (h1 : i ≤ 1000000) : IntKind.u64.wrap i = i := by
 simp [IntKind.wrap, IntKind.signed, IntKind.bits]; omega
theorem ext_size (s : ByteArray) (a b : Nat) : (s.extract a b).size ≤ s.size := by rw [ByteArray.size_extract]; omega
def slB1 : Nat → Nat
 | 0 => 22
 | 1 => 23
 | 2 => 24
 | 3 => 25
 | 4 => 26
 | 5 => 27
 | 6 => 28
 | 7 => 29
 | 8 => 30
 | 9 => 31
 | 10 => 32
 | 11 => 33
 | 12 => 34
 | 13 => 4
 | _ => 0
theorem slB1_far : ∀ j, j ≠ 4 → (j < 22 ∨ 22 + 13 ≤ j) → ∀ i, i < 14 → slB1 i ≠ j := by
 intro j h1 h2 i hi
 match i, hi with
 | 0, _ => show 22 ≠ j; omega
 | 1, _ => show 23 ≠ j; omega
 | 2, _ => show 24 ≠ j; omega
 | 3, _ => show 25 ≠ j; omega
 | 4, _ => show 26 ≠ j; omega
 | 5, _ => show 27 ≠ j; omega
 | 6, _ => show 28 ≠ j; omega
 | 7, _ => show 29 ≠ j; omega
 | 8, _ => show 30 ≠ j; omega
 | 9, _ => show 31 ≠ j; omega
 | 10, _ => show 32 ≠ j; omega
 | 11, _ => show 33 ≠ j; omega
 | 12, _ => show 34 ≠ j; omega
 | 13, _ => show 4 ≠ j; omega
theorem slB1_inj (i : Nat) (hi : i < 14) : ∀ j, j < 14 → slB1 j = slB1 i → j = i := by
 have h : ∀ a : _root_.Fin 14, ∀ b : _root_.Fin 14, slB1 b.1 = slB1 a.1 → b.1 = a.1 := by decide
 intro j hj e
 exact h ⟨i, hi⟩ ⟨j, hj⟩ e
def GB1 (kr B i : Nat) (s : ByteArray) (w : World) : Nat → Value → Prop
 | 0, v => v = .string s
 | 1, v => v = .int .i64 (i : Int)
 | 2, v => Str s.size v
 | 3, v => Lst Txt B kr 5 w v
 | 4, v => v = .pointer (some ⟨kr, 0, none⟩)
 | 5, v => Num 0 4 v
 | 6, v => Cell Txt B kr w v
 | 7, v => Txt v
 | 8, v => Str (s.size + 20) v
 | 9, v => v = .string s
 | 10, v => v = .int .i64 (i : Int)
 | 11, v => Str s.size v
 | 12, v => Str (2 * s.size + 20) v
 | 13, v => Str (2 * s.size + 20) v
 | _, _ => True
theorem GB1.keep {kr B i : Nat} {s : ByteArray} {w w' : World} (he : Ex kr w w') (hk : kr < B) : ∀ j v, GB1 kr B i s w j v → GB1 kr B i s w' j v
 | 0, _, h => h
 | 1, _, h => h
 | 2, _, h => h
 | 3, _, h => Lst.keep h he hk
 | 4, _, h => h
 | 5, _, h => h
 | 6, _, h => Cell.keep h he hk
 | 7, _, h => h
 | 8, _, h => h
 | 9, _, h => h
 | 10, _, h => h
 | 11, _, h => h
 | 12, _, h => h
 | 13, _, h => h
 | _ + 14, _, h => h
def slB2 : Nat → Nat
 | 0 => 41
 | 1 => 42
 | 2 => 43
 | 3 => 44
 | 4 => 45
 | 5 => 46
 | 6 => 47
 | 7 => 48
 | 8 => 4
 | _ => 0
theorem slB2_far : ∀ j, j ≠ 4 → (j < 41 ∨ 41 + 8 ≤ j) → ∀ i, i < 9 → slB2 i ≠ j := by
 intro j h1 h2 i hi
 match i, hi with
 | 0, _ => show 41 ≠ j; omega
 | 1, _ => show 42 ≠ j; omega
 | 2, _ => show 43 ≠ j; omega
 | 3, _ => show 44 ≠ j; omega
 | 4, _ => show 45 ≠ j; omega
 | 5, _ => show 46 ≠ j; omega
 | 6, _ => show 47 ≠ j; omega
 | 7, _ => show 48 ≠ j; omega
 | 8, _ => show 4 ≠ j; omega
theorem slB2_inj (i : Nat) (hi : i < 9) : ∀ j, j < 9 → slB2 j = slB2 i → j = i := by
 have h : ∀ a : _root_.Fin 9, ∀ b : _root_.Fin 9, slB2 b.1 = slB2 a.1 → b.1 = a.1 := by decide
 intro j hj e
 exact h ⟨i, hi⟩ ⟨j, hj⟩ e
def GB2 (kr B i : Nat) (s : ByteArray) (w : World) : Nat → Value → Prop
 | 0, v => v = .string s
 | 1, v => v = .int .i64 (i : Int)
 | 2, v => Str s.size v
 | 3, v => v = .string s
 | 4, v => v = .int .i64 (i : Int)
 | 5, v => v = .int .i64 ((i : Int) + 1)
 | 6, v => Str s.size v
 | 7, v => Str (2 * s.size + 20) v
 | 8, v => Str (2 * s.size + 20) v
 | _, _ => True
def slB3 : Nat → Nat
 | 0 => 55
 | 1 => 56
 | 2 => 57
 | 3 => 58
 | 4 => 59
 | 5 => 60
 | 6 => 61
 | 7 => 62
 | 8 => 63
 | 9 => 64
 | 10 => 65
 | 11 => 66
 | 12 => 67
 | 13 => 68
 | 14 => 69
 | 15 => 70
 | 16 => 71
 | 17 => 72
 | 18 => 73
 | 19 => 74
 | 20 => 75
 | 21 => 4
 | _ => 0
theorem slB3_far : ∀ j, j ≠ 4 → (j < 55 ∨ 55 + 21 ≤ j) → ∀ i, i < 22 → slB3 i ≠ j := by
 intro j h1 h2 i hi
 match i, hi with
 | 0, _ => show 55 ≠ j; omega
 | 1, _ => show 56 ≠ j; omega
 | 2, _ => show 57 ≠ j; omega
 | 3, _ => show 58 ≠ j; omega
 | 4, _ => show 59 ≠ j; omega
 | 5, _ => show 60 ≠ j; omega
 | 6, _ => show 61 ≠ j; omega
 | 7, _ => show 62 ≠ j; omega
 | 8, _ => show 63 ≠ j; omega
 | 9, _ => show 64 ≠ j; omega
 | 10, _ => show 65 ≠ j; omega
 | 11, _ => show 66 ≠ j; omega
 | 12, _ => show 67 ≠ j; omega
 | 13, _ => show 68 ≠ j; omega
 | 14, _ => show 69 ≠ j; omega
 | 15, _ => show 70 ≠ j; omega
 | 16, _ => show 71 ≠ j; omega
 | 17, _ => show 72 ≠ j; omega
 | 18, _ => show 73 ≠ j; omega
 | 19, _ => show 74 ≠ j; omega
 | 20, _ => show 75 ≠ j; omega
 | 21, _ => show 4 ≠ j; omega
 | m + 22, h => exact absurd h (by omega)
theorem slB3_inj (i : Nat) (hi : i < 22) : ∀ j, j < 22 → slB3 j = slB3 i → j = i := by
 have h : ∀ a : _root_.Fin 22, ∀ b : _root_.Fin 22, slB3 b.1 = slB3 a.1 → b.1 = a.1 := by decide
 intro j hj e
 exact h ⟨i, hi⟩ ⟨j, hj⟩ e
def GB3 (kr B i : Nat) (s : ByteArray) (w : World) : Nat → Value → Prop
 | 0, v => v = .string s
 | 1, v => v = .int .i64 (i : Int)
 | 2, v => Str s.size v
 | 3, v => v = .string s
 | 4, v => v = .int .i64 (i : Int)
 | 5, v => Oct v
 | 6, v => Any64 v
 | 7, v => v = .pointer (some ⟨kr, 0, none⟩)
 | 8, v => Num 0 7 v
 | 9, v => NumU v
 | 10, v => Any64 v
 | 11, v => Any64 v
 | 12, v => Any8 v
 | 13, v => Byt B w v
 | 14, v => Str 1 v
 | 15, v => Str (s.size + 1) v
 | 16, v => v = .string s
 | 17, v => v = .int .i64 (i : Int)
 | 18, v => v = .int .i64 ((i : Int) + 1)
 | 19, v => Str s.size v
 | 20, v => Str (2 * s.size + 20) v
 | 21, v => Str (2 * s.size + 20) v
 | _, _ => True
theorem GB3.keep {kr B i : Nat} {s : ByteArray} {w w' : World} (he : Ex kr w w') (hk : kr < B) : ∀ j v, GB3 kr B i s w j v → GB3 kr B i s w' j v
 | 0, _, h => h
 | 1, _, h => h
 | 2, _, h => h
 | 3, _, h => h
 | 4, _, h => h
 | 5, _, h => h
 | 6, _, h => h
 | 7, _, h => h
 | 8, _, h => h
 | 9, _, h => h
 | 10, _, h => h
 | 11, _, h => h
 | 12, _, h => h
 | 13, _, h => Byt.keep h he hk
 | 14, _, h => h
 | 15, _, h => h
 | 16, _, h => h
 | 17, _, h => h
 | 18, _, h => h
 | 19, _, h => h
 | 20, _, h => h
 | 21, _, h => h
 | _ + 22, _, h => h
set_option maxRecDepth 4000 in
set_option maxHeartbeats 8000000 in
theorem bendQ (kr : Nat) (q : Int) (s : ByteArray) (w : World) (hr : Rq w kr q) (hq : q < 900000) (hs : s.size ≤ 100000) :
  Calls Tryz.prog 31 #[.pointer (some ⟨kr, 0, none⟩), .string s] w fun e w' => ∃ u : ByteArray, e = .returned (.string u) ∧ u.size ≤ 300000 ∧ Rq w' kr (q + 30) ∧ Ex kr w w' := by
 have hkr := hr.lt
 go_enter Tryz.func31, Tryz.ntmps31
 go_wp2_with fail
 refine (pickQ kr q 256 _ hr (by omega) (by omega) (by omega)).mono ?_
 rintro e w1 ⟨m, rfl, m0, m1, r1, e1⟩
 have R1 : Hid (Rq w1 kr (q + 1)) := r1
 have E1 : Hid (Ex kr w w1) := e1
 clear r1 e1 hr
 have hm0 : 0 ≤ m * ((s.size : Int) + 1) := Int.mul_nonneg m0 (by omega)
 have hm1 : m * ((s.size : Int) + 1) ≤ 255 * ((s.size : Int) + 1) := Int.mul_le_mul_of_nonneg_right (by omega) (by omega)
 obtain ⟨i, hi, hin⟩ : ∃ i : Nat, m * ((s.size : Int) + 1) / 256 = (i : Int) ∧ i ≤ s.size := by
  obtain ⟨i, hi⟩ := Int.eq_ofNat_of_zero_le (a := m * ((s.size : Int) + 1) / 256) (by omega)
  exact ⟨i, hi, by omega⟩
 go_wp2_with fail
 rw [hi]
 refine (pickQ kr _ 5 _ R1.out (by omega) (by omega) (by omega)).mono ?_
 rintro e w2 ⟨k, rfl, k0, k1, r2, e2⟩
 have R2 : Hid (Rq w2 kr (q + 2)) := r2.up (by omega)
 have E2 : Hid (Ex kr w w2) := E1.out.trans e2
 have hzi : (i : Int) ≤ (s.size : Int) := by omega
 have hi0 : (0 : Int) ≤ (i : Int) := by omega
 clear r2 e2 hi hm0 hm1 m0 m1 R1 E1
 generalize (Value.int .i64 (m * ((s.size : Int) + 1))) = V11
 generalize (Value.int .i64 m) = V7
 rcases (by omega : k = 0 ∨ k = 1 ∨ k = 2 ∨ k = 3 ∨ k = 4) with hk | hk | hk | hk | hk
 ·
  obtain rfl : k = 0 := by omega
  clear hk k0 k1
  go_wp2_with fail
  go_ret
  exact ⟨_, rfl, by have := ext_size s 0 i; omega, R2.out.up (by omega), E2.out⟩
 ·
  obtain rfl : k = 1 := by omega
  clear hk k0 k1
  go_wp2_with fail
  refine wp_region_any (by kernel_rfl) ?_
  refine reg_invN slB1 14 (GB1 kr w.heap.size i s) (fun p y => Rq y kr p ∧ Ex kr w y) (q + 2) (by decide) rfl ⟨R2.out.below (bl_drew (Below.refl _ _)), E2.out.then_below (bl_drew (Below.refl _ _))⟩ ?done ?step
  case done =>
   intro a y p hI hD hp
   obtain ⟨u, hu, hus⟩ := hI.all 13 (by omega)
   have r3 : a.tmps.getD 4 undef = .string u := hu
   obtain ⟨l, hl, ha⟩ := frameP_two (lo := 22) (n := 13) (se := 4) hI.df hI.sz (lb rfl) (lb rfl) (fun j hj1 hj2 => hI.out j (fun i hi => slB1_far j hj1 hj2 i hi))
   rw [r3] at ha
   have HR9 : Hid (Rq y kr p) := hD.1
   have HE9 : Hid (Ex kr w y) := hD.2
   clear hI r3 hu hD
   subst ha
   obtain ⟨v0, l0, rfl, hl0⟩ := lenP_succ hl
   obtain ⟨v1, l1, rfl, hl1⟩ := lenP_succ hl0
   obtain ⟨v2, l2, rfl, hl2⟩ := lenP_succ hl1
   obtain ⟨v3, l3, rfl, hl3⟩ := lenP_succ hl2
   obtain ⟨v4, l4, rfl, hl4⟩ := lenP_succ hl3
   obtain ⟨v5, l5, rfl, hl5⟩ := lenP_succ hl4
   obtain ⟨v6, l6, rfl, hl6⟩ := lenP_succ hl5
   obtain ⟨v7, l7, rfl, hl7⟩ := lenP_succ hl6
   obtain ⟨v8, l8, rfl, hl8⟩ := lenP_succ hl7
   obtain ⟨v9, l9, rfl, hl9⟩ := lenP_succ hl8
   obtain ⟨v10, l10, rfl, hl10⟩ := lenP_succ hl9
   obtain ⟨v11, l11, rfl, hl11⟩ := lenP_succ hl10
   obtain ⟨v12, l12, rfl, hl12⟩ := lenP_succ hl11
   obtain rfl := lenP_zero hl12
   simp only [List.setIfInBounds_toArray, List.set_cons_succ, List.set_cons_zero, List.take_succ_cons, List.take_zero, List.drop_succ_cons, List.drop_zero, List.cons_append, List.nil_append, Nat.reduceAdd]
   go_wp2_with fail
   go_ret
   exact ⟨u, rfl, by omega, HR9.out.up (by omega), HE9.out⟩
  case step =>
   intro listed x y k hI hi hlt
   obtain rfl | rfl | rfl | rfl | rfl | rfl | rfl | rfl | rfl | rfl | rfl | rfl | rfl | rfl : k = 0 ∨ k = 1 ∨ k = 2 ∨ k = 3 ∨ k = 4 ∨ k = 5 ∨ k = 6 ∨ k = 7 ∨ k = 8 ∨ k = 9 ∨ k = 10 ∨ k = 11 ∨ k = 12 ∨ k = 13 := by omega
   ·
    have HI : Hid (In _ _ _ _ _ _ _ _ _) := hI
    have HO : Hid _ := ready_open hi
    have e1 : x.tmps[1]?.getD undef = .string s := ev_tmp (hI.out 1 (fun j hj => (slB1_far 1 (by omega) (by omega) j hj)))
    clear hi hI
    refine wpOp_plain rfl rfl (wp_cover fun K hK => ?_)
    go_simp
    exact hK.out _ _ (HI.out.same HO.out (by omega) (lb rfl) (slB1_inj _ (by omega)) (rfl))
   ·
    have HI : Hid (In _ _ _ _ _ _ _ _ _) := hI
    have HO : Hid _ := ready_open hi
    have e1 : x.tmps[5]?.getD undef = .int .i64 (i : Int) := ev_tmp (hI.out 5 (fun j hj => (slB1_far 5 (by omega) (by omega) j hj)))
    clear hi hI
    refine wpOp_plain rfl rfl (wp_cover fun K hK => ?_)
    go_simp
    exact hK.out _ _ (HI.out.same HO.out (by omega) (lb rfl) (slB1_inj _ (by omega)) (rfl))
   ·
    have g0 : GB1 kr w.heap.size i s y 0 (x.tmps.getD 22 undef) := hI.good 0 (by omega) (waits_of hi (by rfl))
    have g1 : GB1 kr w.heap.size i s y 1 (x.tmps.getD 23 undef) := hI.good 1 (by omega) (waits_of hi (by rfl))
    have HI : Hid (In _ _ _ _ _ _ _ _ _) := hI
    have HO : Hid _ := ready_open hi
    have e1 : x.tmps[22]?.getD undef = .string s := ev_tmp g0
    have e2 : x.tmps[23]?.getD undef = .int .i64 (i : Int) := ev_tmp g1
    clear hi hI
    refine wpOp_plain rfl rfl (wp_cover fun K hK => ?_)
    go_simp
    exact hK.out _ _ (HI.out.same HO.out (by omega) (lb rfl) (slB1_inj _ (by omega)) (⟨_, rfl, ext_size _ _ _⟩))
   ·
    have HI : Hid (In _ _ _ _ _ _ _ _ _) := hI
    have HO : Hid _ := ready_open hi
    obtain ⟨p0, hD0, -⟩ := hI.d
    have hzz : w.heap.size ≤ y.heap.size := hD0.2.size
    have hb := bld5t { data := #[32] } { data := #[10] } { data := #[48] } { data := #[120] } { data := #[42] }
    clear hi hI
    refine wpOp_plain rfl rfl (wp_cover fun K hK => ?_)
    go_simp
    have hbl : Below y.heap.size y (y.alloc (.cells (arr5t { data := #[32] } { data := #[10] } { data := #[48] } { data := #[120] } { data := #[42] }) 9)) := bl_alloc (Below.refl _ _) _
    have hg9 : Lst Txt w.heap.size kr 5 (y.alloc (.cells (arr5t { data := #[32] } { data := #[10] } { data := #[48] } { data := #[120] } { data := #[42] }) 9)) (.slice (some ⟨y.heap.size, 0, none⟩) 5 5) := lst5 (cs := [.string ⟨#[32]⟩, .string ⟨#[10]⟩, .string ⟨#[48]⟩, .string ⟨#[120]⟩, .string ⟨#[42]⟩]) hzz (by omega) (fun v hv => by simp only [List.mem_cons, List.not_mem_nil, or_false] at hv; rcases hv with rfl | rfl | rfl | rfl | rfl <;> exact ⟨_, rfl, by decide⟩)
    exact hK.out _ _ (HI.out.put HO.out (by omega) (lb rfl) (slB1_inj _ (by omega)) (hg9) (fun j u _ h => GB1.keep (Ex.of_below hbl) hkr j u h) (fun p hp _ => ⟨p, ⟨hp.1.below hbl, hp.2.then_below hbl⟩, by omega⟩))
   ·
    have HI : Hid (In _ _ _ _ _ _ _ _ _) := hI
    have HO : Hid _ := ready_open hi
    have e1 : x.tmps[0]?.getD undef = .pointer (some ⟨kr, 0, none⟩) := ev_tmp (hI.out 0 (fun j hj => (slB1_far 0 (by omega) (by omega) j hj)))
    clear hi hI
    refine wpOp_plain rfl rfl (wp_cover fun K hK => ?_)
    go_simp
    exact hK.out _ _ (HI.out.same HO.out (by omega) (lb rfl) (slB1_inj _ (by omega)) (rfl))
   ·
    have g4 : GB1 kr w.heap.size i s y 4 (x.tmps.getD 26 undef) := hI.good 4 (by omega) (waits_of hi (by rfl))
    have HI : Hid (In _ _ _ _ _ _ _ _ _) := hI
    have HO : Hid _ := ready_open hi
    have e1 : x.tmps[26]?.getD undef = .pointer (some ⟨kr, 0, none⟩) := ev_tmp g4
    obtain ⟨p0, hD0, hp0⟩ := hI.d
    clear hi hI
    refine wpOp_plain rfl rfl (wp_cover fun K hK => ?_)
    go_simp
    refine (pickQ kr p0 5 y hD0.1 (by omega) (by omega) (by omega)).mono ?_
    rintro e y' ⟨z, rfl, z0, z1, r9, e9⟩
    have hop := openOf_set HO.out
    exact hK.out _ _ (HI.out.putP HO.out (by omega) (lb rfl) (slB1_inj _ (by omega)) (⟨z, rfl, z0, by omega⟩) (fun j u _ h => GB1.keep e9 hkr j u h) hp0 ⟨r9, hD0.2.trans e9⟩ (by omega))
   ·
    have g3 : GB1 kr w.heap.size i s y 3 (x.tmps.getD 25 undef) := hI.good 3 (by omega) (waits_of hi (by rfl))
    have g5 : GB1 kr w.heap.size i s y 5 (x.tmps.getD 27 undef) := hI.good 5 (by omega) (waits_of hi (by rfl))
    have HI : Hid (In _ _ _ _ _ _ _ _ _) := hI
    have HO : Hid _ := ready_open hi
    obtain ⟨g, hg, g0, g1, g2, gc⟩ := g3
    obtain ⟨z, hm, m0, m1⟩ := g5
    have e1 : x.tmps[25]?.getD undef = _ := ev_tmp hg
    have e2 : x.tmps[27]?.getD undef = _ := ev_tmp hm
    obtain ⟨j, rfl⟩ := Int.eq_ofNat_of_zero_le m0
    obtain ⟨u, hu, hP⟩ := gc j (by omega)
    have j0 : (j : Int) < 5 := by omega
    clear gc hm hg
    clear hi hI
    refine wpOp_plain rfl rfl (wp_cover fun K hK => ?_)
    go_simp
    exact hK.out _ _ (HI.out.same HO.out (by omega) (lb rfl) (slB1_inj _ (by omega)) (⟨g, j, u, rfl, g0, g1, g2, hu, hP⟩))
   ·
    have g6 : GB1 kr w.heap.size i s y 6 (x.tmps.getD 28 undef) := hI.good 6 (by omega) (waits_of hi (by rfl))
    have HI : Hid (In _ _ _ _ _ _ _ _ _) := hI
    have HO : Hid _ := ready_open hi
    obtain ⟨g, j, u, hv, g0, g1, g2, hu, hP⟩ := g6
    have e1 : x.tmps[28]?.getD undef = _ := ev_tmp hv
    obtain ⟨s', rfl, hs'⟩ := hP
    clear hv
    clear hi hI
    refine wpOp_plain rfl rfl (wp_cover fun K hK => ?_)
    go_simp
    exact hK.out _ _ (HI.out.same HO.out (by omega) (lb rfl) (slB1_inj _ (by omega)) (⟨s', rfl, hs'⟩))
   ·
    have g2 : GB1 kr w.heap.size i s y 2 (x.tmps.getD 24 undef) := hI.good 2 (by omega) (waits_of hi (by rfl))
    have g7 : GB1 kr w.heap.size i s y 7 (x.tmps.getD 29 undef) := hI.good 7 (by omega) (waits_of hi (by rfl))
    have HI : Hid (In _ _ _ _ _ _ _ _ _) := hI
    have HO : Hid _ := ready_open hi
    obtain ⟨x1, h1, z1⟩ := g2
    obtain ⟨x2, h2, z2⟩ := g7
    have e1 : x.tmps[24]?.getD undef = _ := ev_tmp h1
    have e2 : x.tmps[29]?.getD undef = _ := ev_tmp h2
    clear h1 h2
    have hcc : ¬ (9223372036854775807 < x1.size + x2.size) := by omega
    clear hi hI
    refine wpOp_plain rfl rfl (wp_cover fun K hK => ?_)
    go_simp
    exact hK.out _ _ (HI.out.same HO.out (by omega) (lb rfl) (slB1_inj _ (by omega)) (⟨_, rfl, by rw [ByteArray.size_append]; omega⟩))
   ·
    have HI : Hid (In _ _ _ _ _ _ _ _ _) := hI
    have HO : Hid _ := ready_open hi
    have e1 : x.tmps[1]?.getD undef = .string s := ev_tmp (hI.out 1 (fun j hj => (slB1_far 1 (by omega) (by omega) j hj)))
    clear hi hI
    refine wpOp_plain rfl rfl (wp_cover fun K hK => ?_)
    go_simp
    exact hK.out _ _ (HI.out.same HO.out (by omega) (lb rfl) (slB1_inj _ (by omega)) (rfl))
   ·
    have HI : Hid (In _ _ _ _ _ _ _ _ _) := hI
    have HO : Hid _ := ready_open hi
    have e1 : x.tmps[5]?.getD undef = .int .i64 (i : Int) := ev_tmp (hI.out 5 (fun j hj => (slB1_far 5 (by omega) (by omega) j hj)))
    clear hi hI
    refine wpOp_plain rfl rfl (wp_cover fun K hK => ?_)
    go_simp
    exact hK.out _ _ (HI.out.same HO.out (by omega) (lb rfl) (slB1_inj _ (by omega)) (rfl))
   ·
    have g9 : GB1 kr w.heap.size i s y 9 (x.tmps.getD 31 undef) := hI.good 9 (by omega) (waits_of hi (by rfl))
    have g10 : GB1 kr w.heap.size i s y 10 (x.tmps.getD 32 undef) := hI.good 10 (by omega) (waits_of hi (by rfl))
    have HI : Hid (In _ _ _ _ _ _ _ _ _) := hI
    have HO : Hid _ := ready_open hi
    have e1 : x.tmps[31]?.getD undef = .string s := ev_tmp g9
    have e2 : x.tmps[32]?.getD undef = .int .i64 (i : Int) := ev_tmp g10
    clear hi hI
    refine wpOp_plain rfl rfl (wp_cover fun K hK => ?_)
    go_simp
    exact hK.out _ _ (HI.out.same HO.out (by omega) (lb rfl) (slB1_inj _ (by omega)) (⟨_, rfl, ext_size _ _ _⟩))
   ·
    have g8 : GB1 kr w.heap.size i s y 8 (x.tmps.getD 30 undef) := hI.good 8 (by omega) (waits_of hi (by rfl))
    have g11 : GB1 kr w.heap.size i s y 11 (x.tmps.getD 33 undef) := hI.good 11 (by omega) (waits_of hi (by rfl))
    have HI : Hid (In _ _ _ _ _ _ _ _ _) := hI
    have HO : Hid _ := ready_open hi
    obtain ⟨x1, h1, z1⟩ := g8
    obtain ⟨x2, h2, z2⟩ := g11
    have e1 : x.tmps[30]?.getD undef = _ := ev_tmp h1
    have e2 : x.tmps[33]?.getD undef = _ := ev_tmp h2
    clear h1 h2
    have hcc : ¬ (9223372036854775807 < x1.size + x2.size) := by omega
    clear hi hI
    refine wpOp_plain rfl rfl (wp_cover fun K hK => ?_)
    go_simp
    exact hK.out _ _ (HI.out.same HO.out (by omega) (lb rfl) (slB1_inj _ (by omega)) (⟨_, rfl, by rw [ByteArray.size_append]; omega⟩))
   ·
    have g12 : GB1 kr w.heap.size i s y 12 (x.tmps.getD 34 undef) := hI.good 12 (by omega) (waits_of hi (by rfl))
    have HI : Hid (In _ _ _ _ _ _ _ _ _) := hI
    have HO : Hid _ := ready_open hi
    obtain ⟨x1, h1, z1⟩ := g12
    have e1 : x.tmps[34]?.getD undef = _ := ev_tmp h1
    clear h1
    clear hi hI
    refine wpOp_plain rfl rfl (wp_cover fun K hK => ?_)
    go_simp
    exact hK.out _ _ (HI.out.same HO.out (by omega) (lb rfl) (slB1_inj _ (by omega)) (⟨_, rfl, z1⟩))
 ·
  obtain rfl : k = 2 := by omega
  clear hk k0 k1
  by_cases hls : (i : Int) < (s.size : Int)
  ·
   have hi1 : (0 : Int) ≤ (i : Int) + 1 := by omega
   have hi2 : (i : Int) + 1 ≤ (s.size : Int) := by omega
   have hwr : IntKind.i64.wrap ((i : Int) + 1) = (i : Int) + 1 := wrap_i _ (by omega) (by omega)
   go_wp2_with fail
   refine wp_region_any (by kernel_rfl) ?_
   refine reg_invN slB2 9 (GB2 kr w.heap.size i s) (fun p y => Rq y kr p ∧ Ex kr w y) (q + 2) (by decide) rfl ⟨R2.out.below (bl_drew (Below.refl _ _)), E2.out.then_below (bl_drew (Below.refl _ _))⟩ ?done ?step
   case done =>
    intro a y p hI hD hp
    obtain ⟨u, hu, hus⟩ := hI.all 8 (by omega)
    have r3 : a.tmps.getD 4 undef = .string u := hu
    obtain ⟨l, hl, ha⟩ := frameP_two (lo := 41) (n := 8) (se := 4) hI.df hI.sz (lb rfl) (lb rfl) (fun j hj1 hj2 => hI.out j (fun i hi => slB2_far j hj1 hj2 i hi))
    rw [r3] at ha
    have HR9 : Hid (Rq y kr p) := hD.1
    have HE9 : Hid (Ex kr w y) := hD.2
    clear hI r3 hu hD
    subst ha
    obtain ⟨v0, l0, rfl, hl0⟩ := lenP_succ hl
    obtain ⟨v1, l1, rfl, hl1⟩ := lenP_succ hl0
    obtain ⟨v2, l2, rfl, hl2⟩ := lenP_succ hl1
    obtain ⟨v3, l3, rfl, hl3⟩ := lenP_succ hl2
    obtain ⟨v4, l4, rfl, hl4⟩ := lenP_succ hl3
    obtain ⟨v5, l5, rfl, hl5⟩ := lenP_succ hl4
    obtain ⟨v6, l6, rfl, hl6⟩ := lenP_succ hl5
    obtain ⟨v7, l7, rfl, hl7⟩ := lenP_succ hl6
    obtain rfl := lenP_zero hl7
    simp only [List.setIfInBounds_toArray, List.set_cons_succ, List.set_cons_zero, List.take_succ_cons, List.take_zero, List.drop_succ_cons, List.drop_zero, List.cons_append, List.nil_append, Nat.reduceAdd]
    go_wp2_with fail
    go_ret
    exact ⟨u, rfl, by omega, HR9.out.up (by omega), HE9.out⟩
   case step =>
    intro listed x y k hI hi hlt
    obtain rfl | rfl | rfl | rfl | rfl | rfl | rfl | rfl | rfl : k = 0 ∨ k = 1 ∨ k = 2 ∨ k = 3 ∨ k = 4 ∨ k = 5 ∨ k = 6 ∨ k = 7 ∨ k = 8 := by omega
    ·
     have HI : Hid (In _ _ _ _ _ _ _ _ _) := hI
     have HO : Hid _ := ready_open hi
     have e1 : x.tmps[1]?.getD undef = .string s := ev_tmp (hI.out 1 (fun j hj => (slB2_far 1 (by omega) (by omega) j hj)))
     clear hi hI
     refine wpOp_plain rfl rfl (wp_cover fun K hK => ?_)
     go_simp
     exact hK.out _ _ (HI.out.same HO.out (by omega) (lb rfl) (slB2_inj _ (by omega)) (rfl))
    ·
     have HI : Hid (In _ _ _ _ _ _ _ _ _) := hI
     have HO : Hid _ := ready_open hi
     have e1 : x.tmps[5]?.getD undef = .int .i64 (i : Int) := ev_tmp (hI.out 5 (fun j hj => (slB2_far 5 (by omega) (by omega) j hj)))
     clear hi hI
     refine wpOp_plain rfl rfl (wp_cover fun K hK => ?_)
     go_simp
     exact hK.out _ _ (HI.out.same HO.out (by omega) (lb rfl) (slB2_inj _ (by omega)) (rfl))
    ·
     have g0 : GB2 kr w.heap.size i s y 0 (x.tmps.getD 41 undef) := hI.good 0 (by omega) (waits_of hi (by rfl))
     have g1 : GB2 kr w.heap.size i s y 1 (x.tmps.getD 42 undef) := hI.good 1 (by omega) (waits_of hi (by rfl))
     have HI : Hid (In _ _ _ _ _ _ _ _ _) := hI
     have HO : Hid _ := ready_open hi
     have e1 : x.tmps[41]?.getD undef = .string s := ev_tmp g0
     have e2 : x.tmps[42]?.getD undef = .int .i64 (i : Int) := ev_tmp g1
     clear hi hI
     refine wpOp_plain rfl rfl (wp_cover fun K hK => ?_)
     go_simp
     exact hK.out _ _ (HI.out.same HO.out (by omega) (lb rfl) (slB2_inj _ (by omega)) (⟨_, rfl, ext_size _ _ _⟩))
    ·
     have HI : Hid (In _ _ _ _ _ _ _ _ _) := hI
     have HO : Hid _ := ready_open hi
     have e1 : x.tmps[1]?.getD undef = .string s := ev_tmp (hI.out 1 (fun j hj => (slB2_far 1 (by omega) (by omega) j hj)))
     clear hi hI
     refine wpOp_plain rfl rfl (wp_cover fun K hK => ?_)
     go_simp
     exact hK.out _ _ (HI.out.same HO.out (by omega) (lb rfl) (slB2_inj _ (by omega)) (rfl))
    ·
     have HI : Hid (In _ _ _ _ _ _ _ _ _) := hI
     have HO : Hid _ := ready_open hi
     have e1 : x.tmps[5]?.getD undef = .int .i64 (i : Int) := ev_tmp (hI.out 5 (fun j hj => (slB2_far 5 (by omega) (by omega) j hj)))
     clear hi hI
     refine wpOp_plain rfl rfl (wp_cover fun K hK => ?_)
     go_simp
     exact hK.out _ _ (HI.out.same HO.out (by omega) (lb rfl) (slB2_inj _ (by omega)) (rfl))
    ·
     have g4 : GB2 kr w.heap.size i s y 4 (x.tmps.getD 45 undef) := hI.good 4 (by omega) (waits_of hi (by rfl))
     have HI : Hid (In _ _ _ _ _ _ _ _ _) := hI
     have HO : Hid _ := ready_open hi
     have e1 : x.tmps[45]?.getD undef = .int .i64 (i : Int) := ev_tmp g4
     clear hi hI
     refine wpOp_plain rfl rfl (wp_cover fun K hK => ?_)
     go_simp
     exact hK.out _ _ (HI.out.same HO.out (by omega) (lb rfl) (slB2_inj _ (by omega)) (by show Value.int _ _ = Value.int _ _; first | rfl | rw [hwr]))
    ·
     have g3 : GB2 kr w.heap.size i s y 3 (x.tmps.getD 44 undef) := hI.good 3 (by omega) (waits_of hi (by rfl))
     have g5 : GB2 kr w.heap.size i s y 5 (x.tmps.getD 46 undef) := hI.good 5 (by omega) (waits_of hi (by rfl))
     have HI : Hid (In _ _ _ _ _ _ _ _ _) := hI
     have HO : Hid _ := ready_open hi
     have e1 : x.tmps[44]?.getD undef = .string s := ev_tmp g3
     have e2 : x.tmps[46]?.getD undef = .int .i64 ((i : Int) + 1) := ev_tmp g5
     clear hi hI
     refine wpOp_plain rfl rfl (wp_cover fun K hK => ?_)
     go_simp
     exact hK.out _ _ (HI.out.same HO.out (by omega) (lb rfl) (slB2_inj _ (by omega)) (⟨_, rfl, ext_size _ _ _⟩))
    ·
     have g2 : GB2 kr w.heap.size i s y 2 (x.tmps.getD 43 undef) := hI.good 2 (by omega) (waits_of hi (by rfl))
     have g6 : GB2 kr w.heap.size i s y 6 (x.tmps.getD 47 undef) := hI.good 6 (by omega) (waits_of hi (by rfl))
     have HI : Hid (In _ _ _ _ _ _ _ _ _) := hI
     have HO : Hid _ := ready_open hi
     obtain ⟨x1, h1, z1⟩ := g2
     obtain ⟨x2, h2, z2⟩ := g6
     have e1 : x.tmps[43]?.getD undef = _ := ev_tmp h1
     have e2 : x.tmps[47]?.getD undef = _ := ev_tmp h2
     clear h1 h2
     have hcc : ¬ (9223372036854775807 < x1.size + x2.size) := by omega
     clear hi hI
     refine wpOp_plain rfl rfl (wp_cover fun K hK => ?_)
     go_simp
     exact hK.out _ _ (HI.out.same HO.out (by omega) (lb rfl) (slB2_inj _ (by omega)) (⟨_, rfl, by rw [ByteArray.size_append]; omega⟩))
    ·
     have g7 : GB2 kr w.heap.size i s y 7 (x.tmps.getD 48 undef) := hI.good 7 (by omega) (waits_of hi (by rfl))
     have HI : Hid (In _ _ _ _ _ _ _ _ _) := hI
     have HO : Hid _ := ready_open hi
     obtain ⟨x1, h1, z1⟩ := g7
     have e1 : x.tmps[48]?.getD undef = _ := ev_tmp h1
     clear h1
     clear hi hI
     refine wpOp_plain rfl rfl (wp_cover fun K hK => ?_)
     go_simp
     exact hK.out _ _ (HI.out.same HO.out (by omega) (lb rfl) (slB2_inj _ (by omega)) (⟨_, rfl, z1⟩))
  ·
   have hcc : ¬ (9223372036854775807 < s.size + (s.extract i s.size).size) := by have := ext_size s i s.size; omega
   go_wp2_with fail
   go_ret
   exact ⟨_, rfl, by rw [ByteArray.size_append]; have := ext_size s i s.size; omega, R2.out.up (by omega), E2.out⟩
 ·
  obtain rfl : k = 3 := by omega
  clear hk k0 k1
  by_cases hls : (i : Int) < (s.size : Int)
  ·
   have hi1 : (0 : Int) ≤ (i : Int) + 1 := by omega
   have hi2 : (i : Int) + 1 ≤ (s.size : Int) := by omega
   have hwr : IntKind.i64.wrap ((i : Int) + 1) = (i : Int) + 1 := wrap_i _ (by omega) (by omega)
   go_wp2_with fail
   refine wp_region_any (by kernel_rfl) ?_
   refine reg_invN slB3 22 (GB3 kr w.heap.size i s) (fun p y => Rq y kr p ∧ Ex kr w y) (q + 2) (by decide) rfl ⟨R2.out.below (bl_drew (Below.refl _ _)), E2.out.then_below (bl_drew (Below.refl _ _))⟩ ?done ?step
   case done =>
    intro a y p hI hD hp
    obtain ⟨u, hu, hus⟩ := hI.all 21 (by omega)
    have r3 : a.tmps.getD 4 undef = .string u := hu
    obtain ⟨l, hl, ha⟩ := frameP_two (lo := 55) (n := 21) (se := 4) hI.df hI.sz (lb rfl) (lb rfl) (fun j hj1 hj2 => hI.out j (fun i hi => slB3_far j hj1 hj2 i hi))
    rw [r3] at ha
    have HR9 : Hid (Rq y kr p) := hD.1
    have HE9 : Hid (Ex kr w y) := hD.2
    clear hI r3 hu hD
    subst ha
    obtain ⟨v0, l0, rfl, hl0⟩ := lenP_succ hl
    obtain ⟨v1, l1, rfl, hl1⟩ := lenP_succ hl0
    obtain ⟨v2, l2, rfl, hl2⟩ := lenP_succ hl1
    obtain ⟨v3, l3, rfl, hl3⟩ := lenP_succ hl2
    obtain ⟨v4, l4, rfl, hl4⟩ := lenP_succ hl3
    obtain ⟨v5, l5, rfl, hl5⟩ := lenP_succ hl4
    obtain ⟨v6, l6, rfl, hl6⟩ := lenP_succ hl5
    obtain ⟨v7, l7, rfl, hl7⟩ := lenP_succ hl6
    obtain ⟨v8, l8, rfl, hl8⟩ := lenP_succ hl7
    obtain ⟨v9, l9, rfl, hl9⟩ := lenP_succ hl8
    obtain ⟨v10, l10, rfl, hl10⟩ := lenP_succ hl9
    obtain ⟨v11, l11, rfl, hl11⟩ := lenP_succ hl10
    obtain ⟨v12, l12, rfl, hl12⟩ := lenP_succ hl11
    obtain ⟨v13, l13, rfl, hl13⟩ := lenP_succ hl12
    obtain ⟨v14, l14, rfl, hl14⟩ := lenP_succ hl13
    obtain ⟨v15, l15, rfl, hl15⟩ := lenP_succ hl14
    obtain ⟨v16, l16, rfl, hl16⟩ := lenP_succ hl15
    obtain ⟨v17, l17, rfl, hl17⟩ := lenP_succ hl16
    obtain ⟨v18, l18, rfl, hl18⟩ := lenP_succ hl17
    obtain ⟨v19, l19, rfl, hl19⟩ := lenP_succ hl18
    obtain ⟨v20, l20, rfl, hl20⟩ := lenP_succ hl19
    obtain rfl := lenP_zero hl20
    simp only [List.setIfInBounds_toArray, List.set_cons_succ, List.set_cons_zero, List.take_succ_cons, List.take_zero, List.drop_succ_cons, List.drop_zero, List.cons_append, List.nil_append, Nat.reduceAdd]
    go_wp2_with fail
    go_ret
    exact ⟨u, rfl, by omega, HR9.out.up (by omega), HE9.out⟩
   case step =>
    intro listed x y k hI hi hlt
    obtain rfl | rfl | rfl | rfl | rfl | rfl | rfl | rfl | rfl | rfl | rfl | rfl | rfl | rfl | rfl | rfl | rfl | rfl | rfl | rfl | rfl | rfl : k = 0 ∨ k = 1 ∨ k = 2 ∨ k = 3 ∨ k = 4 ∨ k = 5 ∨ k = 6 ∨ k = 7 ∨ k = 8 ∨ k = 9 ∨ k = 10 ∨ k = 11 ∨ k = 12 ∨ k = 13 ∨ k = 14 ∨ k = 15 ∨ k = 16 ∨ k = 17 ∨ k = 18 ∨ k = 19 ∨ k = 20 ∨ k = 21 := by omega
    ·
     have HI : Hid (In _ _ _ _ _ _ _ _ _) := hI
     have HO : Hid _ := ready_open hi
     have e1 : x.tmps[1]?.getD undef = .string s := ev_tmp (hI.out 1 (fun j hj => (slB3_far 1 (by omega) (by omega) j hj)))
     clear hi hI
     refine wpOp_plain rfl rfl (wp_cover fun K hK => ?_)
     go_simp
     exact hK.out _ _ (HI.out.same HO.out (by omega) (lb rfl) (slB3_inj _ (by omega)) (rfl))
    ·
     have HI : Hid (In _ _ _ _ _ _ _ _ _) := hI
     have HO : Hid _ := ready_open hi
     have e1 : x.tmps[5]?.getD undef = .int .i64 (i : Int) := ev_tmp (hI.out 5 (fun j hj => (slB3_far 5 (by omega) (by omega) j hj)))
     clear hi hI
     refine wpOp_plain rfl rfl (wp_cover fun K hK => ?_)
     go_simp
     exact hK.out _ _ (HI.out.same HO.out (by omega) (lb rfl) (slB3_inj _ (by omega)) (rfl))
    ·
     have g0 : GB3 kr w.heap.size i s y 0 (x.tmps.getD 55 undef) := hI.good 0 (by omega) (waits_of hi (by rfl))
     have g1 : GB3 kr w.heap.size i s y 1 (x.tmps.getD 56 undef) := hI.good 1 (by omega) (waits_of hi (by rfl))
     have HI : Hid (In _ _ _ _ _ _ _ _ _) := hI
     have HO : Hid _ := ready_open hi
     have e1 : x.tmps[55]?.getD undef = .string s := ev_tmp g0
     have e2 : x.tmps[56]?.getD undef = .int .i64 (i : Int) := ev_tmp g1
     clear hi hI
     refine wpOp_plain rfl rfl (wp_cover fun K hK => ?_)
     go_simp
     exact hK.out _ _ (HI.out.same HO.out (by omega) (lb rfl) (slB3_inj _ (by omega)) (⟨_, rfl, ext_size _ _ _⟩))
    ·
     have HI : Hid (In _ _ _ _ _ _ _ _ _) := hI
     have HO : Hid _ := ready_open hi
     have e1 : x.tmps[1]?.getD undef = .string s := ev_tmp (hI.out 1 (fun j hj => (slB3_far 1 (by omega) (by omega) j hj)))
     clear hi hI
     refine wpOp_plain rfl rfl (wp_cover fun K hK => ?_)
     go_simp
     exact hK.out _ _ (HI.out.same HO.out (by omega) (lb rfl) (slB3_inj _ (by omega)) (rfl))
    ·
     have HI : Hid (In _ _ _ _ _ _ _ _ _) := hI
     have HO : Hid _ := ready_open hi
     have e1 : x.tmps[5]?.getD undef = .int .i64 (i : Int) := ev_tmp (hI.out 5 (fun j hj => (slB3_far 5 (by omega) (by omega) j hj)))
     clear hi hI
     refine wpOp_plain rfl rfl (wp_cover fun K hK => ?_)
     go_simp
     exact hK.out _ _ (HI.out.same HO.out (by omega) (lb rfl) (slB3_inj _ (by omega)) (rfl))
    ·
     have g3 : GB3 kr w.heap.size i s y 3 (x.tmps.getD 58 undef) := hI.good 3 (by omega) (waits_of hi (by rfl))
     have g4 : GB3 kr w.heap.size i s y 4 (x.tmps.getD 59 undef) := hI.good 4 (by omega) (waits_of hi (by rfl))
     have HI : Hid (In _ _ _ _ _ _ _ _ _) := hI
     have HO : Hid _ := ready_open hi
     have e1 : x.tmps[58]?.getD undef = .string s := ev_tmp g3
     have e2 : x.tmps[59]?.getD undef = .int .i64 (i : Int) := ev_tmp g4
     clear hi hI
     refine wpOp_plain rfl rfl (wp_cover fun K hK => ?_)
     go_simp
     exact hK.out _ _ (HI.out.same HO.out (by omega) (lb rfl) (slB3_inj _ (by omega)) (⟨_, rfl, by omega, Int.ofNat_lt.2 (UInt8.toNat_lt _)⟩))
    ·
     have g5 : GB3 kr w.heap.size i s y 5 (x.tmps.getD 60 undef) := hI.good 5 (by omega) (waits_of hi (by rfl))
     have HI : Hid (In _ _ _ _ _ _ _ _ _) := hI
     have HO : Hid _ := ready_open hi
     obtain ⟨z, hz, z0, z1⟩ := g5
     have e1 : x.tmps[60]?.getD undef = _ := ev_tmp hz
     clear hz
     clear hi hI
     refine wpOp_plain rfl rfl (wp_cover fun K hK => ?_)
     go_simp
     exact hK.out _ _ (HI.out.same HO.out (by omega) (lb rfl) (slB3_inj _ (by omega)) (⟨_, rfl⟩))
    ·
     have HI : Hid (In _ _ _ _ _ _ _ _ _) := hI
     have HO : Hid _ := ready_open hi
     have e1 : x.tmps[0]?.getD undef = .pointer (some ⟨kr, 0, none⟩) := ev_tmp (hI.out 0 (fun j hj => (slB3_far 0 (by omega) (by omega) j hj)))
     clear hi hI
     refine wpOp_plain rfl rfl (wp_cover fun K hK => ?_)
     go_simp
     exact hK.out _ _ (HI.out.same HO.out (by omega) (lb rfl) (slB3_inj _ (by omega)) (rfl))
    ·
     have g7 : GB3 kr w.heap.size i s y 7 (x.tmps.getD 62 undef) := hI.good 7 (by omega) (waits_of hi (by rfl))
     have HI : Hid (In _ _ _ _ _ _ _ _ _) := hI
     have HO : Hid _ := ready_open hi
     have e1 : x.tmps[62]?.getD undef = .pointer (some ⟨kr, 0, none⟩) := ev_tmp g7
     obtain ⟨p0, hD0, hp0⟩ := hI.d
     clear hi hI
     refine wpOp_plain rfl rfl (wp_cover fun K hK => ?_)
     go_simp
     refine (pickQ kr p0 8 y hD0.1 (by omega) (by omega) (by omega)).mono ?_
     rintro e y' ⟨z, rfl, z0, z1, r9, e9⟩
     have hop := openOf_set HO.out
     exact hK.out _ _ (HI.out.putP HO.out (by omega) (lb rfl) (slB3_inj _ (by omega)) (⟨z, rfl, z0, by omega⟩) (fun j u _ h => GB3.keep e9 hkr j u h) hp0 ⟨r9, hD0.2.trans e9⟩ (by omega))
    ·
     have g8 : GB3 kr w.heap.size i s y 8 (x.tmps.getD 63 undef) := hI.good 8 (by omega) (waits_of hi (by rfl))
     have HI : Hid (In _ _ _ _ _ _ _ _ _) := hI
     have HO : Hid _ := ready_open hi
     obtain ⟨z, hz, z0, z1⟩ := g8
     have e1 : x.tmps[63]?.getD undef = _ := ev_tmp hz
     clear hz
     have hwu : IntKind.u64.wrap z = z := wrap_u _ z0 (by omega)
     clear hi hI
     refine wpOp_plain rfl rfl (wp_cover fun K hK => ?_)
     go_simp
     exact hK.out _ _ (HI.out.same HO.out (by omega) (lb rfl) (slB3_inj _ (by omega)) (⟨_, rfl, by first | omega | (rw [hwu]; omega), by first | omega | (rw [hwu]; omega)⟩))
    ·
     have g9 : GB3 kr w.heap.size i s y 9 (x.tmps.getD 64 undef) := hI.good 9 (by omega) (waits_of hi (by rfl))
     have HI : Hid (In _ _ _ _ _ _ _ _ _) := hI
     have HO : Hid _ := ready_open hi
     obtain ⟨z, hz, z0, z1⟩ := g9
     have e1 : x.tmps[64]?.getD undef = _ := ev_tmp hz
     clear hz
     clear hi hI
     refine wpOp_plain rfl rfl (wp_cover fun K hK => ?_)
     obtain rfl | rfl | rfl | rfl | rfl | rfl | rfl | rfl : z = 0 ∨ z = 1 ∨ z = 2 ∨ z = 3 ∨ z = 4 ∨ z = 5 ∨ z = 6 ∨ z = 7 := by omega
     all_goals (go_simp; exact hK.out _ _ (HI.out.same HO.out (by omega) (lb rfl) (slB3_inj _ (by omega)) (⟨_, rfl⟩)))
    ·
     have g6 : GB3 kr w.heap.size i s y 6 (x.tmps.getD 61 undef) := hI.good 6 (by omega) (waits_of hi (by rfl))
     have g10 : GB3 kr w.heap.size i s y 10 (x.tmps.getD 65 undef) := hI.good 10 (by omega) (waits_of hi (by rfl))
     have HI : Hid (In _ _ _ _ _ _ _ _ _) := hI
     have HO : Hid _ := ready_open hi
     obtain ⟨z, hz⟩ := g6
     obtain ⟨z2, hz2⟩ := g10
     have e1 : x.tmps[61]?.getD undef = _ := ev_tmp hz
     have e2 : x.tmps[65]?.getD undef = _ := ev_tmp hz2
     clear hz hz2
     clear hi hI
     refine wpOp_plain rfl rfl (wp_cover fun K hK => ?_)
     go_simp
     exact hK.out _ _ (HI.out.same HO.out (by omega) (lb rfl) (slB3_inj _ (by omega)) (⟨_, rfl⟩))
    ·
     have g11 : GB3 kr w.heap.size i s y 11 (x.tmps.getD 66 undef) := hI.good 11 (by omega) (waits_of hi (by rfl))
     have HI : Hid (In _ _ _ _ _ _ _ _ _) := hI
     have HO : Hid _ := ready_open hi
     obtain ⟨z, hz⟩ := g11
     have e1 : x.tmps[66]?.getD undef = _ := ev_tmp hz
     clear hz
     clear hi hI
     refine wpOp_plain rfl rfl (wp_cover fun K hK => ?_)
     go_simp
     exact hK.out _ _ (HI.out.same HO.out (by omega) (lb rfl) (slB3_inj _ (by omega)) (⟨_, rfl⟩))
    ·
     have g12 : GB3 kr w.heap.size i s y 12 (x.tmps.getD 67 undef) := hI.good 12 (by omega) (waits_of hi (by rfl))
     have HI : Hid (In _ _ _ _ _ _ _ _ _) := hI
     have HO : Hid _ := ready_open hi
     obtain ⟨z, hz⟩ := g12
     have e1 : x.tmps[67]?.getD undef = _ := ev_tmp hz
     clear hz
     obtain ⟨p0, hD0, -⟩ := hI.d
     have hzz : w.heap.size ≤ y.heap.size := hD0.2.size
     have hb := bld1o z
     clear hi hI
     refine wpOp_plain rfl rfl (wp_cover fun K hK => ?_)
     go_simp
     have hbl : Below y.heap.size y (y.alloc (.cells (arr1o z) 5)) := bl_alloc (Below.refl _ _) _
     exact hK.out _ _ (HI.out.put HO.out (by omega) (lb rfl) (slB3_inj _ (by omega)) (⟨y.heap.size, z, rfl, hzz, by simp, by simp [go_sem]⟩) (fun j u _ h => GB3.keep (Ex.of_below hbl) hkr j u h) (fun p hp _ => ⟨p, ⟨hp.1.below hbl, hp.2.then_below hbl⟩, by omega⟩))
    ·
     have g13 : GB3 kr w.heap.size i s y 13 (x.tmps.getD 68 undef) := hI.good 13 (by omega) (waits_of hi (by rfl))
     have HI : Hid (In _ _ _ _ _ _ _ _ _) := hI
     have HO : Hid _ := ready_open hi
     obtain ⟨g, z, hz, z0, z1, z2⟩ := g13
     have e1 : x.tmps[68]?.getD undef = _ := ev_tmp hz
     clear hz
     have hc := conv_byte_at g z y z2
     clear hi hI
     refine wpOp_plain rfl rfl (wp_cover fun K hK => ?_)
     go_simp
     exact hK.out _ _ (HI.out.same HO.out (by omega) (lb rfl) (slB3_inj _ (by omega)) (⟨_, rfl, Nat.le_refl _⟩))
    ·
     have g2 : GB3 kr w.heap.size i s y 2 (x.tmps.getD 57 undef) := hI.good 2 (by omega) (waits_of hi (by rfl))
     have g14 : GB3 kr w.heap.size i s y 14 (x.tmps.getD 69 undef) := hI.good 14 (by omega) (waits_of hi (by rfl))
     have HI : Hid (In _ _ _ _ _ _ _ _ _) := hI
     have HO : Hid _ := ready_open hi
     obtain ⟨x1, h1, z1⟩ := g2
     obtain ⟨x2, h2, z2⟩ := g14
     have e1 : x.tmps[57]?.getD undef = _ := ev_tmp h1
     have e2 : x.tmps[69]?.getD undef = _ := ev_tmp h2
     clear h1 h2
     have hcc : ¬ (9223372036854775807 < x1.size + x2.size) := by omega
     clear hi hI
     refine wpOp_plain rfl rfl (wp_cover fun K hK => ?_)
     go_simp
     exact hK.out _ _ (HI.out.same HO.out (by omega) (lb rfl) (slB3_inj _ (by omega)) (⟨_, rfl, by rw [ByteArray.size_append]; omega⟩))
    ·
     have HI : Hid (In _ _ _ _ _ _ _ _ _) := hI
     have HO : Hid _ := ready_open hi
     have e1 : x.tmps[1]?.getD undef = .string s := ev_tmp (hI.out 1 (fun j hj => (slB3_far 1 (by omega) (by omega) j hj)))
     clear hi hI
     refine wpOp_plain rfl rfl (wp_cover fun K hK => ?_)
     go_simp
     exact hK.out _ _ (HI.out.same HO.out (by omega) (lb rfl) (slB3_inj _ (by omega)) (rfl))
    ·
     have HI : Hid (In _ _ _ _ _ _ _ _ _) := hI
     have HO : Hid _ := ready_open hi
     have e1 : x.tmps[5]?.getD undef = .int .i64 (i : Int) := ev_tmp (hI.out 5 (fun j hj => (slB3_far 5 (by omega) (by omega) j hj)))
     clear hi hI
     refine wpOp_plain rfl rfl (wp_cover fun K hK => ?_)
     go_simp
     exact hK.out _ _ (HI.out.same HO.out (by omega) (lb rfl) (slB3_inj _ (by omega)) (rfl))
    ·
     have g17 : GB3 kr w.heap.size i s y 17 (x.tmps.getD 72 undef) := hI.good 17 (by omega) (waits_of hi (by rfl))
     have HI : Hid (In _ _ _ _ _ _ _ _ _) := hI
     have HO : Hid _ := ready_open hi
     have e1 : x.tmps[72]?.getD undef = .int .i64 (i : Int) := ev_tmp g17
     clear hi hI
     refine wpOp_plain rfl rfl (wp_cover fun K hK => ?_)
     go_simp
     exact hK.out _ _ (HI.out.same HO.out (by omega) (lb rfl) (slB3_inj _ (by omega)) (by show Value.int _ _ = Value.int _ _; first | rfl | rw [hwr]))
    ·
     have g16 : GB3 kr w.heap.size i s y 16 (x.tmps.getD 71 undef) := hI.good 16 (by omega) (waits_of hi (by rfl))
     have g18 : GB3 kr w.heap.size i s y 18 (x.tmps.getD 73 undef) := hI.good 18 (by omega) (waits_of hi (by rfl))
     have HI : Hid (In _ _ _ _ _ _ _ _ _) := hI
     have HO : Hid _ := ready_open hi
     have e1 : x.tmps[71]?.getD undef = .string s := ev_tmp g16
     have e2 : x.tmps[73]?.getD undef = .int .i64 ((i : Int) + 1) := ev_tmp g18
     clear hi hI
     refine wpOp_plain rfl rfl (wp_cover fun K hK => ?_)
     go_simp
     exact hK.out _ _ (HI.out.same HO.out (by omega) (lb rfl) (slB3_inj _ (by omega)) (⟨_, rfl, ext_size _ _ _⟩))
    ·
     have g15 : GB3 kr w.heap.size i s y 15 (x.tmps.getD 70 undef) := hI.good 15 (by omega) (waits_of hi (by rfl))
     have g19 : GB3 kr w.heap.size i s y 19 (x.tmps.getD 74 undef) := hI.good 19 (by omega) (waits_of hi (by rfl))
     have HI : Hid (In _ _ _ _ _ _ _ _ _) := hI
     have HO : Hid _ := ready_open hi
     obtain ⟨x1, h1, z1⟩ := g15
     obtain ⟨x2, h2, z2⟩ := g19
     have e1 : x.tmps[70]?.getD undef = _ := ev_tmp h1
     have e2 : x.tmps[74]?.getD undef = _ := ev_tmp h2
     clear h1 h2
     have hcc : ¬ (9223372036854775807 < x1.size + x2.size) := by omega
     clear hi hI
     refine wpOp_plain rfl rfl (wp_cover fun K hK => ?_)
     go_simp
     exact hK.out _ _ (HI.out.same HO.out (by omega) (lb rfl) (slB3_inj _ (by omega)) (⟨_, rfl, by rw [ByteArray.size_append]; omega⟩))
    ·
     have g20 : GB3 kr w.heap.size i s y 20 (x.tmps.getD 75 undef) := hI.good 20 (by omega) (waits_of hi (by rfl))
     have HI : Hid (In _ _ _ _ _ _ _ _ _) := hI
     have HO : Hid _ := ready_open hi
     obtain ⟨x1, h1, z1⟩ := g20
     have e1 : x.tmps[75]?.getD undef = _ := ev_tmp h1
     clear h1
     clear hi hI
     refine wpOp_plain rfl rfl (wp_cover fun K hK => ?_)
     go_simp
     exact hK.out _ _ (HI.out.same HO.out (by omega) (lb rfl) (slB3_inj _ (by omega)) (⟨_, rfl, z1⟩))
  ·
   have hcc : ¬ (9223372036854775807 < s.size + (s.extract i s.size).size) := by have := ext_size s i s.size; omega
   go_wp2_with fail
   go_ret
   exact ⟨_, rfl, by rw [ByteArray.size_append]; have := ext_size s i s.size; omega, R2.out.up (by omega), E2.out⟩
 ·
  obtain rfl : k = 4 := by omega
  clear hk k0 k1
  have hcc : ¬ (9223372036854775807 < s.size + (s.extract i s.size).size) := by have := ext_size s i s.size; omega
  go_wp2_with fail
  go_ret
  exact ⟨_, rfl, by rw [ByteArray.size_append]; have := ext_size s i s.size; omega, R2.out.up (by omega), E2.out⟩
end Go.Proofs.YtgakmkhbnjofhaaGreatDoor
