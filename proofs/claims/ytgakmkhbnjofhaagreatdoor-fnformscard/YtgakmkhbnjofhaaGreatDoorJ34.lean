import Derived.Test.YtgakmkhbnjofhaaGreatDoorJ33
import Derived.Test.YtgakmkhbnjofhaaGreatDoorJ29
import Derived.Test.YtgakmkhbnjofhaaGreatDoorJ05
import Derived.Laws.StructEq
import Derived.Test.YtgakmkhbnjofhaaGreatDoorJ01
import Derived.Deep.MidRow
import Derived.Laws.MakeOwn
import Derived.Laws.AppendOwn
import Derived.Deep.RegionHeld3
import Derived.Laws.Pointers
import Derived.StillTactics
import Derived.Test.YtgakmkhbnjofhaaGreatDoorJ06
import Derived.Test.YtgakmkhbnjofhaaGreatDoorJ08
import Derived.Deep.QuietTactic
import Derived.BigQuiet
namespace Go.Proofs.YtgakmkhbnjofhaaGreatDoor
open Go.RowKit
set_option linter.unusedVariables false
structure DlW (w : World) (kr B : Nat) (l : List W.WantD) (v : Value) (q : Int) (x : World) : Prop where
 o : W.Ow x v l B
 r : Rq x kr q
 e : Below w.heap.size w x
 zw : w.heap.size ≤ kr
 zb : kr < B
theorem DlW.pick {w : World} {kr B : Nat} {l : List W.WantD} {v : Value} {q q' : Int} {x y : World} (h : DlW w kr B l v q x) (he : Ex kr x y) (hr : Rq y kr q') : DlW w kr B l v q' y :=
 ⟨h.o.ex he h.zb, hr, Ex.mono h.e he h.zw, h.zw, h.zb⟩
theorem DlW.below {w : World} {kr B : Nat} {l : List W.WantD} {v : Value} {q : Int} {x y : World} (h : DlW w kr B l v q x) (hb : Below x.heap.size x y) : DlW w kr B l v q y := ⟨h.o.keep hb, h.r.below hb, bl_trans h.e hb, h.zw, h.zb⟩
theorem DlW.up {w : World} {kr B : Nat} {l : List W.WantD} {v : Value} {q q' : Int} {x : World} (h : DlW w kr B l v q x) (hq : q ≤ q') : DlW w kr B l v q' x := ⟨h.o, h.r.up hq, h.e, h.zw, h.zb⟩
theorem DlW.app {w : World} {kr B : Nat} {l l' : List W.WantD} {v v' : Value} {q : Int} {x y : World} (h : DlW w kr B l v q x) (hg : x.grownBy y v.ownBlock) (ho : W.Ow y v' l' B) : DlW w kr B l' v' q y := by
 have zw := h.zw
 have zb := h.zb
 exact ⟨ho, h.r.grown hg (fun k hk => by have := (h.o.lt k hk).1; omega), Below.grown (row := v.ownBlock) h.e hg h.e.size (fun k hk => by have := (h.o.lt k hk).1; omega), zw, zb⟩
theorem DlW.put {w : World} {kr B g m c i : Nat} {l : List W.WantD} {q : Int} {x : World} (h : DlW w kr B l (.slice (some ⟨g, 0, none⟩) m c) q x) (r : W.WantD) (hi : i < l.length) : DlW w kr B (l.set i r) (.slice (some ⟨g, 0, none⟩) m c) q (x.setCells g (i * 7) r.cells) := by
 have he : Ex g x (x.setCells g (i * 7) r.cells) := (Ex.refl _ _).cells _ _
 exact h.app (ex_grown he) (W.Ow.putQ r h.o hi)
theorem W.Ow.blkQ {x : World} {v : Value} {l : List W.WantD} {B : Nat} (h : W.Ow x v l B) (hl : 0 < l.length) : ∃ g c, v = .slice (some ⟨g, 0, none⟩) l.length c ∧ B ≤ g ∧ g < x.heap.size ∧ W.RowsAt x g 0 l ∧ x.there g 0 (l.length * 7) := by
 rcases W.Ow.sl h with ⟨h1, h2⟩ | ⟨g, c, h1, h2, h3, h4, h5⟩
 ·
  rw [h2] at hl; exact absurd hl (by decide)
 ·
  exact ⟨g, c, h1, h2, h3, h4, h5⟩
theorem subW {x : World} {b n o l : Nat} (h : x.there b 0 n) (hl : o + l ≤ n) : x.there b o l := fun j hj => by
 have h1 := h (o + j) (by omega)
 rwa [Nat.zero_add] at h1
theorem bldLW (r : W.WantD) (w : World) : Sem.run Tryz.prog (Instr.buildSlice 23 1 #[(0, .agg #[.string r.c, .int .i64 r.v, .string r.h, .int .i64 r.p, .int .i64 r.s, .int .i64 r.d, .int .i64 r.g])]) w = .ok (.slice (some ⟨w.heap.size, 0, none⟩) 1 1) (w.alloc (.cells #[.string r.c, .int .i64 r.v, .string r.h, .int .i64 r.p, .int .i64 r.s, .int .i64 r.d, .int .i64 r.g] 46)) := by kernel_rfl
theorem mem_setW {l : List W.WantD} {i : Nat} {r : W.WantD} {p : W.WantD → Prop} (h : ∀ x ∈ l, p x) (hr : p r) : ∀ x ∈ l.set i r, p x := fun x hx => by
 rcases List.mem_or_eq_of_mem_set hx with h1 | h1
 ·
  exact h x h1
 ·
  rw [h1]; exact hr
theorem mem_addW {l : List W.WantD} {r : W.WantD} {p : W.WantD → Prop} (h : ∀ x ∈ l, p x) (hr : p r) : ∀ x ∈ l ++ [r], p x := fun x hx => by
 rcases List.mem_append.1 hx with h1 | h1
 ·
  exact h x h1
 ·
  rw [List.mem_singleton.1 h1]; exact hr
set_option maxRecDepth 4000 in
set_option maxHeartbeats 8000000 in
theorem drawWants (sl : Option Addr) (n cap : Nat) (zs : List Int) (w : World) (hz : CodeIn w sl n zs) (hn : n ≤ 1048576) (hcap : n ≤ cap) :
  Calls Tryz.prog 11 #[.slice sl n cap] w fun e w' => ∃ (l : List W.WantD) (a : Option Addr) (c : Nat), e = .returned (.slice a l.length c) ∧ W.Ow w' (.slice a l.length c) l w.heap.size ∧ l.length ≤ 30 ∧ (∀ x ∈ l, x.fits) ∧ Below w.heap.size w w' := by
 obtain ⟨i0, hi, hz0, hz1, hz2⟩ := info_parts W.infoR
 have hinfo : (Tryz.prog.info? 46).map (·.size) = some 7 := by kernel_rfl
 have HZ : Hid (CodeIn w sl n zs) := hz
 clear hz
 go_enter Tryz.func11, Tryz.ntmps11
 go_wp2_with fail
 refine (openQ sl n cap zs _ HZ.out hn hcap).mono ?_
 rintro e w1 ⟨rfl, r1, b1⟩
 obtain ⟨kr, hkr⟩ : ∃ kr, kr = w.heap.size := ⟨_, rfl⟩
 rw [← hkr] at r1
 have HKr : Hid (kr = w.heap.size) := hkr
 have zw : w.heap.size ≤ kr := by omega
 have B1 : Hid (Below w.heap.size w w1) := b1
 have R1 : Hid (Rq w1 kr 0) := r1
 have z1 : kr < w1.heap.size := r1.lt
 clear r1 b1 HZ hkr
 rw [← HKr.out]
 go_wp2_with fail
 refine (wantsQ kr _ _ R1.out (by omega)).mono ?_
 rintro e w2 ⟨l, v, rfl, o2, l2, f2, r2, e2⟩
 obtain ⟨a, c, rfl⟩ := W.Ow.shape (W.Ow.of_owns o2)
 have D2 : Hid (DlW w kr w1.heap.size l (.slice a l.length c) 100 w2) := ⟨o2, r2.up (by omega), Ex.mono B1.out e2 zw, zw, z1⟩
 have z4 : w1.heap.size ≤ w2.heap.size := e2.size
 obtain ⟨B, hB⟩ : ∃ B, B = w1.heap.size := ⟨_, rfl⟩
 rw [← hB] at D2 z4
 have HF : Hid (∀ x ∈ l, x.fits) := f2
 clear o2 r2 e2 f2 hB B1 R1
 by_cases hl0 : (l.length : Int) = 0
 ·
  go_wp2_with fail
  go_ret
  exact ⟨l, a, c, rfl, D2.out.o.low (by have := D2.out.zw; have := D2.out.zb; omega), by omega, HF.out, D2.out.e⟩
 have hl1 : 0 < l.length := by omega
 have hl0b : ((l.length : Int) == 0) = false := beq_eq_false_iff_ne.2 hl0
 have NN : l ≠ [] := fun e => by rw [e] at hl1; exact absurd hl1 (by decide)
 have HNN : Hid (l ≠ []) := NN
 clear NN
 go_wp2_with fail
 refine (pickQ kr _ 2 _ D2.out.r (by omega) (by omega) (by omega)).mono ?_
 rintro e w3 ⟨m, rfl, m0, m1, r3, e3⟩
 have D3 : Hid (DlW w kr B l (.slice a l.length c) 101 w3) := (D2.out.pick e3 r3).up (by omega)
 have z5 : w2.heap.size ≤ w3.heap.size := e3.size
 clear r3 e3 D2
 by_cases hm : m = 0
 ·
  subst hm
  go_wp2_with fail
  go_ret
  exact ⟨l, a, c, rfl, D3.out.o.low (by have := D3.out.zw; have := D3.out.zb; omega), by omega, HF.out, D3.out.e⟩
 have hmb : (m == 0) = false := beq_eq_false_iff_ne.2 hm
 go_wp2_with fail
 refine (pickQ kr _ l.length _ D3.out.r (by omega) (by omega) (by omega)).mono ?_
 rintro e w4 ⟨k', rfl, k0', k1', r4, e4⟩
 obtain ⟨k, rfl⟩ := Int.eq_ofNat_of_zero_le k0'
 have D4 : Hid (DlW w kr B l (.slice a l.length c) 102 w4) := (D3.out.pick e4 r4).up (by omega)
 have z6 : w3.heap.size ≤ w4.heap.size := e4.size
 clear r4 e4 D3
 go_wp2_with fail
 refine (pickQ kr _ 4 _ D4.out.r (by omega) (by omega) (by omega)).mono ?_
 rintro e w5 ⟨z, rfl, z0, z1', r5, e5⟩
 have D5 : Hid (DlW w kr B l (.slice a l.length c) 103 w5) := (D4.out.pick e5 r5).up (by omega)
 have z7 : w4.heap.size ≤ w5.heap.size := e5.size
 clear r5 e5 D4
 have hkl : k < l.length := by omega
 have hki : (k : Int) < (l.length : Int) := by omega
 clear k0' k1'
 rcases (by omega : z = 0 ∨ z = 1 ∨ (z = 2 ∨ z = 3)) with hm' | hm' | hm'
 ·
  obtain rfl : z = 0 := by omega
  clear hm' z0 z1'
  have zkB : kr < B := D5.out.zb
  obtain ⟨g, c', hv, hg0, hg1, hR, hT⟩ := W.Ow.blkQ D5.out.o hl1
  obtain ⟨rfl, rfl⟩ : a = some ⟨g, 0, none⟩ ∧ c = c' := by cases hv; exact ⟨rfl, rfl⟩
  clear hv
  obtain ⟨r, hr⟩ : ∃ r, l[k]? = some r := ⟨l[k], List.getElem?_eq_getElem hkl⟩
  obtain ⟨c0, c1, c2, c3, c4, c5, c6⟩ := W.RowsAt.at hR hr
  simp only [Nat.zero_add] at c0 c1 c2 c3 c4 c5 c6
  have Hr : Hid (r ∈ l) := List.mem_of_getElem? hr
  have HT : Hid (w5.there g 0 (l.length * 7)) := hT
  clear hr hR hT
  have hb := bldLW r
  have Hbz : Hid (Below w5.heap.size w5 (w5.alloc (.cells #[.string r.c, .int .i64 r.v, .string r.h, .int .i64 r.p, .int .i64 r.s, .int .i64 r.d, .int .i64 r.g] 46))) := bl_alloc (Below.refl _ _) _
  go_wp2_with (at_builtin; refine wpList_append_own _ rfl _ _ 23 rfl B 46 i0 _ 7 72 Tryz.underlying23 hi hz0 hz1 hz2 rfl (by decide) (.slice (some ⟨g, 0, none⟩) l.length c) l.length _ rfl (by exact (D5.out.below Hbz.out).o) ⟨_, 0, none⟩ 1 1 (r : W.WantD).cells rfl rfl (new_cells _ _ (by simp) _ _ _ rfl) (W.one_cells (r : W.WantD)) (by unfold maxLen; omega) (by omega) (by have := (Hbz.out).size; omega) ?_; intro v' w7 ho hg hn')
  have ho' : W.Ow w7 v' (l ++ [(r : W.WantD)]) B := by
   show World.ownsRow _ _ _ _ _ (l ++ [(r : W.WantD)]).length _
   rw [List.length_append]
   simpa [W.flatR] using ho
  have D7 := (D5.out.below Hbz.out).app hg ho'
  obtain ⟨a7, c7, rfl⟩ := W.Ow.shape ho'
  go_ret
  exact ⟨l ++ [r], a7, c7, rfl, D7.o.low (by have := D7.zw; have := D7.zb; omega), by rw [List.length_append]; show l.length + 1 ≤ 30; omega, mem_addW HF.out (HF.out r Hr.out), D7.e⟩
 ·
  obtain rfl : z = 1 := by omega
  clear hm' z0 z1'
  go_wp2_with fail
  go_loopw [4, 6] (fun v i wx => ∃ (j : Nat) (l1 : List W.WantD) (a1 : Option Addr) (c1 : Nat), i = .int .i64 (j : Int) ∧ Hid (l1.length = l.length + j) ∧ l1.length ≤ 11 ∧ v = .slice a1 l1.length c1 ∧ Hid (∀ x ∈ l1, x.fits) ∧ Hid (DlW w kr B l1 (.slice a1 l1.length c1) (103 + j) wx)) (fun _ i _ => 11 - (intOf i).toNat)
  case atStart => exact ⟨0, l, a, c, rfl, rfl, by omega, rfl, HF.out, D5.out.up (by omega)⟩
  case round =>
   obtain ⟨j, l1, a1, c1, rfl, HJ, hj1, rfl, HF1, D6⟩ := hrel
   have hjm : (j : Int) ≤ 11 := by have h : l1.length = l.length + j := HJ.out; omega
   have hl1p : 0 < l1.length := by have h : l1.length = l.length + j := HJ.out; omega
   go_wp2_with fail
   refine (pickQ kr _ 2 _ D6.out.r (by omega) (by omega) (by omega)).mono ?_
   rintro e w6 ⟨m2, rfl, m20, m21, r6, e6⟩
   have D7 : Hid (DlW w kr B l1 (.slice a1 l1.length c1) (103 + j + 1) w6) := D6.out.pick e6 r6
   have zB : B ≤ w6.heap.size := by
    obtain ⟨g, c', -, hg0, hg1, -, -⟩ := W.Ow.blkQ D7.out.o hl1p
    omega
   clear r6 e6 D6
   by_cases hlt : (l1.length : Int) < 10 + m2
   ·
    have hjs : j < 11 := by have h : l1.length = l.length + j := HJ.out; omega
    have hb := build_byte (97 + (j : Int)) w6
    obtain ⟨xb, hxs, hc⟩ : ∃ xb : ByteArray, xb.size = 1 ∧ Sem.run Tryz.prog (convert 22 9 (.slice (some ⟨w6.heap.size, 0, none⟩) 1 1)) (w6.alloc (.cells #[.int .u8 (97 + (j : Int))] 5)) = .ok (.string xb) (w6.alloc (.cells #[.int .u8 (97 + (j : Int))] 5)) := ⟨_, rfl, conv_byte (97 + (j : Int)) w6⟩
    have hbl := bldLW ⟨{ data := #[100] } ++ xb, { data := #[] }, 1, 0, 0, 0, 0⟩ (w6.alloc (.cells #[.int .u8 (97 + (j : Int))] 5))
    have Hbz : Hid (Below w6.heap.size w6 ((w6.alloc (.cells #[.int .u8 (97 + (j : Int))] 5)).alloc (.cells #[.string ({ data := #[100] } ++ xb), .int .i64 1, .string ⟨#[]⟩, .int .i64 0, .int .i64 0, .int .i64 0, .int .i64 0] 46))) := bl_alloc (bl_alloc (Below.refl _ _) _) _
    go_wp2_with (at_builtin; refine wpList_append_own _ rfl _ _ 23 rfl B 46 i0 _ 7 72 Tryz.underlying23 hi hz0 hz1 hz2 rfl (by decide) (.slice a1 l1.length c1) l1.length _ rfl (by exact (D7.out.below Hbz.out).o) ⟨_, 0, none⟩ 1 1 (⟨{ data := #[100] } ++ xb, { data := #[] }, 1, 0, 0, 0, 0⟩ : W.WantD).cells rfl rfl (new_cells _ _ (by simp) _ _ _ rfl) (W.one_cells (⟨{ data := #[100] } ++ xb, { data := #[] }, 1, 0, 0, 0, 0⟩ : W.WantD)) (by unfold maxLen; omega) (by omega) (by have := (Hbz.out).size; omega) ?_; intro v' w7 ho hg hn')
    have ho' : W.Ow w7 v' (l1 ++ [(⟨{ data := #[100] } ++ xb, { data := #[] }, 1, 0, 0, 0, 0⟩ : W.WantD)]) B := by
     show World.ownsRow _ _ _ _ _ (l1 ++ [(⟨{ data := #[100] } ++ xb, { data := #[] }, 1, 0, 0, 0, 0⟩ : W.WantD)]).length _
     rw [List.length_append]
     simpa [W.flatR] using ho
    have D8 := (D7.out.below Hbz.out).app hg ho'
    obtain ⟨a7, c7, rfl⟩ := W.Ow.shape ho'
    have D9 : Hid (DlW w kr B (l1 ++ [(⟨{ data := #[100] } ++ xb, { data := #[] }, 1, 0, 0, 0, 0⟩ : W.WantD)]) (.slice a7 (l1 ++ [(⟨{ data := #[100] } ++ xb, { data := #[] }, 1, 0, 0, 0, 0⟩ : W.WantD)]).length c7) (103 + ((j + 1 : Nat) : Int)) w7) := D8.up (by omega)
    exact ⟨⟨j + 1, l1 ++ [(⟨{ data := #[100] } ++ xb, { data := #[] }, 1, 0, 0, 0, 0⟩ : W.WantD)], a7, c7, by go_num, (by show (l1 ++ [_]).length = _; rw [List.length_append]; show l1.length + 1 = _; have h : l1.length = l.length + j := HJ.out; omega), by rw [List.length_append]; show l1.length + 1 ≤ _; omega, rfl, mem_addW HF1.out ⟨by show ByteArray.size _ ≤ _; rw [ByteArray.size_append, hxs]; exact lb rfl, Nat.zero_le _⟩, D9⟩, by simp [intOf]; omega⟩
   ·
    go_wp2_with fail
    go_ret
    exact ⟨l1, a1, c1, rfl, D7.out.o.low (by have := D7.out.zw; have := D7.out.zb; omega), by omega, HF1.out, D7.out.e⟩
 ·
  rcases hm' with rfl | rfl
  all_goals
   clear z0 z1'
   have zkB : kr < B := D5.out.zb
   obtain ⟨g, c', hv, hg0, hg1, hR, hT⟩ := W.Ow.blkQ D5.out.o hl1
   obtain ⟨rfl, rfl⟩ : a = some ⟨g, 0, none⟩ ∧ c = c' := by cases hv; exact ⟨rfl, rfl⟩
   clear hv
   obtain ⟨r, hr⟩ : ∃ r, l[k]? = some r := ⟨l[k], List.getElem?_eq_getElem hkl⟩
   obtain ⟨c0, c1, c2, c3, c4, c5, c6⟩ := W.RowsAt.at hR hr
   simp only [Nat.zero_add] at c0 c1 c2 c3 c4 c5 c6
   have Hr : Hid (r ∈ l) := List.mem_of_getElem? hr
   have HT : Hid (w5.there g 0 (l.length * 7)) := hT
   clear hr hR hT
   go_wp2_with fail
   have h0 : r.fits := HF.out r Hr.out
   refine (spoilWantQ kr _ r.c r.h r.v r.p r.s r.d r.g _ D5.out.r (by omega) h0.1 h0.2).mono ?_
   rintro e w6 ⟨sc, sh, sv, sp, ss, sd, sg, rfl, hcs, hhs, r6, e6⟩
   have HRF : Hid ((⟨sc, sh, sv, sp, ss, sd, sg⟩ : W.WantD).fits) := ⟨hcs, hhs⟩
   have D6 : Hid (DlW w kr B l (.slice (some ⟨g, 0, none⟩) l.length c) 303 w6) := (D5.out.pick e6 r6).up (by omega)
   have HT6 : Hid (w6.there g (k * 7) 7) := subW (there_ex HT.out hg1 e6 (by omega)) (by omega)
   clear r6 e6 D5 c0 c1 c2 c3 c4 c5 c6 hcs hhs
   go_wp2_with (refine wpList_store_mid (by rfl) 46 _ _ (by rfl) g (k * 7) #[.string sc, .int .i64 sv, .string sh, .int .i64 sp, .int .i64 ss, .int .i64 sd, .int .i64 sg] (by rfl) (by rfl) (by exact HT6.out) hinfo (by simp [Value.oneCell']) ?_)
   have D7 := D6.out.put (⟨sc, sh, sv, sp, ss, sd, sg⟩ : W.WantD) hkl
   go_ret
   refine ⟨l.set k (⟨sc, sh, sv, sp, ss, sd, sg⟩ : W.WantD), some ⟨g, 0, none⟩, c, ?_, ?_, by rw [List.length_set]; omega, mem_setW HF.out HRF.out, D7.e⟩
   ·
    first | (rw [List.length_set]; done) | (rw [List.length_set]; rfl)
   ·
    rw [List.length_set]; exact D7.o.low (by have := D7.zw; have := D7.zb; omega)
structure DlR (w : World) (kr B : Nat) (l : List RunD) (v : Value) (q : Int) (x : World) : Prop where
 o : Ow x v l B
 r : Rq x kr q
 e : Below w.heap.size w x
 zw : w.heap.size ≤ kr
 zb : kr < B
theorem DlR.pick {w : World} {kr B : Nat} {l : List RunD} {v : Value} {q q' : Int} {x y : World} (h : DlR w kr B l v q x) (he : Ex kr x y) (hr : Rq y kr q') : DlR w kr B l v q' y :=
 ⟨Ow.grown h.o (ex_grown he) (by cases hv : v.ownBlock with | none => exact Or.inl rfl | some g => exact Or.inr (fun e => by have := (h.o.lt g hv).1; have e2 := Option.some.inj e; have := h.zb; omega)), hr, Ex.mono h.e he h.zw, h.zw, h.zb⟩
theorem DlR.below {w : World} {kr B : Nat} {l : List RunD} {v : Value} {q : Int} {x y : World} (h : DlR w kr B l v q x) (hb : Below x.heap.size x y) : DlR w kr B l v q y := ⟨h.o.keep hb, h.r.below hb, bl_trans h.e hb, h.zw, h.zb⟩
theorem DlR.up {w : World} {kr B : Nat} {l : List RunD} {v : Value} {q q' : Int} {x : World} (h : DlR w kr B l v q x) (hq : q ≤ q') : DlR w kr B l v q' x := ⟨h.o, h.r.up hq, h.e, h.zw, h.zb⟩
theorem DlR.app {w : World} {kr B : Nat} {l l' : List RunD} {v v' : Value} {q : Int} {x y : World} (h : DlR w kr B l v q x) (hg : x.grownBy y v.ownBlock) (ho : Ow y v' l' B) : DlR w kr B l' v' q y := by
 have zw := h.zw
 have zb := h.zb
 exact ⟨ho, h.r.grown hg (fun k hk => by have := (h.o.lt k hk).1; omega), Below.grown (row := v.ownBlock) h.e hg h.e.size (fun k hk => by have := (h.o.lt k hk).1; omega), zw, zb⟩
theorem DlR.put {w : World} {kr B g m c i : Nat} {l : List RunD} {q : Int} {x : World} (h : DlR w kr B l (.slice (some ⟨g, 0, none⟩) m c) q x) (r : RunD) (hi : i < l.length) : DlR w kr B (l.set i r) (.slice (some ⟨g, 0, none⟩) m c) q (x.setCells g (i * 11) r.cells) := by
 have he : Ex g x (x.setCells g (i * 11) r.cells) := (Ex.refl _ _).cells _ _
 exact h.app (ex_grown he) (Ow.putQ r h.o hi)
theorem Ow.blkQ {x : World} {v : Value} {l : List RunD} {B : Nat} (h : Ow x v l B) (hl : 0 < l.length) : ∃ g c, v = .slice (some ⟨g, 0, none⟩) l.length c ∧ B ≤ g ∧ g < x.heap.size ∧ RowsAt x g 0 l ∧ x.there g 0 (l.length * 11) := by
 rcases Ow.sl h with ⟨h1, h2⟩ | ⟨g, c, h1, h2, h3, h4, h5⟩
 ·
  rw [h2] at hl; exact absurd hl (by decide)
 ·
  exact ⟨g, c, h1, h2, h3, h4, h5⟩
theorem subR {x : World} {b n o l : Nat} (h : x.there b 0 n) (hl : o + l ≤ n) : x.there b o l := fun j hj => by
 have h1 := h (o + j) (by omega)
 rwa [Nat.zero_add] at h1
theorem bldLR (r : RunD) (w : World) : Sem.run Tryz.prog (Instr.buildSlice 33 1 #[(0, .agg #[.string r.c, .int .i64 r.v, .string r.h, .int .i64 r.p, .int .i64 r.s, .int .i64 r.d, .int .i64 r.g, .int .i64 r.a, .int .i64 r.b, .int .i64 r.i, .int .i64 r.u])]) w = .ok (.slice (some ⟨w.heap.size, 0, none⟩) 1 1) (w.alloc (.cells #[.string r.c, .int .i64 r.v, .string r.h, .int .i64 r.p, .int .i64 r.s, .int .i64 r.d, .int .i64 r.g, .int .i64 r.a, .int .i64 r.b, .int .i64 r.i, .int .i64 r.u] 73)) := by kernel_rfl
theorem mem_setR {l : List RunD} {i : Nat} {r : RunD} {p : RunD → Prop} (h : ∀ x ∈ l, p x) (hr : p r) : ∀ x ∈ l.set i r, p x := fun x hx => by
 rcases List.mem_or_eq_of_mem_set hx with h1 | h1
 ·
  exact h x h1
 ·
  rw [h1]; exact hr
theorem mem_addR {l : List RunD} {r : RunD} {p : RunD → Prop} (h : ∀ x ∈ l, p x) (hr : p r) : ∀ x ∈ l ++ [r], p x := fun x hx => by
 rcases List.mem_append.1 hx with h1 | h1
 ·
  exact h x h1
 ·
  rw [List.mem_singleton.1 h1]; exact hr
theorem small_fits {r : RunD} (h : Small r) : r.fits := ⟨h.1, h.2.1, by have := h.2.2.1.2; omega, by have := h.2.2.2.1.1; omega⟩
set_option maxRecDepth 4000 in
set_option maxHeartbeats 8000000 in
theorem drawRuns (sl : Option Addr) (n cap : Nat) (zs : List Int) (w : World) (hz : CodeIn w sl n zs) (hn : n ≤ 1048576) (hcap : n ≤ cap) :
  Calls Tryz.prog 12 #[.slice sl n cap] w fun e w' => ∃ (l : List RunD) (a : Option Addr) (c : Nat) (clock : Int), e = .returned (.tuple #[.slice a l.length c, .int .i64 clock]) ∧ Ow w' (.slice a l.length c) l w.heap.size ∧ l.length ≤ 30 ∧ (∀ x ∈ l, x.fits) ∧ (l = [] → ∃ b c', Value.slice a l.length c = .slice (some ⟨b, 0, none⟩) 0 c') ∧ Below w.heap.size w w' := by
 obtain ⟨i0, hi, hz0, hz1, hz2⟩ := info_parts infoR
 have hinfo : (Tryz.prog.info? 73).map (·.size) = some 11 := by kernel_rfl
 have HZ : Hid (CodeIn w sl n zs) := hz
 clear hz
 go_enter Tryz.func12, Tryz.ntmps12
 go_wp2_with fail
 refine (openQ sl n cap zs _ HZ.out hn hcap).mono ?_
 rintro e w1 ⟨rfl, r1, b1⟩
 obtain ⟨kr, hkr⟩ : ∃ kr, kr = w.heap.size := ⟨_, rfl⟩
 rw [← hkr] at r1
 have HKr : Hid (kr = w.heap.size) := hkr
 have zw : w.heap.size ≤ kr := by omega
 have B1 : Hid (Below w.heap.size w w1) := b1
 have R1 : Hid (Rq w1 kr 0) := r1
 have z1 : kr < w1.heap.size := r1.lt
 clear r1 b1 HZ hkr
 rw [← HKr.out]
 go_wp2_with fail
 refine (pickQ kr _ 40 _ R1.out (by omega) (by omega) (by omega)).mono ?_
 rintro e y1 ⟨clock, rfl, k0, k1, r2, e2⟩
 have B2 : Hid (Below w.heap.size w y1) := Ex.mono B1.out e2 zw
 have R2 : Hid (Rq y1 kr 1) := r2.up (by omega)
 have z2 : w1.heap.size ≤ y1.heap.size := e2.size
 clear r2 e2 B1 R1
 go_wp2_with fail
 refine (pickQ kr _ 2 _ R2.out (by omega) (by omega) (by omega)).mono ?_
 rintro e y2 ⟨ok, rfl, o0, o1, r3, e3⟩
 have B3 : Hid (Below w.heap.size w y2) := Ex.mono B2.out e3 zw
 have R3 : Hid (Rq y2 kr 2) := r3.up (by omega)
 have z3 : y1.heap.size ≤ y2.heap.size := e3.size
 clear r3 e3 B2 R2
 have HC : Hid (∀ b : Bool, Calls Tryz.prog 37 #[.pointer (some ⟨kr, 0, none⟩), .int .i64 clock, .bool b] y2 fun e w' => ∃ rs v, e = .returned v ∧ w'.ownsRow y2.heap.size 73 11 v rs.length (flatR rs) ∧ rs.length ≤ 4 ∧ (∀ x ∈ rs, Small x) ∧ (rs = [] → ∃ b c, v = .slice (some ⟨b, 0, none⟩) 0 c) ∧ Rq w' kr (2 + 500) ∧ Ex kr y2 w') := fun b => by
  cases b
  ·
   exact runsF kr 2 clock y2 R3.out (by omega) (by omega) (by omega)
  ·
   exact runsT kr 2 clock y2 R3.out (by omega) (by omega) (by omega)
 go_wp2_with fail
 refine (HC.out _).mono ?_
 rintro e w2 ⟨l, v, rfl, o2, l2, s2, nn2, r2, e2⟩
 have f2 : ∀ x ∈ l, x.fits := fun x hx => small_fits (s2 x hx)
 have HS : Hid (∀ x ∈ l, Small x) := s2
 obtain ⟨a, c, rfl⟩ := Ow.shape (Ow.of_owns o2)
 have HN : Hid (l = [] → ∃ b c', Value.slice a l.length c = .slice (some ⟨b, 0, none⟩) 0 c') := nn2
 have D2 : Hid (DlR w kr y2.heap.size l (.slice a l.length c) 502 w2) := ⟨o2, r2.up (by omega), Ex.mono B3.out e2 zw, zw, by omega⟩
 have z4 : y2.heap.size ≤ w2.heap.size := e2.size
 obtain ⟨B, hB⟩ : ∃ B, B = y2.heap.size := ⟨_, rfl⟩
 rw [← hB] at D2 z4
 have HF : Hid (∀ x ∈ l, x.fits) := f2
 clear o2 r2 e2 f2 hB s2 nn2 HC B3 R3
 generalize (Value.int .i64 ok) = VOK
 by_cases hl0 : (l.length : Int) = 0
 ·
  go_wp2_with fail
  refine bodyPost_ret (v := .tuple #[.slice a l.length c, .int .i64 clock]) (by simp [results, Tryz.results12, go_sem]) rfl ?_
  exact ⟨l, a, c, clock, rfl, D2.out.o.low (by have := D2.out.zw; have := D2.out.zb; omega), by omega, HF.out, HN.out, D2.out.e⟩
 have hl1 : 0 < l.length := by omega
 have hl0b : ((l.length : Int) == 0) = false := beq_eq_false_iff_ne.2 hl0
 have NN : l ≠ [] := fun e => by rw [e] at hl1; exact absurd hl1 (by decide)
 have HNN : Hid (l ≠ []) := NN
 clear NN
 go_wp2_with fail
 refine (pickQ kr _ 2 _ D2.out.r (by omega) (by omega) (by omega)).mono ?_
 rintro e w3 ⟨m, rfl, m0, m1, r3, e3⟩
 have D3 : Hid (DlR w kr B l (.slice a l.length c) 503 w3) := (D2.out.pick e3 r3).up (by omega)
 have z5 : w2.heap.size ≤ w3.heap.size := e3.size
 clear r3 e3 D2
 by_cases hm : m = 0
 ·
  subst hm
  go_wp2_with fail
  refine bodyPost_ret (v := .tuple #[.slice a l.length c, .int .i64 clock]) (by simp [results, Tryz.results12, go_sem]) rfl ?_
  exact ⟨l, a, c, clock, rfl, D3.out.o.low (by have := D3.out.zw; have := D3.out.zb; omega), by omega, HF.out, HN.out, D3.out.e⟩
 have hmb : (m == 0) = false := beq_eq_false_iff_ne.2 hm
 go_wp2_with fail
 refine (pickQ kr _ l.length _ D3.out.r (by omega) (by omega) (by omega)).mono ?_
 rintro e w4 ⟨k', rfl, k0', k1', r4, e4⟩
 obtain ⟨k, rfl⟩ := Int.eq_ofNat_of_zero_le k0'
 have D4 : Hid (DlR w kr B l (.slice a l.length c) 504 w4) := (D3.out.pick e4 r4).up (by omega)
 have z6 : w3.heap.size ≤ w4.heap.size := e4.size
 clear r4 e4 D3
 go_wp2_with fail
 refine (pickQ kr _ 5 _ D4.out.r (by omega) (by omega) (by omega)).mono ?_
 rintro e w5 ⟨z, rfl, z0, z1', r5, e5⟩
 have D5 : Hid (DlR w kr B l (.slice a l.length c) 505 w5) := (D4.out.pick e5 r5).up (by omega)
 have z7 : w4.heap.size ≤ w5.heap.size := e5.size
 clear r5 e5 D4
 have hkl : k < l.length := by omega
 have hki : (k : Int) < (l.length : Int) := by omega
 clear k0' k1'
 rcases (by omega : z = 0 ∨ z = 1 ∨ (z = 2 ∨ z = 3 ∨ z = 4)) with hm' | hm' | hm'
 ·
  obtain rfl : z = 0 := by omega
  clear hm' z0 z1'
  have zkB : kr < B := D5.out.zb
  obtain ⟨g, c', hv, hg0, hg1, hR, hT⟩ := Ow.blkQ D5.out.o hl1
  obtain ⟨rfl, rfl⟩ : a = some ⟨g, 0, none⟩ ∧ c = c' := by cases hv; exact ⟨rfl, rfl⟩
  clear hv
  obtain ⟨r, hr⟩ : ∃ r, l[k]? = some r := ⟨l[k], List.getElem?_eq_getElem hkl⟩
  obtain ⟨c0, c1, c2, c3, c4, c5, c6, c7, c8, c9, c10⟩ := RowsAt.at hR hr
  simp only [Nat.zero_add] at c0 c1 c2 c3 c4 c5 c6 c7 c8 c9 c10
  have Hr : Hid (r ∈ l) := List.mem_of_getElem? hr
  have HT : Hid (w5.there g 0 (l.length * 11)) := hT
  clear hr hR hT
  have hb := bldLR r
  have Hbz : Hid (Below w5.heap.size w5 (w5.alloc (.cells #[.string r.c, .int .i64 r.v, .string r.h, .int .i64 r.p, .int .i64 r.s, .int .i64 r.d, .int .i64 r.g, .int .i64 r.a, .int .i64 r.b, .int .i64 r.i, .int .i64 r.u] 73))) := bl_alloc (Below.refl _ _) _
  go_wp2_with (at_builtin; refine wpList_append_own _ rfl _ _ 33 rfl B 73 i0 _ 11 104 Tryz.underlying33 hi hz0 hz1 hz2 rfl (by decide) (.slice (some ⟨g, 0, none⟩) l.length c) l.length _ rfl (by exact (D5.out.below Hbz.out).o) ⟨_, 0, none⟩ 1 1 (r : RunD).cells rfl rfl (new_cells _ _ (by simp) _ _ _ rfl) (cellsR_one (r : RunD)) (by unfold maxLen; omega) (by omega) (by have := (Hbz.out).size; omega) ?_; intro v' w7 ho hg hn')
  have ho' : Ow w7 v' (l ++ [(r : RunD)]) B := by
   show World.ownsRow _ _ _ _ _ (l ++ [(r : RunD)]).length _
   rw [List.length_append]
   simpa [flatR] using ho
  have D7 := (D5.out.below Hbz.out).app hg ho'
  obtain ⟨a7, c7, rfl⟩ := Ow.shape ho'
  refine bodyPost_ret (v := .tuple #[.slice a7 (l ++ [r]).length c7, .int .i64 clock]) (by simp [results, Tryz.results12, go_sem]) rfl ?_
  exact ⟨l ++ [r], a7, c7, clock, rfl, D7.o.low (by have := D7.zw; have := D7.zb; omega), by rw [List.length_append]; show l.length + 1 ≤ 30; omega, mem_addR HF.out (HF.out r Hr.out), (fun e => absurd e (by simp)), D7.e⟩
 ·
  obtain rfl : z = 1 := by omega
  clear hm' z0 z1'
  go_wp2_with fail
  go_loopw [6, 8] (fun v i wx => ∃ (j : Nat) (l1 : List RunD) (a1 : Option Addr) (c1 : Nat), i = .int .i64 (j : Int) ∧ Hid (l1.length = l.length + j) ∧ l1.length ≤ 21 ∧ v = .slice a1 l1.length c1 ∧ Hid (∀ x ∈ l1, x.fits) ∧ Hid (DlR w kr B l1 (.slice a1 l1.length c1) (505 + j) wx)) (fun _ i _ => 21 - (intOf i).toNat)
  case atStart => exact ⟨0, l, a, c, rfl, rfl, by omega, rfl, HF.out, D5.out.up (by omega)⟩
  case round =>
   obtain ⟨j, l1, a1, c1, rfl, HJ, hj1, rfl, HF1, D6⟩ := hrel
   have hjm : (j : Int) ≤ 21 := by have h : l1.length = l.length + j := HJ.out; omega
   have hl1p : 0 < l1.length := by have h : l1.length = l.length + j := HJ.out; omega
   go_wp2_with fail
   refine (pickQ kr _ 2 _ D6.out.r (by omega) (by omega) (by omega)).mono ?_
   rintro e w6 ⟨m2, rfl, m20, m21, r6, e6⟩
   have D7 : Hid (DlR w kr B l1 (.slice a1 l1.length c1) (505 + j + 1) w6) := D6.out.pick e6 r6
   have zB : B ≤ w6.heap.size := by
    obtain ⟨g, c', -, hg0, hg1, -, -⟩ := Ow.blkQ D7.out.o hl1p
    omega
   clear r6 e6 D6
   by_cases hlt : (l1.length : Int) < 20 + m2
   ·
    have hjs : j < 21 := by have h : l1.length = l.length + j := HJ.out; omega
    have hb := build_byte (97 + (j : Int)) w6
    obtain ⟨xb, hxs, hc⟩ : ∃ xb : ByteArray, xb.size = 1 ∧ Sem.run Tryz.prog (convert 22 9 (.slice (some ⟨w6.heap.size, 0, none⟩) 1 1)) (w6.alloc (.cells #[.int .u8 (97 + (j : Int))] 5)) = .ok (.string xb) (w6.alloc (.cells #[.int .u8 (97 + (j : Int))] 5)) := ⟨_, rfl, conv_byte (97 + (j : Int)) w6⟩
    have hbl := bldLR ⟨{ data := #[100] } ++ xb, { data := #[] }, 1, 0, 0, 0, 0, 1, 0, 0, 0⟩ (w6.alloc (.cells #[.int .u8 (97 + (j : Int))] 5))
    have Hbz : Hid (Below w6.heap.size w6 ((w6.alloc (.cells #[.int .u8 (97 + (j : Int))] 5)).alloc (.cells #[.string ({ data := #[100] } ++ xb), .int .i64 1, .string ⟨#[]⟩, .int .i64 0, .int .i64 0, .int .i64 0, .int .i64 0, .int .i64 1, .int .i64 0, .int .i64 0, .int .i64 0] 73))) := bl_alloc (bl_alloc (Below.refl _ _) _) _
    go_wp2_with (at_builtin; refine wpList_append_own _ rfl _ _ 33 rfl B 73 i0 _ 11 104 Tryz.underlying33 hi hz0 hz1 hz2 rfl (by decide) (.slice a1 l1.length c1) l1.length _ rfl (by exact (D7.out.below Hbz.out).o) ⟨_, 0, none⟩ 1 1 (⟨{ data := #[100] } ++ xb, { data := #[] }, 1, 0, 0, 0, 0, 1, 0, 0, 0⟩ : RunD).cells rfl rfl (new_cells _ _ (by simp) _ _ _ rfl) (cellsR_one (⟨{ data := #[100] } ++ xb, { data := #[] }, 1, 0, 0, 0, 0, 1, 0, 0, 0⟩ : RunD)) (by unfold maxLen; omega) (by omega) (by have := (Hbz.out).size; omega) ?_; intro v' w7 ho hg hn')
    have ho' : Ow w7 v' (l1 ++ [(⟨{ data := #[100] } ++ xb, { data := #[] }, 1, 0, 0, 0, 0, 1, 0, 0, 0⟩ : RunD)]) B := by
     show World.ownsRow _ _ _ _ _ (l1 ++ [(⟨{ data := #[100] } ++ xb, { data := #[] }, 1, 0, 0, 0, 0, 1, 0, 0, 0⟩ : RunD)]).length _
     rw [List.length_append]
     simpa [flatR] using ho
    have D8 := (D7.out.below Hbz.out).app hg ho'
    obtain ⟨a7, c7, rfl⟩ := Ow.shape ho'
    have D9 : Hid (DlR w kr B (l1 ++ [(⟨{ data := #[100] } ++ xb, { data := #[] }, 1, 0, 0, 0, 0, 1, 0, 0, 0⟩ : RunD)]) (.slice a7 (l1 ++ [(⟨{ data := #[100] } ++ xb, { data := #[] }, 1, 0, 0, 0, 0, 1, 0, 0, 0⟩ : RunD)]).length c7) (505 + ((j + 1 : Nat) : Int)) w7) := D8.up (by omega)
    exact ⟨⟨j + 1, l1 ++ [(⟨{ data := #[100] } ++ xb, { data := #[] }, 1, 0, 0, 0, 0, 1, 0, 0, 0⟩ : RunD)], a7, c7, by go_num, (by show (l1 ++ [_]).length = _; rw [List.length_append]; show l1.length + 1 = _; have h : l1.length = l.length + j := HJ.out; omega), by rw [List.length_append]; show l1.length + 1 ≤ _; omega, rfl, mem_addR HF1.out ⟨by show ByteArray.size _ ≤ _; rw [ByteArray.size_append, hxs]; exact lb rfl, Nat.zero_le _, by show (0 : Int) ≤ _; omega, by show _ ≤ (0 : Int); omega⟩, D9⟩, by simp [intOf]; omega⟩
   ·
    go_wp2_with fail
    refine bodyPost_ret (v := .tuple #[.slice a1 l1.length c1, .int .i64 clock]) (by simp [results, Tryz.results12, go_sem]) rfl ?_
    exact ⟨l1, a1, c1, clock, rfl, D7.out.o.low (by have := D7.out.zw; have := D7.out.zb; omega), by omega, HF1.out, (fun e => by rw [e] at hl1p; exact absurd hl1p (by decide)), D7.out.e⟩
 ·
  rcases hm' with rfl | rfl | rfl
  all_goals
   clear z0 z1'
   have zkB : kr < B := D5.out.zb
   obtain ⟨g, c', hv, hg0, hg1, hR, hT⟩ := Ow.blkQ D5.out.o hl1
   obtain ⟨rfl, rfl⟩ : a = some ⟨g, 0, none⟩ ∧ c = c' := by cases hv; exact ⟨rfl, rfl⟩
   clear hv
   obtain ⟨r, hr⟩ : ∃ r, l[k]? = some r := ⟨l[k], List.getElem?_eq_getElem hkl⟩
   obtain ⟨c0, c1, c2, c3, c4, c5, c6, c7, c8, c9, c10⟩ := RowsAt.at hR hr
   simp only [Nat.zero_add] at c0 c1 c2 c3 c4 c5 c6 c7 c8 c9 c10
   have Hr : Hid (r ∈ l) := List.mem_of_getElem? hr
   have HT : Hid (w5.there g 0 (l.length * 11)) := hT
   clear hr hR hT
   go_wp2_with fail
   have h0 : Small r := HS.out r Hr.out
   refine (spoilRunQ kr _ r.c r.h r.v r.p r.s r.d r.g r.a r.b r.i r.u _ D5.out.r (by omega) h0.2.2.1.2 ⟨by have := h0.2.2.2.1.1; omega, h0.2.2.2.1.2⟩ h0.1 h0.2.1).mono ?_
   rintro e w6 ⟨sc, sh, sv, sp, ss, sd, sg, x1, x2, x3, x4, rfl, q2, q3, hcs, hhs, r6, e6⟩
   have HRF : Hid ((⟨sc, sh, sv, sp, ss, sd, sg, x1, x2, x3, x4⟩ : RunD).fits) := ⟨hcs, hhs, by show x2 ≤ _; omega, by show _ ≤ x3; omega⟩
   have D6 : Hid (DlR w kr B l (.slice (some ⟨g, 0, none⟩) l.length c) 705 w6) := (D5.out.pick e6 r6).up (by omega)
   have HT6 : Hid (w6.there g (k * 11) 11) := subR (there_ex HT.out hg1 e6 (by omega)) (by omega)
   clear r6 e6 D5 c0 c1 c2 c3 c4 c5 c6 c7 c8 c9 c10 hcs hhs
   go_wp2_with (refine wpList_store_mid (by rfl) 73 _ _ (by rfl) g (k * 11) #[.string sc, .int .i64 sv, .string sh, .int .i64 sp, .int .i64 ss, .int .i64 sd, .int .i64 sg, .int .i64 x1, .int .i64 x2, .int .i64 x3, .int .i64 x4] (by rfl) (by rfl) (by exact HT6.out) hinfo (by simp [Value.oneCell']) ?_)
   have D7 := D6.out.put (⟨sc, sh, sv, sp, ss, sd, sg, x1, x2, x3, x4⟩ : RunD) hkl
   refine bodyPost_ret (v := .tuple #[.slice (some ⟨g, 0, none⟩) l.length c, .int .i64 clock]) (by simp [results, Tryz.results12, go_sem]) rfl ?_
   refine ⟨l.set k (⟨sc, sh, sv, sp, ss, sd, sg, x1, x2, x3, x4⟩ : RunD), some ⟨g, 0, none⟩, c, clock, ?_, ?_, by rw [List.length_set]; omega, mem_setR HF.out HRF.out, (fun e => absurd (congrArg List.length e) (by rw [List.length_set]; simp only [List.length_nil]; omega)), D7.e⟩
   ·
    first | (rw [List.length_set]; done) | (rw [List.length_set]; rfl)
   ·
    rw [List.length_set]; exact D7.o.low (by have := D7.zw; have := D7.zb; omega)
def sameW (c h c2 h2 : ByteArray) (v p s d g v2 p2 s2 d2 g2 : Int) : Bool := c2.toList == c.toList && (v2 == v && (h2.toList == h.toList && (p2 == p && (s2 == s && (d2 == d && g2 == g)))))
theorem eql_want (c h c2 h2 : ByteArray) (v p s d g v2 p2 s2 d2 g2 : Int) (w : World) : Sem.run Tryz.prog (binOp .eql 46 (.agg #[.string c2, .int .i64 v2, .string h2, .int .i64 p2, .int .i64 s2, .int .i64 d2, .int .i64 g2]) (.agg #[.string c, .int .i64 v, .string h, .int .i64 p, .int .i64 s, .int .i64 d, .int .i64 g])) w = .ok (.bool (sameW c h c2 h2 v p s d g v2 p2 s2 d2 g2)) w := by
 unfold sameW
 rw [run_eql_struct, run_equalIn_agg _ _ _ _ _ (by kernel_rfl) (by kernel_rfl)]
 simp only [Program.fieldsOf, Tryz.underlying46, Op.eqFields]
 simp [go_sem, Tryz.underlying9, Tryz.underlying3]
 (repeat' split) <;> simp_all
theorem neq_want (c h c2 h2 : ByteArray) (v p s d g v2 p2 s2 d2 g2 : Int) (w : World) : Sem.run Tryz.prog (binOp .neq 46 (.agg #[.string c2, .int .i64 v2, .string h2, .int .i64 p2, .int .i64 s2, .int .i64 d2, .int .i64 g2]) (.agg #[.string c, .int .i64 v, .string h, .int .i64 p, .int .i64 s, .int .i64 d, .int .i64 g])) w = .ok (.bool (!sameW c h c2 h2 v p s d g v2 p2 s2 d2 g2)) w := by
 have hq := eql_want c h c2 h2 v p s d g v2 p2 s2 d2 g2 w
 rw [run_eql_struct] at hq
 rw [run_neq_struct]
 cases hr : (Op.equalIn 10000 46 (.agg #[.string c2, .int .i64 v2, .string h2, .int .i64 p2, .int .i64 s2, .int .i64 d2, .int .i64 g2]) (.agg #[.string c, .int .i64 v, .string h, .int .i64 p, .int .i64 s, .int .i64 d, .int .i64 g])).run Tryz.prog w with
 | ok b w1 => rw [hr] at hq; simp at hq ⊢; obtain ⟨rfl, rfl⟩ := hq; simp
 | halt x w1 => rw [hr] at hq; simp [Result.andThen] at hq
theorem bl_dnW {k : Nat} {w w' : World} (h : Below k w w') {n : Nat} : Below k w (w'.drewN n) := ⟨h.os, h.tape, h.output, h.size, h.block⟩
set_option maxHeartbeats 1000000 in
theorem W.wEqRows (b1 n1 b2 n2 : Nat) (xs : List W.WantD) (w : World) (h1 : W.RowsAt w b1 0 xs) (h2 : W.RowsAt w b2 0 xs) (hl : xs.length ≤ 1048576) :
  Calls Tryz.prog 30 #[.slice (some ⟨b1, 0, none⟩) xs.length n1, .slice (some ⟨b2, 0, none⟩) xs.length n2] w fun e w' => e = .returned (.bool true) ∧ Below w.heap.size w w' := by
 go_enter Tryz.func30, Tryz.ntmps30
 go_wp2
 go_loopw [5] (fun i wx => ∃ (k : Nat), k ≤ xs.length ∧ i = .int .i64 k ∧ Hid (Below w.heap.size w wx) ∧ (∀ a, wx.cell? a = w.cell? a)) (fun i _ => xs.length - (intOf i).toNat)
 case atStart => exact ⟨0, Nat.zero_le _, rfl, Below.refl _ _, fun _ => rfl⟩
 case round =>
  obtain ⟨k, hk, rfl, HB, hc⟩ := hrel
  by_cases hlt : k < xs.length
  ·
   obtain ⟨r, hr⟩ : ∃ r, xs[k]? = some r := ⟨xs[k], List.getElem?_eq_getElem hlt⟩
   have g1 : W.RowsAt wr b1 0 xs := fun j q hj i v hv => (hc _).trans (h1 j q hj i v hv)
   have g2 : W.RowsAt wr b2 0 xs := fun j q hj i v hv => (hc _).trans (h2 j q hj i v hv)
   obtain ⟨c0, c1, c2, c3, c4, c5, c6⟩ := g1.at hr
   obtain ⟨d0, d1, d2, d3, d4, d5, d6⟩ := g2.at hr
   simp only [Nat.zero_add] at c0 c1 c2 c3 c4 c5 c6 d0 d1 d2 d3 d4 d5 d6
   have HC : Hid (∀ a, wr.cell? a = w.cell? a) := hc
   have i0 : (0 : Int) ≤ (k : Int) := by omega
   have i1 : (k : Int) < (xs.length : Int) := by omega
   have hn : ∀ y : World, Sem.run Tryz.prog (binOp .neq 46 (.agg #[.string r.c, .int .i64 r.v, .string r.h, .int .i64 r.p, .int .i64 r.s, .int .i64 r.d, .int .i64 r.g]) (.agg #[.string r.c, .int .i64 r.v, .string r.h, .int .i64 r.p, .int .i64 r.s, .int .i64 r.d, .int .i64 r.g])) y = .ok (.bool false) y := fun y => by rw [neq_want]; simp [sameW]
   clear hr hc g1 g2
   go_wp2_with fail
   go_quiet (fail)
   go_wp2
   exact ⟨⟨k + 1, by omega, by go_num, bl_dnW HB.out, fun a => by rw [← HC.out a]; simp⟩, by simp [intOf]; omega⟩
  ·
   go_wp2
   go_ret
   exact ⟨rfl, HB.out⟩
theorem W.wEq_zero (a1 a2 : Option Addr) (c1 c2 : Nat) (w : World) :
  Calls Tryz.prog 30 #[.slice a1 0 c1, .slice a2 0 c2] w fun e w' => e = .returned (.bool true) ∧ w' = w := by
 go_enter Tryz.func30, Tryz.ntmps30
 go_wp2
 refine wp_loop_rounds 1 ?_
 rw [rounds_succ]
 go_wp2
 go_ret
 exact ⟨rfl, rfl⟩
theorem W.wEq {w : World} {v1 v2 : Value} {l : List W.WantD} {B1 B2 : Nat} (h1 : W.Sl w v1 l B1) (h2 : W.Sl w v2 l B2) (hl : l.length ≤ 1048576) :
  Calls Tryz.prog 30 #[v1, v2] w fun e w' => e = .returned (.bool true) ∧ Below w.heap.size w w' := by
 have z : ∀ (a1 a2 : Option Addr) (c1 c2 : Nat), Calls Tryz.prog 30 #[.slice a1 0 c1, .slice a2 0 c2] w fun e w' => e = .returned (.bool true) ∧ Below w.heap.size w w' := fun a1 a2 c1 c2 => (W.wEq_zero a1 a2 c1 c2 w).mono (by rintro e w' ⟨rfl, rfl⟩; exact ⟨rfl, Below.refl _ _⟩)
 rcases h1 with ⟨rfl, rfl⟩ | ⟨g1, cap1, rfl, -, k2, k3, -⟩
 ·
  rcases h2 with ⟨rfl, -⟩ | ⟨g2, cap2, rfl, -, m2, m3, -⟩
  ·
   exact z _ _ _ _
  ·
   exact z _ _ _ _
 ·
  rcases h2 with ⟨rfl, rfl⟩ | ⟨g2, cap2, rfl, -, m2, m3, -⟩
  ·
   exact z _ _ _ _
  ·
   exact W.wEqRows g1 cap1 g2 cap2 l w k3 m3 hl
end Go.Proofs.YtgakmkhbnjofhaaGreatDoor
