import Derived.Test.YtgakmkhbnjofhaaGreatDoorJ29
import Derived.Deep.RegionHeld3
import Derived.Maps.AppendAt
import Derived.Deep.DeepCutAuto
import Derived.Laws.Pointers
import Derived.Deep.CutBlock
import Derived.StillTactics
namespace Go.Proofs.YtgakmkhbnjofhaaGreatDoor
open Go.RowKit
set_option linter.unusedVariables false
theorem build2t (x y : ByteArray) (w : World) : Sem.run Tryz.prog (Instr.buildSlice 43 2 #[(0, .string x), (1, .string y)]) w = .ok (.slice (some ⟨w.heap.size, 0, none⟩) 2 2) (w.alloc (.cells #[.string x, .string y] 9)) := by kernel_rfl
theorem build4t (x y z u : Int) (w : World) : Sem.run Tryz.prog (Instr.buildSlice 44 4 #[(0, .int .i64 x), (1, .int .i64 y), (2, .int .i64 z), (3, .int .i64 u)]) w = .ok (.slice (some ⟨w.heap.size, 0, none⟩) 4 4) (w.alloc (.cells #[.int .i64 x, .int .i64 y, .int .i64 z, .int .i64 u] 3)) := by kernel_rfl
set_option maxRecDepth 4000 in
set_option maxHeartbeats 8000000 in
theorem drawForm (sl : Option Addr) (n cap : Nat) (zs : List Int) (w : World) (hz : CodeIn w sl n zs) (hn : n ≤ 1048576) (hcap : n ≤ cap) :
  Calls Tryz.prog 4 #[.slice sl n cap] w fun e w' => ∃ (P : ParD) (a : Option Addr) (k : Nat), e = .returned (.agg #[.int .i64 P.k, .string P.b, .int .i64 P.se, .slice a P.ws.length k, .string P.h, .string P.c, .int .i64 P.t]) ∧ W.Ow w' (.slice a P.ws.length k) P.ws w.heap.size ∧ Pq P ∧ Below w.heap.size w w' := by
 have hinfo : (Tryz.prog.info? 25).map (·.size) = some 7 := by kernel_rfl
 have HZ : Hid (CodeIn (w.alloc (.cells #[.int .i64 0, .string ⟨#[]⟩, .int .i64 0, .slice none 0 0, .string ⟨#[]⟩, .string ⟨#[]⟩, .int .i64 0] 25)) sl n zs) := hz.bel (bl_alloc (Below.refl _ _) _)
 clear hz
 go_enter Tryz.func4, Tryz.ntmps4
 go_wp2_with fail
 refine (openQ sl n cap zs _ HZ.out hn hcap).mono ?_
 rintro e w1 ⟨rfl, r1, b1⟩
 have hX : (w.alloc (.cells #[.int .i64 0, .string ⟨#[]⟩, .int .i64 0, .slice none 0 0, .string ⟨#[]⟩, .string ⟨#[]⟩, .int .i64 0] 25)).heap.size = w.heap.size + 1 := by simp
 rw [hX] at r1 ⊢
 have T1 : Hid (w1.there w.heap.size 0 7) := there_keep2 (there7p w 25) (by simp) b1
 have B1 : Hid (Below w.heap.size w w1) := bl_trans (bl_alloc (Below.refl _ _) _) b1
 have z1 : w.heap.size + 1 < w1.heap.size := r1.lt
 have R1 : Hid (Rq w1 (w.heap.size + 1) 0) := r1
 clear r1 b1 hX HZ
 obtain ⟨kr, hkr⟩ : ∃ kr, kr = w.heap.size + 1 := ⟨_, rfl⟩
 rw [← hkr] at R1 z1 ⊢
 have zw : w.heap.size < kr := by omega
 clear hkr
 go_wp2_with fail
 refine (parcelQ kr 0 _ R1.out (by omega)).mono ?_
 rintro e w2 ⟨P, sa, sn, rfl, o2, p2, l2, r2, e2⟩
 have z2 : w1.heap.size ≤ w2.heap.size := e2.size
 have D2 : Hid (Dp w kr w2.heap.size w1.heap.size P (.slice sa P.ws.length sn) 200 (w2.alloc (.cells #[.int .i64 P.k, .string P.b, .int .i64 P.se, .slice sa P.ws.length sn, .string P.h, .string P.c, .int .i64 P.t] 25))) := dp_new (there_ex T1.out (by omega) e2 (by omega)) o2 (r2.up (by omega)) (Ex.mono B1.out e2 (by omega)) (by omega) (by omega) (by omega)
 have HF : Hid (Pq P) := p2
 have HL4 : Hid (P.ws.length ≤ 4) := l2
 clear o2 p2 l2 r2 e2 T1 B1 R1
 obtain ⟨w3, hw3⟩ : ∃ w3, w3 = (w2.alloc (.cells #[.int .i64 P.k, .string P.b, .int .i64 P.se, .slice sa P.ws.length sn, .string P.h, .string P.c, .int .i64 P.t] 25)) := ⟨_, rfl⟩
 have HW3 : Hid (w3 = (w2.alloc (.cells #[.int .i64 P.k, .string P.b, .int .i64 P.se, .slice sa P.ws.length sn, .string P.h, .string P.c, .int .i64 P.t] 25))) := hw3
 rw [← hw3] at D2
 obtain ⟨bm, hbm⟩ : ∃ bm, bm = w2.heap.size := ⟨_, rfl⟩
 obtain ⟨B, hB⟩ : ∃ B, B = w1.heap.size := ⟨_, rfl⟩
 rw [← hbm, ← hB] at D2
 have HBm : Hid (bm = w2.heap.size) := hbm
 have hBb : B ≤ bm := by omega
 have hk0 : kr < B := by omega
 clear hw3 hbm hB
 go_wp2_with fail
 rw [← HW3.out, ← HBm.out]
 refine (pickQ kr _ 3 _ D2.out.r (by omega) (by omega) (by omega)).mono ?_
 rintro e y1 ⟨m3, rfl, m30, m31, r3, e3⟩
 have D3 : Hid (Dp w kr bm B P (.slice sa P.ws.length sn) 201 y1) := (D2.out.pick e3 r3).up (by omega)
 clear D2 r3 e3 HW3
 by_cases hm3 : m3 = 0
 ·
  subst hm3
  go_wp2_with fail
  refine (pickQ kr _ 7 _ D3.out.r (by omega) (by omega) (by omega)).mono ?_
  rintro e y2 ⟨z, rfl, z0, z1', r4, e4⟩
  have D4 : Hid (Dp w kr bm B P (.slice sa P.ws.length sn) 202 y2) := (D3.out.pick e4 r4).up (by omega)
  clear D3 r4 e4
  generalize (Value.agg #[.int .i64 P.k, .string P.b, .int .i64 P.se, .slice sa P.ws.length sn, .string P.h, .string P.c, .int .i64 P.t]) = V8
  go_upto_block 0 with (fail)
  go_cut [] (fun wx => ∃ P' s', Dp w kr bm B P' s' 10000 wx ∧ Pq P')
  case first =>
   rcases (by omega : z = 0 ∨ z = 1 ∨ z = 2 ∨ z = 3 ∨ z = 4 ∨ z = 5 ∨ z = 6) with hm | hm | hm | hm | hm | hm | hm
   ·
    obtain rfl : z = 0 := by omega
    clear hm z0 z1'
    go_wp2_with fail
    refine (pickQ kr _ 9 _ D4.out.r (by omega) (by omega) (by omega)).mono ?_
    rintro e y3 ⟨z, rfl, z0, z1, r9, e9⟩
    have DB : Hid (Dp w kr bm B P (.slice sa P.ws.length sn) 203 y3) := (D4.out.pick e9 r9).up (by omega)
    have k9 : y3.cell? ⟨bm, 0, none⟩ = some (.int .i64 P.k) := DB.out.b 0
    have f9 : y3.frozen? ⟨bm, 0, none⟩ = false := DB.out.c 0
    clear r9 e9
    go_wp2_with fail
    go_meet
    have HS : Dp w kr bm B { P with k := z - 1 } (.slice sa P.ws.length sn) 203 (y3.setCell ⟨bm, 0, none⟩ (.int .i64 (z - 1))) := DB.out.set 0 (.int .i64 (z - 1)) (by omega) rfl rfl
    exact ⟨_, _, HS.up (by omega), ⟨HF.out.b, HF.out.h, HF.out.c, HF.out.l, HF.out.f⟩⟩
   ·
    obtain rfl : z = 1 := by omega
    clear hm z0 z1'
    have hb := build2t { data := #[] } { data := #[120, 32, 121] }
    go_wp2_with fail
    have hbl : Below y2.heap.size y2 (y2.alloc (.cells #[.string ⟨#[]⟩, .string ⟨#[120, 32, 121]⟩] 9)) := bl_alloc (Below.refl _ _) _
    have hkz : kr < y2.heap.size := by have := D4.out.z; have := D4.out.zk; omega
    have DA := D4.out.below hbl
    refine (pickQ kr _ 2 _ DA.r (by omega) (by omega) (by omega)).mono ?_
    rintro e y3 ⟨z, rfl, z0, z1, r9, e9⟩
    have DB : Hid (Dp w kr bm B P (.slice sa P.ws.length sn) 203 y3) := (DA.pick e9 r9).up (by omega)
    have kl : ∀ j, y3.cell? ⟨y2.heap.size, j, none⟩ = (#[.string ⟨#[]⟩, .string ⟨#[120, 32, 121]⟩] : Array Value)[j]? := fun j => (e9.cell (p := ⟨y2.heap.size, j, none⟩) (by simp) (by show y2.heap.size ≠ kr; omega)).trans (by simp [go_sem])
    have k9 : y3.cell? ⟨bm, 1, none⟩ = some (.string P.b) := DB.out.b 1
    have f9 : y3.frozen? ⟨bm, 1, none⟩ = false := DB.out.c 1
    clear DA r9 e9
    obtain rfl | rfl : z = 0 ∨ z = 1 := by omega
    ·
     have k1 : y3.cell? ⟨y2.heap.size, 0, none⟩ = some (.string ⟨#[]⟩) := kl 0
     clear kl
     go_wp2_with fail
     go_meet
     have HS : Dp w kr bm B { P with b := { data := #[] } } (.slice sa P.ws.length sn) 203 (y3.setCell ⟨bm, 1, none⟩ (.string ⟨#[]⟩)) := DB.out.set 1 (.string ⟨#[]⟩) (by omega) rfl rfl
     exact ⟨_, _, HS.up (by omega), ⟨by show ByteArray.size ({ data := #[] }) ≤ 20; decide, HF.out.h, HF.out.c, HF.out.l, HF.out.f⟩⟩
    ·
     have k1 : y3.cell? ⟨y2.heap.size, 1, none⟩ = some (.string ⟨#[120, 32, 121]⟩) := kl 1
     clear kl
     go_wp2_with fail
     go_meet
     have HS : Dp w kr bm B { P with b := { data := #[120, 32, 121] } } (.slice sa P.ws.length sn) 203 (y3.setCell ⟨bm, 1, none⟩ (.string ⟨#[120, 32, 121]⟩)) := DB.out.set 1 (.string ⟨#[120, 32, 121]⟩) (by omega) rfl rfl
     exact ⟨_, _, HS.up (by omega), ⟨by show ByteArray.size ({ data := #[120, 32, 121] }) ≤ 20; decide, HF.out.h, HF.out.c, HF.out.l, HF.out.f⟩⟩
   ·
    obtain rfl : z = 2 := by omega
    clear hm z0 z1'
    have hb := build4t (-1) 0 1 1000001
    go_wp2_with fail
    have hbl : Below y2.heap.size y2 (y2.alloc (.cells #[.int .i64 (-1), .int .i64 0, .int .i64 1, .int .i64 1000001] 3)) := bl_alloc (Below.refl _ _) _
    have hkz : kr < y2.heap.size := by have := D4.out.z; have := D4.out.zk; omega
    have DA := D4.out.below hbl
    refine (pickQ kr _ 4 _ DA.r (by omega) (by omega) (by omega)).mono ?_
    rintro e y3 ⟨z, rfl, z0, z1, r9, e9⟩
    have DB : Hid (Dp w kr bm B P (.slice sa P.ws.length sn) 203 y3) := (DA.pick e9 r9).up (by omega)
    have kl : ∀ j, y3.cell? ⟨y2.heap.size, j, none⟩ = (#[.int .i64 (-1), .int .i64 0, .int .i64 1, .int .i64 1000001] : Array Value)[j]? := fun j => (e9.cell (p := ⟨y2.heap.size, j, none⟩) (by simp) (by show y2.heap.size ≠ kr; omega)).trans (by simp [go_sem])
    have k9 : y3.cell? ⟨bm, 2, none⟩ = some (.int .i64 P.se) := DB.out.b 2
    have f9 : y3.frozen? ⟨bm, 2, none⟩ = false := DB.out.c 2
    clear DA r9 e9
    obtain rfl | rfl | rfl | rfl : z = 0 ∨ z = 1 ∨ z = 2 ∨ z = 3 := by omega
    ·
     have k1 : y3.cell? ⟨y2.heap.size, 0, none⟩ = some (.int .i64 (-1)) := kl 0
     clear kl
     go_wp2_with fail
     go_meet
     have HS : Dp w kr bm B { P with se := (-1) } (.slice sa P.ws.length sn) 203 (y3.setCell ⟨bm, 2, none⟩ (.int .i64 (-1))) := DB.out.set 2 (.int .i64 (-1)) (by omega) rfl rfl
     exact ⟨_, _, HS.up (by omega), ⟨HF.out.b, HF.out.h, HF.out.c, HF.out.l, HF.out.f⟩⟩
    ·
     have k1 : y3.cell? ⟨y2.heap.size, 1, none⟩ = some (.int .i64 0) := kl 1
     clear kl
     go_wp2_with fail
     go_meet
     have HS : Dp w kr bm B { P with se := 0 } (.slice sa P.ws.length sn) 203 (y3.setCell ⟨bm, 2, none⟩ (.int .i64 0)) := DB.out.set 2 (.int .i64 0) (by omega) rfl rfl
     exact ⟨_, _, HS.up (by omega), ⟨HF.out.b, HF.out.h, HF.out.c, HF.out.l, HF.out.f⟩⟩
    ·
     have k1 : y3.cell? ⟨y2.heap.size, 2, none⟩ = some (.int .i64 1) := kl 2
     clear kl
     go_wp2_with fail
     go_meet
     have HS : Dp w kr bm B { P with se := 1 } (.slice sa P.ws.length sn) 203 (y3.setCell ⟨bm, 2, none⟩ (.int .i64 1)) := DB.out.set 2 (.int .i64 1) (by omega) rfl rfl
     exact ⟨_, _, HS.up (by omega), ⟨HF.out.b, HF.out.h, HF.out.c, HF.out.l, HF.out.f⟩⟩
    ·
     have k1 : y3.cell? ⟨y2.heap.size, 3, none⟩ = some (.int .i64 1000001) := kl 3
     clear kl
     go_wp2_with fail
     go_meet
     have HS : Dp w kr bm B { P with se := 1000001 } (.slice sa P.ws.length sn) 203 (y3.setCell ⟨bm, 2, none⟩ (.int .i64 1000001)) := DB.out.set 2 (.int .i64 1000001) (by omega) rfl rfl
     exact ⟨_, _, HS.up (by omega), ⟨HF.out.b, HF.out.h, HF.out.c, HF.out.l, HF.out.f⟩⟩
   ·
    obtain rfl : z = 3 := by omega
    clear hm z0 z1'
    have hb := build3s { data := #[] } { data := #[42] } { data := #[120, 32, 121] }
    go_wp2_with fail
    have hbl : Below y2.heap.size y2 (y2.alloc (.cells #[.string ⟨#[]⟩, .string ⟨#[42]⟩, .string ⟨#[120, 32, 121]⟩] 9)) := bl_alloc (Below.refl _ _) _
    have hkz : kr < y2.heap.size := by have := D4.out.z; have := D4.out.zk; omega
    have DA := D4.out.below hbl
    refine (pickQ kr _ 3 _ DA.r (by omega) (by omega) (by omega)).mono ?_
    rintro e y3 ⟨z, rfl, z0, z1, r9, e9⟩
    have DB : Hid (Dp w kr bm B P (.slice sa P.ws.length sn) 203 y3) := (DA.pick e9 r9).up (by omega)
    have kl : ∀ j, y3.cell? ⟨y2.heap.size, j, none⟩ = (#[.string ⟨#[]⟩, .string ⟨#[42]⟩, .string ⟨#[120, 32, 121]⟩] : Array Value)[j]? := fun j => (e9.cell (p := ⟨y2.heap.size, j, none⟩) (by simp) (by show y2.heap.size ≠ kr; omega)).trans (by simp [go_sem])
    have k9 : y3.cell? ⟨bm, 4, none⟩ = some (.string P.h) := DB.out.b 4
    have f9 : y3.frozen? ⟨bm, 4, none⟩ = false := DB.out.c 4
    clear DA r9 e9
    obtain rfl | rfl | rfl : z = 0 ∨ z = 1 ∨ z = 2 := by omega
    ·
     have k1 : y3.cell? ⟨y2.heap.size, 0, none⟩ = some (.string ⟨#[]⟩) := kl 0
     clear kl
     go_wp2_with fail
     go_meet
     have HS : Dp w kr bm B { P with h := { data := #[] } } (.slice sa P.ws.length sn) 203 (y3.setCell ⟨bm, 4, none⟩ (.string ⟨#[]⟩)) := DB.out.set 4 (.string ⟨#[]⟩) (by omega) rfl rfl
     exact ⟨_, _, HS.up (by omega), ⟨HF.out.b, by show ByteArray.size ({ data := #[] }) ≤ 20; decide, HF.out.c, HF.out.l, HF.out.f⟩⟩
    ·
     have k1 : y3.cell? ⟨y2.heap.size, 1, none⟩ = some (.string ⟨#[42]⟩) := kl 1
     clear kl
     go_wp2_with fail
     go_meet
     have HS : Dp w kr bm B { P with h := { data := #[42] } } (.slice sa P.ws.length sn) 203 (y3.setCell ⟨bm, 4, none⟩ (.string ⟨#[42]⟩)) := DB.out.set 4 (.string ⟨#[42]⟩) (by omega) rfl rfl
     exact ⟨_, _, HS.up (by omega), ⟨HF.out.b, by show ByteArray.size ({ data := #[42] }) ≤ 20; decide, HF.out.c, HF.out.l, HF.out.f⟩⟩
    ·
     have k1 : y3.cell? ⟨y2.heap.size, 2, none⟩ = some (.string ⟨#[120, 32, 121]⟩) := kl 2
     clear kl
     go_wp2_with fail
     go_meet
     have HS : Dp w kr bm B { P with h := { data := #[120, 32, 121] } } (.slice sa P.ws.length sn) 203 (y3.setCell ⟨bm, 4, none⟩ (.string ⟨#[120, 32, 121]⟩)) := DB.out.set 4 (.string ⟨#[120, 32, 121]⟩) (by omega) rfl rfl
     exact ⟨_, _, HS.up (by omega), ⟨HF.out.b, by show ByteArray.size ({ data := #[120, 32, 121] }) ≤ 20; decide, HF.out.c, HF.out.l, HF.out.f⟩⟩
   ·
    obtain rfl : z = 4 := by omega
    clear hm z0 z1'
    have hb := build3s { data := #[] } { data := #[99] } { data := #[120, 32, 121] }
    go_wp2_with fail
    have hbl : Below y2.heap.size y2 (y2.alloc (.cells #[.string ⟨#[]⟩, .string ⟨#[99]⟩, .string ⟨#[120, 32, 121]⟩] 9)) := bl_alloc (Below.refl _ _) _
    have hkz : kr < y2.heap.size := by have := D4.out.z; have := D4.out.zk; omega
    have DA := D4.out.below hbl
    refine (pickQ kr _ 3 _ DA.r (by omega) (by omega) (by omega)).mono ?_
    rintro e y3 ⟨z, rfl, z0, z1, r9, e9⟩
    have DB : Hid (Dp w kr bm B P (.slice sa P.ws.length sn) 203 y3) := (DA.pick e9 r9).up (by omega)
    have kl : ∀ j, y3.cell? ⟨y2.heap.size, j, none⟩ = (#[.string ⟨#[]⟩, .string ⟨#[99]⟩, .string ⟨#[120, 32, 121]⟩] : Array Value)[j]? := fun j => (e9.cell (p := ⟨y2.heap.size, j, none⟩) (by simp) (by show y2.heap.size ≠ kr; omega)).trans (by simp [go_sem])
    have k9 : y3.cell? ⟨bm, 5, none⟩ = some (.string P.c) := DB.out.b 5
    have f9 : y3.frozen? ⟨bm, 5, none⟩ = false := DB.out.c 5
    clear DA r9 e9
    obtain rfl | rfl | rfl : z = 0 ∨ z = 1 ∨ z = 2 := by omega
    ·
     have k1 : y3.cell? ⟨y2.heap.size, 0, none⟩ = some (.string ⟨#[]⟩) := kl 0
     clear kl
     go_wp2_with fail
     go_meet
     have HS : Dp w kr bm B { P with c := { data := #[] } } (.slice sa P.ws.length sn) 203 (y3.setCell ⟨bm, 5, none⟩ (.string ⟨#[]⟩)) := DB.out.set 5 (.string ⟨#[]⟩) (by omega) rfl rfl
     exact ⟨_, _, HS.up (by omega), ⟨HF.out.b, HF.out.h, by show ByteArray.size ({ data := #[] }) ≤ 20; decide, HF.out.l, HF.out.f⟩⟩
    ·
     have k1 : y3.cell? ⟨y2.heap.size, 1, none⟩ = some (.string ⟨#[99]⟩) := kl 1
     clear kl
     go_wp2_with fail
     go_meet
     have HS : Dp w kr bm B { P with c := { data := #[99] } } (.slice sa P.ws.length sn) 203 (y3.setCell ⟨bm, 5, none⟩ (.string ⟨#[99]⟩)) := DB.out.set 5 (.string ⟨#[99]⟩) (by omega) rfl rfl
     exact ⟨_, _, HS.up (by omega), ⟨HF.out.b, HF.out.h, by show ByteArray.size ({ data := #[99] }) ≤ 20; decide, HF.out.l, HF.out.f⟩⟩
    ·
     have k1 : y3.cell? ⟨y2.heap.size, 2, none⟩ = some (.string ⟨#[120, 32, 121]⟩) := kl 2
     clear kl
     go_wp2_with fail
     go_meet
     have HS : Dp w kr bm B { P with c := { data := #[120, 32, 121] } } (.slice sa P.ws.length sn) 203 (y3.setCell ⟨bm, 5, none⟩ (.string ⟨#[120, 32, 121]⟩)) := DB.out.set 5 (.string ⟨#[120, 32, 121]⟩) (by omega) rfl rfl
     exact ⟨_, _, HS.up (by omega), ⟨HF.out.b, HF.out.h, by show ByteArray.size ({ data := #[120, 32, 121] }) ≤ 20; decide, HF.out.l, HF.out.f⟩⟩
   ·
    obtain rfl : z = 5 := by omega
    clear hm z0 z1'
    have hb := build3i (-1) 1 1000001
    go_wp2_with fail
    have hbl : Below y2.heap.size y2 (y2.alloc (.cells #[.int .i64 (-1), .int .i64 1, .int .i64 1000001] 3)) := bl_alloc (Below.refl _ _) _
    have hkz : kr < y2.heap.size := by have := D4.out.z; have := D4.out.zk; omega
    have DA := D4.out.below hbl
    refine (pickQ kr _ 3 _ DA.r (by omega) (by omega) (by omega)).mono ?_
    rintro e y3 ⟨z, rfl, z0, z1, r9, e9⟩
    have DB : Hid (Dp w kr bm B P (.slice sa P.ws.length sn) 203 y3) := (DA.pick e9 r9).up (by omega)
    have kl : ∀ j, y3.cell? ⟨y2.heap.size, j, none⟩ = (#[.int .i64 (-1), .int .i64 1, .int .i64 1000001] : Array Value)[j]? := fun j => (e9.cell (p := ⟨y2.heap.size, j, none⟩) (by simp) (by show y2.heap.size ≠ kr; omega)).trans (by simp [go_sem])
    have k9 : y3.cell? ⟨bm, 6, none⟩ = some (.int .i64 P.t) := DB.out.b 6
    have f9 : y3.frozen? ⟨bm, 6, none⟩ = false := DB.out.c 6
    clear DA r9 e9
    obtain rfl | rfl | rfl : z = 0 ∨ z = 1 ∨ z = 2 := by omega
    ·
     have k1 : y3.cell? ⟨y2.heap.size, 0, none⟩ = some (.int .i64 (-1)) := kl 0
     clear kl
     go_wp2_with fail
     go_meet
     have HS : Dp w kr bm B { P with t := (-1) } (.slice sa P.ws.length sn) 203 (y3.setCell ⟨bm, 6, none⟩ (.int .i64 (-1))) := DB.out.set 6 (.int .i64 (-1)) (by omega) rfl rfl
     exact ⟨_, _, HS.up (by omega), ⟨HF.out.b, HF.out.h, HF.out.c, HF.out.l, HF.out.f⟩⟩
    ·
     have k1 : y3.cell? ⟨y2.heap.size, 1, none⟩ = some (.int .i64 1) := kl 1
     clear kl
     go_wp2_with fail
     go_meet
     have HS : Dp w kr bm B { P with t := 1 } (.slice sa P.ws.length sn) 203 (y3.setCell ⟨bm, 6, none⟩ (.int .i64 1)) := DB.out.set 6 (.int .i64 1) (by omega) rfl rfl
     exact ⟨_, _, HS.up (by omega), ⟨HF.out.b, HF.out.h, HF.out.c, HF.out.l, HF.out.f⟩⟩
    ·
     have k1 : y3.cell? ⟨y2.heap.size, 2, none⟩ = some (.int .i64 1000001) := kl 2
     clear kl
     go_wp2_with fail
     go_meet
     have HS : Dp w kr bm B { P with t := 1000001 } (.slice sa P.ws.length sn) 203 (y3.setCell ⟨bm, 6, none⟩ (.int .i64 1000001)) := DB.out.set 6 (.int .i64 1000001) (by omega) rfl rfl
     exact ⟨_, _, HS.up (by omega), ⟨HF.out.b, HF.out.h, HF.out.c, HF.out.l, HF.out.f⟩⟩
   ·
    obtain rfl : z = 6 := by omega
    clear hm z0 z1'
    go_wp2_with fail
    refine wp_region_any (by kernel_rfl) ?_
    refine reg_inv 15 16 14 (Gp kr bm B (.slice sa P.ws.length sn) (fun p y => Dp w kr bm B P (.slice sa P.ws.length sn) p y) 9000 P.ws) (fun p y => Dp w kr bm B P (.slice sa P.ws.length sn) p y) (fun y => ∃ P' s', Dp w kr bm B P' s' 10000 y ∧ Pq P') 202 (by decide) rfl (lb rfl) (D4.out.below (bl_drew (Below.refl _ _))) ?done ?step
    case done =>
     intro l y hl hE
     obtain ⟨v0, l0, rfl, hl0⟩ := len_succ hl
     obtain ⟨v1, l1, rfl, hl1⟩ := len_succ hl0
     obtain ⟨v2, l2, rfl, hl2⟩ := len_succ hl1
     obtain ⟨v3, l3, rfl, hl3⟩ := len_succ hl2
     obtain ⟨v4, l4, rfl, hl4⟩ := len_succ hl3
     obtain ⟨v5, l5, rfl, hl5⟩ := len_succ hl4
     obtain ⟨v6, l6, rfl, hl6⟩ := len_succ hl5
     obtain ⟨v7, l7, rfl, hl7⟩ := len_succ hl6
     obtain ⟨v8, l8, rfl, hl8⟩ := len_succ hl7
     obtain ⟨v9, l9, rfl, hl9⟩ := len_succ hl8
     obtain ⟨v10, l10, rfl, hl10⟩ := len_succ hl9
     obtain ⟨v11, l11, rfl, hl11⟩ := len_succ hl10
     obtain ⟨v12, l12, rfl, hl12⟩ := len_succ hl11
     obtain ⟨v13, l13, rfl, hl13⟩ := len_succ hl12
     obtain ⟨v14, l14, rfl, hl14⟩ := len_succ hl13
     obtain ⟨v15, l15, rfl, hl15⟩ := len_succ hl14
     obtain rfl := len_zero hl15
     simp only [List.take_succ_cons, List.take_zero, List.drop_succ_cons, List.drop_zero, List.cons_append, List.nil_append, Nat.reduceAdd]
     go_wp2_with fail
     go_meet
     exact hE
    case step =>
     intro listed x y i hI hi hlt
     have ho := ready_open hi
     obtain rfl | rfl | rfl | rfl | rfl | rfl | rfl | rfl | rfl | rfl | rfl | rfl | rfl | rfl | rfl | rfl | rfl : i = 0 ∨ i = 1 ∨ i = 2 ∨ i = 3 ∨ i = 4 ∨ i = 5 ∨ i = 6 ∨ i = 7 ∨ i = 8 ∨ i = 9 ∨ i = 10 ∨ i = 11 ∨ i = 12 ∨ i = 13 ∨ i = 14 ∨ i = 15 ∨ i = 16 := by omega
     ·
      have hA : listed.getD 14 false = false := not_true (fun h => open_not ho (hI.tr 1 0 (by rfl) (hI.tr 14 1 (by rfl) h)))
      have hn : listed.getD 16 false = false := not_true (fun h => by rw [hI.tr 16 14 (by rfl) h] at hA; cases hA)
      obtain ⟨pc, hD, hpc⟩ := hI.v.1 hA
      have HI : Hid (_ ∈ Region.ready _ _ _) := hi
      clear hi
      refine wpOp_plain rfl rfl (wp_hide fun K hK => ?_)
      have e5 : x.tmps[4]?.getD undef = .pointer (some ⟨bm, 0, none⟩) := ev_tmp (hI.out 4 (Or.inl (by omega)))
      have HJ : Hid (Ir _ _ _ _ _ _ _ _ _ _ _) := hI
      have HO : Hid _ := ho
      clear hI ho
      go_simp
      have ho := HO.out
      exact hK.out _ _ (HJ.out.put HI.out (by omega) (lb rfl) (rfl) (fun j u _ _ _ _ h => h) (HJ.out.v.same ho (by omega) (by omega)))
     ·
      have hA : listed.getD 14 false = false := not_true (fun h => open_not ho (hI.tr 14 1 (by rfl) h))
      have hn : listed.getD 16 false = false := not_true (fun h => by rw [hI.tr 16 14 (by rfl) h] at hA; cases hA)
      obtain ⟨pc, hD, hpc⟩ := hI.v.1 hA
      have d0 := dep_of hi (j := 0) (by rfl)
      have HI : Hid (_ ∈ Region.ready _ _ _) := hi
      clear hi
      refine wpOp_plain rfl rfl (wp_hide fun K hK => ?_)
      have e1 : x.tmps[15]?.getD undef = .pointer (some ⟨bm, 3, none⟩) := ev_tmp (hI.good 0 (by omega) d0 (Or.inl hA))
      have k1 : y.cell? ⟨bm, 3, none⟩ = some (.slice sa P.ws.length sn) := hD.b 3
      have HJ : Hid (Ir _ _ _ _ _ _ _ _ _ _ _) := hI
      have HO : Hid _ := ho
      clear hI ho
      go_simp
      have ho := HO.out
      exact hK.out _ _ (HJ.out.put HI.out (by omega) (lb rfl) (rfl) (fun j u _ _ _ _ h => h) (HJ.out.v.same ho (by omega) (by omega)))
     ·
      have hA : listed.getD 14 false = false := not_true (fun h => open_not ho (hI.tr 5 2 (by rfl) (hI.tr 6 5 (by rfl) (hI.tr 12 6 (by rfl) (hI.tr 13 12 (by rfl) (hI.tr 14 13 (by rfl) h))))))
      have hn : listed.getD 16 false = false := not_true (fun h => by rw [hI.tr 16 14 (by rfl) h] at hA; cases hA)
      obtain ⟨pc, hD, hpc⟩ := hI.v.1 hA
      have HI : Hid (_ ∈ Region.ready _ _ _) := hi
      clear hi
      refine wpOp_plain rfl rfl (wp_hide fun K hK => ?_)
      have hb := bld2t { data := #[122, 122] } { data := #[] }
      have HJ : Hid (Ir _ _ _ _ _ _ _ _ _ _ _) := hI
      have HO : Hid _ := ho
      clear hI ho
      go_simp
      have ho := HO.out
      have hbl : Below y.heap.size y (y.alloc (.cells (arr2t { data := #[122, 122] } { data := #[] }) 9)) := bl_alloc (Below.refl _ _) _
      have hg9 : Lst Txt B bm 2 (y.alloc (.cells (arr2t { data := #[122, 122] } { data := #[] }) 9)) (.slice (some ⟨y.heap.size, 0, none⟩) 2 2) := lst_txt (cs := [.string ⟨#[122, 122]⟩, .string ⟨#[]⟩]) (by have := hD.z; omega) hD.z (fun v hv => by simp only [List.mem_cons, List.not_mem_nil, or_false] at hv; rcases hv with rfl | rfl <;> exact ⟨_, rfl, by decide⟩)
      exact hK.out _ _ (HJ.out.put HI.out (by omega) (lb rfl) (hg9) (fun j u hj hne hl hc h => Gp.keep (Ex.of_below hbl) hk0 j u (fun e' => by subst e'; rw [hA] at hl; cases hl) h) (Vr.turn ho hn (by omega) (hD.below hbl) (by omega)))
     ·
      have hA : listed.getD 14 false = false := not_true (fun h => open_not ho (hI.tr 4 3 (by rfl) (hI.tr 5 4 (by rfl) (hI.tr 6 5 (by rfl) (hI.tr 12 6 (by rfl) (hI.tr 13 12 (by rfl) (hI.tr 14 13 (by rfl) h)))))))
      have hn : listed.getD 16 false = false := not_true (fun h => by rw [hI.tr 16 14 (by rfl) h] at hA; cases hA)
      obtain ⟨pc, hD, hpc⟩ := hI.v.1 hA
      have HI : Hid (_ ∈ Region.ready _ _ _) := hi
      clear hi
      refine wpOp_plain rfl rfl (wp_hide fun K hK => ?_)
      have e5 : x.tmps[3]?.getD undef = .pointer (some ⟨kr, 0, none⟩) := ev_tmp (hI.out 3 (Or.inl (by omega)))
      have HJ : Hid (Ir _ _ _ _ _ _ _ _ _ _ _) := hI
      have HO : Hid _ := ho
      clear hI ho
      go_simp
      have ho := HO.out
      exact hK.out _ _ (HJ.out.put HI.out (by omega) (lb rfl) (rfl) (fun j u _ _ _ _ h => h) (HJ.out.v.same ho (by omega) (by omega)))
     ·
      have hA : listed.getD 14 false = false := not_true (fun h => open_not ho (hI.tr 5 4 (by rfl) (hI.tr 6 5 (by rfl) (hI.tr 12 6 (by rfl) (hI.tr 13 12 (by rfl) (hI.tr 14 13 (by rfl) h))))))
      have hn : listed.getD 16 false = false := not_true (fun h => by rw [hI.tr 16 14 (by rfl) h] at hA; cases hA)
      obtain ⟨pc, hD, hpc⟩ := hI.v.1 hA
      have d3 := dep_of hi (j := 3) (by rfl)
      have HI : Hid (_ ∈ Region.ready _ _ _) := hi
      clear hi
      refine wpOp_plain rfl rfl (wp_hide fun K hK => ?_)
      have e1 : x.tmps[18]?.getD undef = .pointer (some ⟨kr, 0, none⟩) := ev_tmp (hI.good 3 (by omega) d3 (Or.inl hA))
      have HJ : Hid (Ir _ _ _ _ _ _ _ _ _ _ _) := hI
      have HO : Hid _ := ho
      clear hI ho
      go_simp
      have ho := HO.out
      refine (pickQ kr pc 2 y hD.r (by omega) (by omega) (by omega)).mono ?_
      rintro e y' ⟨z, rfl, z0, z1, r9, e9⟩
      exact hK.out _ _ (HJ.out.put HI.out (by omega) (lb rfl) (⟨z, rfl, z0, by omega⟩) (fun j u hj hne hl hc h => Gp.keep e9 hk0 j u (fun e' => by subst e'; rw [hA] at hl; cases hl) h) (Vr.turn ho hn (by omega) (hD.pick e9 r9) (by omega)))
     ·
      have hA : listed.getD 14 false = false := not_true (fun h => open_not ho (hI.tr 6 5 (by rfl) (hI.tr 12 6 (by rfl) (hI.tr 13 12 (by rfl) (hI.tr 14 13 (by rfl) h)))))
      have hn : listed.getD 16 false = false := not_true (fun h => by rw [hI.tr 16 14 (by rfl) h] at hA; cases hA)
      obtain ⟨pc, hD, hpc⟩ := hI.v.1 hA
      have d2 := dep_of hi (j := 2) (by rfl)
      have d4 := dep_of hi (j := 4) (by rfl)
      have HI : Hid (_ ∈ Region.ready _ _ _) := hi
      clear hi
      refine wpOp_plain rfl rfl (wp_hide fun K hK => ?_)
      obtain ⟨g, hg, g0, g1, g2, gc⟩ := hI.good 2 (by omega) d2 (Or.inl hA)
      obtain ⟨z, hm, m0, m1⟩ := hI.good 4 (by omega) d4 (Or.inl hA)
      have e1 : x.tmps[17]?.getD undef = _ := ev_tmp hg
      have e2 : x.tmps[19]?.getD undef = _ := ev_tmp hm
      obtain ⟨j, rfl⟩ := Int.eq_ofNat_of_zero_le m0
      obtain ⟨u, hu, hP⟩ := gc j (by omega)
      have j0 : (j : Int) < 2 := by omega
      clear gc hm hg
      have HJ : Hid (Ir _ _ _ _ _ _ _ _ _ _ _) := hI
      have HO : Hid _ := ho
      clear hI ho
      go_simp
      have ho := HO.out
      exact hK.out _ _ (HJ.out.put HI.out (by omega) (lb rfl) (⟨g, j, u, rfl, g0, g1, g2, hu, hP⟩) (fun j u _ _ _ _ h => h) (HJ.out.v.same ho (by omega) (by omega)))
     ·
      have hA : listed.getD 14 false = false := not_true (fun h => open_not ho (hI.tr 12 6 (by rfl) (hI.tr 13 12 (by rfl) (hI.tr 14 13 (by rfl) h))))
      have hn : listed.getD 16 false = false := not_true (fun h => by rw [hI.tr 16 14 (by rfl) h] at hA; cases hA)
      obtain ⟨pc, hD, hpc⟩ := hI.v.1 hA
      have d5 := dep_of hi (j := 5) (by rfl)
      have HI : Hid (_ ∈ Region.ready _ _ _) := hi
      clear hi
      refine wpOp_plain rfl rfl (wp_hide fun K hK => ?_)
      obtain ⟨g, j, u, hv, g0, g1, g2, hu, hP⟩ := hI.good 5 (by omega) d5 (Or.inl hA)
      have e1 : x.tmps[20]?.getD undef = _ := ev_tmp hv
      obtain ⟨s, rfl, hs⟩ := hP
      clear hv
      have HJ : Hid (Ir _ _ _ _ _ _ _ _ _ _ _) := hI
      have HO : Hid _ := ho
      clear hI ho
      go_simp
      have ho := HO.out
      exact hK.out _ _ (HJ.out.put HI.out (by omega) (lb rfl) (⟨s, rfl, hs⟩) (fun j u _ _ _ _ h => h) (HJ.out.v.same ho (by omega) (by omega)))
     ·
      have hA : listed.getD 14 false = false := not_true (fun h => open_not ho (hI.tr 10 7 (by rfl) (hI.tr 11 10 (by rfl) (hI.tr 12 11 (by rfl) (hI.tr 13 12 (by rfl) (hI.tr 14 13 (by rfl) h))))))
      have hn : listed.getD 16 false = false := not_true (fun h => by rw [hI.tr 16 14 (by rfl) h] at hA; cases hA)
      obtain ⟨pc, hD, hpc⟩ := hI.v.1 hA
      have HI : Hid (_ ∈ Region.ready _ _ _) := hi
      clear hi
      refine wpOp_plain rfl rfl (wp_hide fun K hK => ?_)
      have hb := bld2t { data := #[42] } { data := #[104] }
      have HJ : Hid (Ir _ _ _ _ _ _ _ _ _ _ _) := hI
      have HO : Hid _ := ho
      clear hI ho
      go_simp
      have ho := HO.out
      have hbl : Below y.heap.size y (y.alloc (.cells (arr2t { data := #[42] } { data := #[104] }) 9)) := bl_alloc (Below.refl _ _) _
      have hg9 : Lst Txt B bm 2 (y.alloc (.cells (arr2t { data := #[42] } { data := #[104] }) 9)) (.slice (some ⟨y.heap.size, 0, none⟩) 2 2) := lst_txt (cs := [.string ⟨#[42]⟩, .string ⟨#[104]⟩]) (by have := hD.z; omega) hD.z (fun v hv => by simp only [List.mem_cons, List.not_mem_nil, or_false] at hv; rcases hv with rfl | rfl <;> exact ⟨_, rfl, by decide⟩)
      exact hK.out _ _ (HJ.out.put HI.out (by omega) (lb rfl) (hg9) (fun j u hj hne hl hc h => Gp.keep (Ex.of_below hbl) hk0 j u (fun e' => by subst e'; rw [hA] at hl; cases hl) h) (Vr.turn ho hn (by omega) (hD.below hbl) (by omega)))
     ·
      have hA : listed.getD 14 false = false := not_true (fun h => open_not ho (hI.tr 9 8 (by rfl) (hI.tr 10 9 (by rfl) (hI.tr 11 10 (by rfl) (hI.tr 12 11 (by rfl) (hI.tr 13 12 (by rfl) (hI.tr 14 13 (by rfl) h)))))))
      have hn : listed.getD 16 false = false := not_true (fun h => by rw [hI.tr 16 14 (by rfl) h] at hA; cases hA)
      obtain ⟨pc, hD, hpc⟩ := hI.v.1 hA
      have HI : Hid (_ ∈ Region.ready _ _ _) := hi
      clear hi
      refine wpOp_plain rfl rfl (wp_hide fun K hK => ?_)
      have e5 : x.tmps[3]?.getD undef = .pointer (some ⟨kr, 0, none⟩) := ev_tmp (hI.out 3 (Or.inl (by omega)))
      have HJ : Hid (Ir _ _ _ _ _ _ _ _ _ _ _) := hI
      have HO : Hid _ := ho
      clear hI ho
      go_simp
      have ho := HO.out
      exact hK.out _ _ (HJ.out.put HI.out (by omega) (lb rfl) (rfl) (fun j u _ _ _ _ h => h) (HJ.out.v.same ho (by omega) (by omega)))
     ·
      have hA : listed.getD 14 false = false := not_true (fun h => open_not ho (hI.tr 10 9 (by rfl) (hI.tr 11 10 (by rfl) (hI.tr 12 11 (by rfl) (hI.tr 13 12 (by rfl) (hI.tr 14 13 (by rfl) h))))))
      have hn : listed.getD 16 false = false := not_true (fun h => by rw [hI.tr 16 14 (by rfl) h] at hA; cases hA)
      obtain ⟨pc, hD, hpc⟩ := hI.v.1 hA
      have d8 := dep_of hi (j := 8) (by rfl)
      have HI : Hid (_ ∈ Region.ready _ _ _) := hi
      clear hi
      refine wpOp_plain rfl rfl (wp_hide fun K hK => ?_)
      have e1 : x.tmps[23]?.getD undef = .pointer (some ⟨kr, 0, none⟩) := ev_tmp (hI.good 8 (by omega) d8 (Or.inl hA))
      have HJ : Hid (Ir _ _ _ _ _ _ _ _ _ _ _) := hI
      have HO : Hid _ := ho
      clear hI ho
      go_simp
      have ho := HO.out
      refine (pickQ kr pc 2 y hD.r (by omega) (by omega) (by omega)).mono ?_
      rintro e y' ⟨z, rfl, z0, z1, r9, e9⟩
      exact hK.out _ _ (HJ.out.put HI.out (by omega) (lb rfl) (⟨z, rfl, z0, by omega⟩) (fun j u hj hne hl hc h => Gp.keep e9 hk0 j u (fun e' => by subst e'; rw [hA] at hl; cases hl) h) (Vr.turn ho hn (by omega) (hD.pick e9 r9) (by omega)))
     ·
      have hA : listed.getD 14 false = false := not_true (fun h => open_not ho (hI.tr 11 10 (by rfl) (hI.tr 12 11 (by rfl) (hI.tr 13 12 (by rfl) (hI.tr 14 13 (by rfl) h)))))
      have hn : listed.getD 16 false = false := not_true (fun h => by rw [hI.tr 16 14 (by rfl) h] at hA; cases hA)
      obtain ⟨pc, hD, hpc⟩ := hI.v.1 hA
      have d7 := dep_of hi (j := 7) (by rfl)
      have d9 := dep_of hi (j := 9) (by rfl)
      have HI : Hid (_ ∈ Region.ready _ _ _) := hi
      clear hi
      refine wpOp_plain rfl rfl (wp_hide fun K hK => ?_)
      obtain ⟨g, hg, g0, g1, g2, gc⟩ := hI.good 7 (by omega) d7 (Or.inl hA)
      obtain ⟨z, hm, m0, m1⟩ := hI.good 9 (by omega) d9 (Or.inl hA)
      have e1 : x.tmps[22]?.getD undef = _ := ev_tmp hg
      have e2 : x.tmps[24]?.getD undef = _ := ev_tmp hm
      obtain ⟨j, rfl⟩ := Int.eq_ofNat_of_zero_le m0
      obtain ⟨u, hu, hP⟩ := gc j (by omega)
      have j0 : (j : Int) < 2 := by omega
      clear gc hm hg
      have HJ : Hid (Ir _ _ _ _ _ _ _ _ _ _ _) := hI
      have HO : Hid _ := ho
      clear hI ho
      go_simp
      have ho := HO.out
      exact hK.out _ _ (HJ.out.put HI.out (by omega) (lb rfl) (⟨g, j, u, rfl, g0, g1, g2, hu, hP⟩) (fun j u _ _ _ _ h => h) (HJ.out.v.same ho (by omega) (by omega)))
     ·
      have hA : listed.getD 14 false = false := not_true (fun h => open_not ho (hI.tr 12 11 (by rfl) (hI.tr 13 12 (by rfl) (hI.tr 14 13 (by rfl) h))))
      have hn : listed.getD 16 false = false := not_true (fun h => by rw [hI.tr 16 14 (by rfl) h] at hA; cases hA)
      obtain ⟨pc, hD, hpc⟩ := hI.v.1 hA
      have d10 := dep_of hi (j := 10) (by rfl)
      have HI : Hid (_ ∈ Region.ready _ _ _) := hi
      clear hi
      refine wpOp_plain rfl rfl (wp_hide fun K hK => ?_)
      obtain ⟨g, j, u, hv, g0, g1, g2, hu, hP⟩ := hI.good 10 (by omega) d10 (Or.inl hA)
      have e1 : x.tmps[25]?.getD undef = _ := ev_tmp hv
      obtain ⟨s, rfl, hs⟩ := hP
      clear hv
      have HJ : Hid (Ir _ _ _ _ _ _ _ _ _ _ _) := hI
      have HO : Hid _ := ho
      clear hI ho
      go_simp
      have ho := HO.out
      exact hK.out _ _ (HJ.out.put HI.out (by omega) (lb rfl) (⟨s, rfl, hs⟩) (fun j u _ _ _ _ h => h) (HJ.out.v.same ho (by omega) (by omega)))
     ·
      have hA : listed.getD 14 false = false := not_true (fun h => open_not ho (hI.tr 13 12 (by rfl) (hI.tr 14 13 (by rfl) h)))
      have hn : listed.getD 16 false = false := not_true (fun h => by rw [hI.tr 16 14 (by rfl) h] at hA; cases hA)
      obtain ⟨pc, hD, hpc⟩ := hI.v.1 hA
      have d6 := dep_of hi (j := 6) (by rfl)
      have d11 := dep_of hi (j := 11) (by rfl)
      have HI : Hid (_ ∈ Region.ready _ _ _) := hi
      clear hi
      refine wpOp_plain rfl rfl (wp_hide fun K hK => ?_)
      obtain ⟨c, h1, hc⟩ := hI.good 6 (by omega) d6 (Or.inl hA)
      obtain ⟨h, h2, hh⟩ := hI.good 11 (by omega) d11 (Or.inl hA)
      have e1 : x.tmps[21]?.getD undef = _ := ev_tmp h1
      have e2 : x.tmps[26]?.getD undef = _ := ev_tmp h2
      clear h1 h2
      have HJ : Hid (Ir _ _ _ _ _ _ _ _ _ _ _) := hI
      have HO : Hid _ := ho
      clear hI ho
      go_simp
      have ho := HO.out
      exact hK.out _ _ (HJ.out.put HI.out (by omega) (lb rfl) (⟨c, h, rfl, hc, hh⟩) (fun j u _ _ _ _ h => h) (HJ.out.v.same ho (by omega) (by omega)))
     ·
      have hA : listed.getD 14 false = false := not_true (fun h => open_not ho (hI.tr 14 13 (by rfl) h))
      have hn : listed.getD 16 false = false := not_true (fun h => by rw [hI.tr 16 14 (by rfl) h] at hA; cases hA)
      obtain ⟨pc, hD, hpc⟩ := hI.v.1 hA
      have d12 := dep_of hi (j := 12) (by rfl)
      have HI : Hid (_ ∈ Region.ready _ _ _) := hi
      clear hi
      refine wpOp_plain rfl rfl (wp_hide fun K hK => ?_)
      obtain ⟨c, h, hv, hc, hh⟩ := hI.good 12 (by omega) d12 (Or.inl hA)
      have e1 : x.tmps[27]?.getD undef = _ := ev_tmp hv
      have hb := bld1v c h
      clear hv
      have HJ : Hid (Ir _ _ _ _ _ _ _ _ _ _ _) := hI
      have HO : Hid _ := ho
      clear hI ho
      go_simp
      have ho := HO.out
      have hbl : Below y.heap.size y (y.alloc (.cells (arrV c h) 46)) := bl_alloc (Below.refl _ _) _
      have hg9 : WntN B (y.alloc (.cells (arrV c h) 46)) (.slice (some ⟨y.heap.size, 0, none⟩) 1 1) := ⟨c, h, y.heap.size, rfl, (by have := hD.z; omega), by simp, heap_new rfl, hc, hh⟩
      exact hK.out _ _ (HJ.out.put HI.out (by omega) (lb rfl) (hg9) (fun j u hj hne hl hc h => Gp.keep (Ex.of_below hbl) hk0 j u (fun e' => by subst e'; rw [hA] at hl; cases hl) h) (Vr.turn ho hn (by omega) (hD.below hbl) (by omega)))
     ·
      have hA : listed.getD 14 false = false := not_true (fun h => open_not ho h)
      have hn : listed.getD 16 false = false := not_true (fun h => by rw [hI.tr 16 14 (by rfl) h] at hA; cases hA)
      obtain ⟨pc, hD, hpc⟩ := hI.v.1 hA
      have d1 := dep_of hi (j := 1) (by rfl)
      have d13 := dep_of hi (j := 13) (by rfl)
      have HI : Hid (_ ∈ Region.ready _ _ _) := hi
      clear hi
      refine wpOp_plain rfl rfl (wp_hide fun K hK => ?_)
      have e1 : x.tmps.getD 16 undef = (.slice sa P.ws.length sn) := hI.good 1 (by omega) d1 (Or.inl hA)
      have hN : WntN B y (x.tmps.getD 28 undef) := hI.good 13 (by omega) d13 (Or.inl hA)
      refine wntApp B (.tmp 16) (.tmp 28) rfl P.ws (.slice sa P.ws.length sn) _ e1 hD.l (by have := hD.z; omega) rfl hN (by have h : P.ws.length ≤ 4 := HL4.out; omega) ?_
      intro s' w' c hh o1 g1 hat c20 h20
      exact hK.out _ _ (hI.put HI.out (by omega) (lb rfl) ⟨y, pc, c, hh, hD, by omega, g1, o1, hat, c20, h20⟩ (fun j u hj hne hl hc h => by
       rcases hc with hc | hc
       ·
        rw [set_same (by rw [hI.lz]; omega)] at hc; cases hc
       ·
        obtain rfl : j = 15 := by omega
        exact h) (Vr.past (set_same (by rw [hI.lz]; omega)) (by rw [set_ne (by omega)]; exact hn)))
     ·
      have hn : listed.getD 16 false = false := not_true (fun h => open_not ho (hI.tr 16 15 (by rfl) h))
      have HI : Hid (_ ∈ Region.ready _ _ _) := hi
      clear hi
      refine wpOp_plain rfl rfl (wp_hide fun K hK => ?_)
      have e5 : x.tmps[4]?.getD undef = .pointer (some ⟨bm, 0, none⟩) := ev_tmp (hI.out 4 (Or.inl (by omega)))
      have HJ : Hid (Ir _ _ _ _ _ _ _ _ _ _ _) := hI
      have HO : Hid _ := ho
      clear hI ho
      go_simp
      have ho := HO.out
      exact hK.out _ _ (HJ.out.put HI.out (by omega) (lb rfl) (rfl) (fun j u _ _ _ _ h => h) (HJ.out.v.same ho (by omega) (by omega)))
     ·
      have hn : listed.getD 16 false = false := not_true (fun h => open_not ho h)
      have d15 := dep_of hi (j := 15) (by rfl)
      have d14 := dep_of hi (j := 14) (by rfl)
      have HI : Hid (_ ∈ Region.ready _ _ _) := hi
      clear hi
      refine wpOp_plain rfl rfl (wp_hide fun K hK => ?_)
      obtain ⟨x0, p0, c, hh, hD, hp, hg, ho1, hat, c20, h20⟩ := hI.good 14 (by omega) d14 (Or.inr ⟨by omega, hn⟩)
      have e1 : x.tmps[30]?.getD undef = .pointer (some ⟨bm, 3, none⟩) := ev_tmp (hI.good 15 (by omega) d15 (Or.inr ⟨by omega, hn⟩))
      obtain ⟨aa, pp, hv⟩ := W.Ow.shape ho1
      generalize hnn : List.length _ = nn at hv
      have e2 : x.tmps[29]?.getD undef = _ := ev_tmp hv
      rw [hv] at ho1 hat
      obtain ⟨kb, kc, -⟩ := dp_rest hD hg (fun k hk => ⟨by have h1 := (hD.l.lt k hk).1; have h2 := hD.zb; omega, fun e => hD.nb (by rw [hk, e])⟩)
      have k1 : y.cell? ⟨bm, 3, none⟩ = some (.slice sa P.ws.length sn) := kb 3
      have k2 : y.frozen? ⟨bm, 3, none⟩ = false := kc 3
      have HE := Dp.app hD hg ho1 hat
      have hA' : (listed.setIfInBounds 16 true).getD 14 false = true := by rw [set_ne (by omega)]; exact d14
      clear kb kc hv hnn
      have HJ : Hid (Ir _ _ _ _ _ _ _ _ _ _ _) := hI
      have HO : Hid _ := ho
      clear hI ho
      go_simp
      have ho := HO.out
      exact hK.out _ _ (HJ.out.last (u := undef) HI.out (Or.inr d14) (Vr.fin hA' ⟨_, _, HE.up (by omega), ⟨HF.out.b, HF.out.h, HF.out.c, (by have := HL4.out; show (P.ws ++ [newW c hh]).length ≤ 5; rw [List.length_append]; show P.ws.length + 1 ≤ 5; omega), fits_snoc HF.out.f ⟨by show c.size ≤ maxLen; unfold maxLen; omega, by show hh.size ≤ maxLen; unfold maxLen; omega⟩⟩⟩))
  case rest =>
   obtain ⟨P', s', d5, f5⟩ := hcut
   obtain ⟨sa', sn', hs'⟩ := W.Ow.shape d5.l
   subst hs'
   have D5 : Hid (Dp w kr bm B P' (.slice sa' P'.ws.length sn') 10000 wc) := d5
   have HF' : Hid (Pq P') := f5
   clear d5 f5 D4 HF
   obtain ⟨c0, c1, c2, c3, c4, c5, c6⟩ : _ ∧ _ ∧ _ ∧ _ ∧ _ ∧ _ ∧ _ := ⟨D5.out.b 0, D5.out.b 1, D5.out.b 2, D5.out.b 3, D5.out.b 4, D5.out.b 5, D5.out.b 6⟩
   go_wp2_with (refine wpList_store_mid (by rfl) 25 _ _ (by rfl) w.heap.size 0 #[.int .i64 P'.k, .string P'.b, .int .i64 P'.se, .slice sa' P'.ws.length sn', .string P'.h, .string P'.c, .int .i64 P'.t] (by rfl) (by rfl) (by exact D5.out.d) hinfo (by simp [Value.oneCell']) ?_)
   obtain ⟨d0, d1, d2, d3, d4, d5, d6⟩ := cells7q (World.rangeAt_setCells_same wc w.heap.size 0 [.int .i64 P'.k, .string P'.b, .int .i64 P'.se, .slice sa' P'.ws.length sn', .string P'.h, .string P'.c, .int .i64 P'.t] (by exact D5.out.d))
   have hx1 : Ex w.heap.size wc (World.setCells wc w.heap.size 0 [.int .i64 P'.k, .string P'.b, .int .i64 P'.se, .slice sa' P'.ws.length sn', .string P'.h, .string P'.c, .int .i64 P'.t]) := (Ex.refl _ _).cells _ _
   exact bodyPost_ret (v := .agg #[.int .i64 P'.k, .string P'.b, .int .i64 P'.se, .slice sa' P'.ws.length sn', .string P'.h, .string P'.c, .int .i64 P'.t]) (by simp [results, Tryz.results4, go_sem, d0, d1, d2, d3, d4, d5, d6]) rfl ⟨P', sa', sn', rfl, (D5.out.l.ex hx1 (by have := D5.out.zw; have := D5.out.zb; omega)).low (by have := D5.out.zw; have := D5.out.zb; omega), HF'.out, Ex.mono D5.out.e hx1 (Nat.le_refl _)⟩
 ·
  have hm3' : 0 < m3 := by omega
  obtain ⟨c0, c1, c2, c3, c4, c5, c6⟩ : _ ∧ _ ∧ _ ∧ _ ∧ _ ∧ _ ∧ _ := ⟨D3.out.b 0, D3.out.b 1, D3.out.b 2, D3.out.b 3, D3.out.b 4, D3.out.b 5, D3.out.b 6⟩
  go_wp2_with (refine wpList_store_mid (by rfl) 25 _ _ (by rfl) w.heap.size 0 #[.int .i64 P.k, .string P.b, .int .i64 P.se, .slice sa P.ws.length sn, .string P.h, .string P.c, .int .i64 P.t] (by rfl) (by rfl) (by exact D3.out.d) hinfo (by simp [Value.oneCell']) ?_)
  obtain ⟨d0, d1, d2, d3, d4, d5, d6⟩ := cells7q (World.rangeAt_setCells_same y1 w.heap.size 0 [.int .i64 P.k, .string P.b, .int .i64 P.se, .slice sa P.ws.length sn, .string P.h, .string P.c, .int .i64 P.t] (by exact D3.out.d))
  have hx1 : Ex w.heap.size y1 (World.setCells y1 w.heap.size 0 [.int .i64 P.k, .string P.b, .int .i64 P.se, .slice sa P.ws.length sn, .string P.h, .string P.c, .int .i64 P.t]) := (Ex.refl _ _).cells _ _
  exact bodyPost_ret (v := .agg #[.int .i64 P.k, .string P.b, .int .i64 P.se, .slice sa P.ws.length sn, .string P.h, .string P.c, .int .i64 P.t]) (by simp [results, Tryz.results4, go_sem, d0, d1, d2, d3, d4, d5, d6]) rfl ⟨P, sa, sn, rfl, (D3.out.l.ex hx1 (by have := D3.out.zw; have := D3.out.zb; omega)).low (by have := D3.out.zw; have := D3.out.zb; omega), HF.out, Ex.mono D3.out.e hx1 (Nat.le_refl _)⟩
end Go.Proofs.YtgakmkhbnjofhaaGreatDoor
