import Derived.Test.YtefiiobdlfdbjaaGreatDoorJ22
import Derived.Test.YtefiiobdlfdbjaaGreatDoorJ25
import Derived.Test.YtefiiobdlfdbjaaGreatDoorJ26
import Derived.Test.YtefiiobdlfdbjaaGreatDoorJ19
import Derived.Deep.RegionHeld3
import Derived.Laws.Pointers
import Derived.StillTactics
/- FnExactMatePut: the law's walk, given what the specification answers. -/
namespace Go.Proofs.YtefiiobdlfdbjaaGreatDoor
open Go.RowKit
set_option linter.unusedVariables false

/-- A box of the call's own. -/
structure Bo (y : World) (b : Nat) (O : Array Value) : Prop where
  c : ∀ k, y.cell? ⟨b, k, none⟩ = O[k]?
  l : b < y.heap.size
theorem Bo.keep {y z : World} {b : Nat} {O : Array Value} (h : Bo y b O) (hb : Below y.heap.size y z) : Bo z b O :=
  ⟨fun k => (hb.cell (p := ⟨b, k, none⟩) h.l).trans (h.c k), Nat.lt_of_lt_of_le h.l hb.size⟩
theorem Bo.off {X : Nat → Prop} {y z : World} {b : Nat} {O : Array Value} (h : Bo y b O) (ho : Off X y z) (hn : ¬ X b) : Bo z b O :=
  ⟨fun k => (ho.cell (p := ⟨b, k, none⟩) h.l hn).trans (h.c k), Nat.lt_of_lt_of_le h.l ho.size⟩
theorem Bo.new (y : World) (O : Array Value) (t : TypeId) : Bo (y.alloc (.cells O t)) y.heap.size O :=
  ⟨fun k => by simp [go_sem], by simp⟩
theorem bl_off2 {X : Nat → Prop} {w y z : World} (h : Below w.heap.size w y) (ho : Off X y z) (hP : ∀ j, X j → w.heap.size ≤ j) : Below w.heap.size w z := h.trans (ho.below hP h.size)
theorem lns_like {qs ps : List P.PlaceD} (h : P.Like qs ps) (hl : P.Lns ps) : ∀ q ∈ qs, q.ws.length ≤ 1048576 := by
  intro q hq
  obtain ⟨k, hk⟩ := List.getElem?_of_mem hq
  obtain ⟨p, hp, -, -, e⟩ := h.get hk
  rw [e]
  exact hl p (List.mem_of_getElem? hp)
/-- What a put answers is small. -/
structure SmallP (gs : List G.GrantD) (qs : List P.PlaceD) : Prop where
  a : gs.length ≤ 1048576
  b : qs.length ≤ 1048576
  c : ∀ q ∈ qs, q.ws.length ≤ 1048576
  f : gs.length ≤ 40 ∧ qs.length ≤ 4
theorem smallP_like {t : Int} {gs : List G.GrantD} {ps qs : List P.PlaceD} (y : P.LandSay t gs ps) (k : P.Like qs ps) : SmallP gs qs := by
  have h1 : gs.length ≤ 40 := y.2.1.1
  have h2 : qs.length ≤ 4 := by rw [k.len]; exact y.2.2.1.1
  refine ⟨by omega, by omega, fun q hq => ?_, h1, h2⟩
  obtain ⟨i, hi⟩ := List.getElem?_of_mem hq
  obtain ⟨p, hp, -, -, e⟩ := k.get hi
  have := (y.2.2.1.2.2 p (List.mem_of_getElem? hp)).2.2.1
  rw [e]
  omega
theorem PutSay.small {t : Int} {gs : List G.GrantD} {ps : List P.PlaceD} {b : ByteArray} {ws : List W.WantD} {t' : Int} {gs' : List G.GrantD} {qs : List P.PlaceD} {code : Int} (h : PutSay t gs ps b ws t' gs' qs code) : SmallP gs' qs := by
  rcases h with ⟨-, -, rfl, rfl, -⟩ | ⟨y, -, rfl, ⟨-, k, -⟩ | ⟨-, -, k, -⟩ | ⟨-, l, k, -⟩⟩
  · exact ⟨by simp, by simp, (fun q hq => by cases hq), by simp, by simp⟩
  · exact smallP_like y k
  · exact smallP_like y k
  · exact smallP_like l k
theorem SmallP.ends {gs : List G.GrantD} {qs : List P.PlaceD} (h : SmallP gs qs) : 0 ≤ endP (endG 1 gs) qs := by
  have h1 := endG_le 1 gs
  have h2 := endP_le (endG 1 gs) qs h.c
  omega
/-- What the specification's put answers. -/
def SpecPutSay : Prop := ∀ (t : Int) (gs : List G.GrantD) (ps : List P.PlaceD) (b1 b2 : Nat) (b : ByteArray) (aw : Option Addr) (cw : Nat) (ws : List W.WantD) (w : World), P.LandAt w gs ps b1 b2 → P.Fit gs ps → W.Src w aw cw ws → b.size ≤ maxLen → (∀ r ∈ ws, r.fits) → ws.length ≤ 1048576 →
    Calls Tryz.prog 6 #[.agg #[.int .i64 t, .slice (some ⟨b1, 0, none⟩) gs.length gs.length, .slice (some ⟨b2, 0, none⟩) ps.length ps.length], .string b, .slice aw ws.length cw] w fun e w' => (∃ t' gs' qs s1 s2 code, e = .returned (.tuple #[.agg #[.int .i64 t', s1, s2], .int .i64 code]) ∧ PutSay t gs ps b ws t' gs' qs code ∧ LdO w' w.heap.size gs' qs s1 s2) ∧ Below w.heap.size w w'
theorem ldK {w w5 y : World} {t : Int} {gs : List G.GrantD} {qs : List P.PlaceD} {v1 v2 : Value} {bx e1 e2 : Nat} (hA : ∀ k, w5.cell? ⟨w.heap.size, k, none⟩ = (#[.int .i64 t, v1, v2] : Array Value)[k]?) (hX : ∀ k, w5.cell? ⟨bx, k, none⟩ = (#[.int .i64 t, .slice (some ⟨e1, 0, none⟩) gs.length gs.length, .slice (some ⟨e2, 0, none⟩) qs.length qs.length] : Array Value)[k]?) (zA : w.heap.size < w5.heap.size) (zX : bx < w5.heap.size) (hb : Below w5.heap.size w5 y) :
    Below w5.heap.size w5 y ∧ (y.cell? ⟨w.heap.size, 0, none⟩ = some (.int .i64 t) ∧ y.cell? ⟨w.heap.size, 1, none⟩ = some (v1) ∧ y.cell? ⟨w.heap.size, 2, none⟩ = some (v2) ∧ y.cell? ⟨bx, 0, none⟩ = some (.int .i64 t) ∧ y.cell? ⟨bx, 1, none⟩ = some (.slice (some ⟨e1, 0, none⟩) gs.length gs.length) ∧ y.cell? ⟨bx, 2, none⟩ = some (.slice (some ⟨e2, 0, none⟩) qs.length qs.length)) := by
  have a : ∀ k, y.cell? ⟨w.heap.size, k, none⟩ = (#[.int .i64 t, v1, v2] : Array Value)[k]? := fun k => (hb.cell (p := ⟨w.heap.size, k, none⟩) zA).trans (hA k)
  have b : ∀ k, y.cell? ⟨bx, k, none⟩ = (#[.int .i64 t, .slice (some ⟨e1, 0, none⟩) gs.length gs.length, .slice (some ⟨e2, 0, none⟩) qs.length qs.length] : Array Value)[k]? := fun k => (hb.cell (p := ⟨bx, k, none⟩) zX).trans (hX k)
  exact ⟨hb, a 0, a 1, a 2, b 0, b 1, b 2⟩

set_option maxRecDepth 4000 in
set_option maxHeartbeats 8000000 in
theorem lawPut (hK1 : G.KeysSay) (hS1k : G.SortedSay) (hK2 : Pr.KeysSay) (hS2k : Pr.SortedSay) (hSpec : SpecPutSay) (t : Int) (gs : List G.GrantD) (ps : List P.PlaceD) (ws : List W.WantD) (v1 v2 v3 : Value) (b : ByteArray) (w : World) (i1 : G.In w v1 gs) (i2 : P.In w v2 ps) (i3 : W.In w v3 ws) (hbz : b.size ≤ maxLen) (r0 r1 r2 : Addr) (hE : Er3 w r0 r1 r2) :
    Calls Tryz.prog 3 #[.agg #[.int .i64 t, v1, v2], .string b, v3] w fun e w' => e = .returned (.bool true) ∧ Below w.heap.size w w' := by
  have HE : Hid (Er3 w r0 r1 r2) := hE
  unfold maxLen at hbz
  clear hE
  by_cases hbig : b.size ≤ 1048576
  case neg =>
    have hbi : (1048576 : Int) < (b.size : Int) := by omega
    go_enter Tryz.func3, Tryz.ntmps3
    go_wp2
    go_ret
    exact ⟨rfl, bl_alloc (Below.refl _ _) _⟩
  have hbi : (b.size : Int) ≤ 1048576 := by omega
  have hbm : b.size ≤ maxLen := by unfold maxLen; omega
  go_enter Tryz.func3, Tryz.ntmps3
  have C0 : Hid (Below w.heap.size w (w.alloc (.cells #[.int .i64 t, v1, v2] 25))) := bl_alloc (Below.refl _ _) _
  have A0 : Hid (Bo (w.alloc (.cells #[.int .i64 t, v1, v2] 25)) w.heap.size #[.int .i64 t, v1, v2]) := Bo.new _ _ _
  go_wp2_with fail
  refine (P.szLand_le t gs ps v1 v2 _ (i1.keep C0.out) (i2.keep C0.out)).mono ?_
  rintro e w1 ⟨hx, c⟩
  have C1 : Hid (Below w.heap.size w w1) := bl_trans C0.out c
  have A1 : Hid (Bo w1 w.heap.size #[.int .i64 t, v1, v2]) := (A0.out).keep c
  clear c C0 A0
  rcases hx with rfl | ⟨x, rfl, x0, xm, l1, l2, hL⟩
  · go_wp2
    go_ret
    exact ⟨rfl, C1.out⟩
  have HL : Hid (P.Lns ps) := hL
  have HF : Hid (P.Fit gs ps) := ⟨i1.fits, fun p hp => ⟨(i2.inn p hp).1, (i2.inn p hp).2.fits⟩, l1, l2, hL⟩
  have HWF : Hid (∀ r ∈ ws, r.fits) := i3.fits
  clear hL
  go_wp2_with fail
  refine (W.sz_in (i3.keep C1.out) x x0 xm).mono ?_
  rintro e w2 ⟨hx, c⟩
  have C2 : Hid (Below w.heap.size w w2) := bl_trans C1.out c
  have A2 : Hid (Bo w2 w.heap.size #[.int .i64 t, v1, v2]) := (A1.out).keep c
  clear c
  clear C1 A1
  rcases hx with rfl | ⟨x', rfl, x0', xm', lw⟩
  · go_wp2
    go_ret
    exact ⟨rfl, C2.out⟩
  clear xm'
  have ka := A2.out.c
  go_wp2_with fail
  clear ka
  refine (P.toLand_o t gs ps v1 v2 _ (i1.keep C2.out) (i2.keep C2.out) l1 l2 HL.out).mono ?_
  rintro e w3 ⟨⟨b1, b2, zs, rfl, hz, hA3, -⟩, c⟩
  have C3 : Hid (Below w.heap.size w w3) := bl_trans C2.out c
  have A3 : Hid (Bo w3 w.heap.size #[.int .i64 t, v1, v2]) := (A2.out).keep c
  clear c
  clear C2 A2
  have HZS : Hid (P.Like zs ps) := hz
  have HA3 : Hid (P.LandAt w3 gs zs b1 b2) := hA3
  clear hz hA3
  go_wp2_with fail
  refine (W.to_in3 (i3.keep C3.out) lw).mono ?_
  rintro e w4 ⟨rfl, hr4, th4, hz4, c⟩
  obtain ⟨wz, hwz⟩ : ∃ wz, wz = w3.heap.size := ⟨_, rfl⟩
  rw [← hwz] at hr4 th4 hz4 ⊢
  have SRC4 : Hid (W.Src w4 (some ⟨wz, 0, none⟩) ws.length ws) := Or.inr ⟨wz, rfl, hz4, hr4⟩
  have HA4 : Hid (P.LandAt w4 gs zs b1 b2) := HA3.out.keep c
  have C4 : Hid (Below w.heap.size w w4) := bl_trans C3.out c
  have A4 : Hid (Bo w4 w.heap.size #[.int .i64 t, v1, v2]) := (A3.out).keep c
  clear c
  clear C3 A3
  clear hr4 th4 hz4 hwz HA3
  go_wp2_with fail
  refine (hSpec t gs zs b1 b2 b _ _ ws w4 HA4.out (HF.out.like HZS.out) SRC4.out hbm HWF.out lw).mono ?_
  rintro e w5 ⟨⟨t1, g1, q1, s1, s2, cd, rfl, hS1, hT1⟩, c⟩
  have Z5 : Hid (w.heap.size < w4.heap.size ∧ w4.heap.size ≤ w5.heap.size) := ⟨A4.out.l, c.size⟩
  have C5 : Hid (Below w.heap.size w w5) := bl_trans C4.out c
  have A5 : Hid (Bo w5 w.heap.size #[.int .i64 t, v1, v2]) := (A4.out).keep c
  clear c
  clear C4 A4
  clear HA4 SRC4
  obtain ⟨a1, p1, rfl⟩ := G.Sl.shape hT1.g
  obtain ⟨a2, p2, hs2⟩ := Pr.Sl.shape hT1.p.o
  rw [List.length_map] at hs2
  subst hs2
  have HS1 : Hid (PutSay t gs zs b ws t1 g1 q1 cd) := hS1
  have V5 : Hid (LdO w5 w4.heap.size g1 q1 (.slice a1 g1.length p1) (.slice a2 q1.length p2)) := hT1
  have VL : Hid (∀ g, LdO.bs q1 (.slice a1 g1.length p1) (.slice a2 q1.length p2) g → w4.heap.size ≤ g ∧ g < w5.heap.size) := hT1.lt
  clear hS1 hT1
  obtain ⟨Y5, hY5⟩ : ∃ Y, Y = w5.alloc (.cells #[.int .i64 t1, .slice a1 g1.length p1, .slice a2 q1.length p2] 32) := ⟨_, rfl⟩
  have HY5 : Hid (Y5 = w5.alloc (.cells #[.int .i64 t1, .slice a1 g1.length p1, .slice a2 q1.length p2] 32)) := hY5
  have cY : Below w5.heap.size w5 Y5 := by rw [hY5]; exact bl_alloc (Below.refl _ _) _
  have C6 : Hid (Below w.heap.size w Y5) := bl_trans C5.out cY
  have A6 : Hid (Bo Y5 w.heap.size #[.int .i64 t, v1, v2]) := (A5.out).keep cY
  have V6 : Hid (LdO Y5 w4.heap.size g1 q1 (.slice a1 g1.length p1) (.slice a2 q1.length p2)) := (V5.out).keep cY
  have W6 : Hid (Bo Y5 w5.heap.size #[.int .i64 t1, .slice a1 g1.length p1, .slice a2 q1.length p2]) := by rw [hY5]; exact Bo.new _ _ _
  have ZY5 : Hid (Y5.heap.size = w5.heap.size + 1) := by rw [hY5]; show _ = _; simp
  clear cY
  clear C5 A5 V5
  have ka : ∀ k, (w5.alloc (.cells #[.int .i64 t1, .slice a1 g1.length p1, .slice a2 q1.length p2] 32)).cell? ⟨w.heap.size, k, none⟩ = (#[.int .i64 t, v1, v2] : Array Value)[k]? := by rw [← hY5]; exact A6.out.c
  clear hY5
  go_wp2_with fail
  clear ka
  rw [← HY5.out]
  refine (P.toLand_o t gs ps v1 v2 _ (i1.keep C6.out) (i2.keep C6.out) l1 l2 HL.out).mono ?_
  rintro e w6 ⟨⟨e1, e2, xs, rfl, hx6, hA6, hL6⟩, c⟩
  have Z6 : Hid (Y5.heap.size ≤ w6.heap.size) := c.size
  have C7 : Hid (Below w.heap.size w w6) := bl_trans C6.out c
  have A7 : Hid (Bo w6 w.heap.size #[.int .i64 t, v1, v2]) := (A6.out).keep c
  have V7 : Hid (LdO w6 w4.heap.size g1 q1 (.slice a1 g1.length p1) (.slice a2 q1.length p2)) := (V6.out).keep c
  have W7 : Hid (Bo w6 w5.heap.size #[.int .i64 t1, .slice a1 g1.length p1, .slice a2 q1.length p2]) := (W6.out).keep c
  clear c
  clear C6 A6 V6 W6
  have HXS : Hid (P.Like xs ps) := hx6
  have X7 : Hid (LdO w6 Y5.heap.size gs xs (.slice (some ⟨e1, 0, none⟩) gs.length gs.length) (.slice (some ⟨e2, 0, none⟩) xs.length xs.length)) := hL6
  have XL : Hid (∀ g, LdO.bs xs (.slice (some ⟨e1, 0, none⟩) gs.length gs.length) (.slice (some ⟨e2, 0, none⟩) xs.length xs.length) g → Y5.heap.size ≤ g ∧ g < w6.heap.size) := hL6.lt
  have HA6 : Hid (P.LandAt w6 gs xs e1 e2) := hA6
  clear hx6 hL6 hA6
  obtain ⟨Y6, hY6⟩ : ∃ Y, Y = w6.alloc (.cells #[.int .i64 t, .slice (some ⟨e1, 0, none⟩) gs.length gs.length, .slice (some ⟨e2, 0, none⟩) xs.length xs.length] 32) := ⟨_, rfl⟩
  have HY6 : Hid (Y6 = w6.alloc (.cells #[.int .i64 t, .slice (some ⟨e1, 0, none⟩) gs.length gs.length, .slice (some ⟨e2, 0, none⟩) xs.length xs.length] 32)) := hY6
  have cY : Below w6.heap.size w6 Y6 := by rw [hY6]; exact bl_alloc (Below.refl _ _) _
  have C8 : Hid (Below w.heap.size w Y6) := bl_trans C7.out cY
  have A8 : Hid (Bo Y6 w.heap.size #[.int .i64 t, v1, v2]) := (A7.out).keep cY
  have V8 : Hid (LdO Y6 w4.heap.size g1 q1 (.slice a1 g1.length p1) (.slice a2 q1.length p2)) := (V7.out).keep cY
  have W8 : Hid (Bo Y6 w5.heap.size #[.int .i64 t1, .slice a1 g1.length p1, .slice a2 q1.length p2]) := (W7.out).keep cY
  have X8 : Hid (LdO Y6 Y5.heap.size gs xs (.slice (some ⟨e1, 0, none⟩) gs.length gs.length) (.slice (some ⟨e2, 0, none⟩) xs.length xs.length)) := (X7.out).keep cY
  have B8 : Hid (Bo Y6 w6.heap.size #[.int .i64 t, .slice (some ⟨e1, 0, none⟩) gs.length gs.length, .slice (some ⟨e2, 0, none⟩) xs.length xs.length]) := by rw [hY6]; exact Bo.new _ _ _
  have ZY6 : Hid (Y6.heap.size = w6.heap.size + 1) := by rw [hY6]; show _ = _; simp
  have HA7 : Hid (P.LandAt Y6 gs xs e1 e2) := HA6.out.keep cY
  clear cY HA6 hY6
  clear C7 A7 V7 W7 X7
  go_wp2_with fail
  rw [← HY6.out]
  refine (W.to_in3 (i3.keep C8.out) lw).mono ?_
  rintro e w7 ⟨rfl, hr7, th7, hz7, c⟩
  obtain ⟨wy, hwy⟩ : ∃ wy, wy = Y6.heap.size := ⟨_, rfl⟩
  rw [← hwy] at hr7 th7 hz7 ⊢
  have SRC7 : Hid (W.Src w7 (some ⟨wy, 0, none⟩) ws.length ws) := Or.inr ⟨wy, rfl, hz7, hr7⟩
  have HA8 : Hid (P.LandAt w7 gs xs e1 e2) := HA7.out.keep c
  have ZW : Hid (wy = Y6.heap.size ∧ wy < w7.heap.size) := ⟨hwy, hz7⟩
  have S9 : Hid (W.Sl w7 (.slice (some ⟨wy, 0, none⟩) ws.length ws.length) ws wy) := Or.inr ⟨wy, _, rfl, Nat.le_refl _, hz7, hr7, th7⟩
  have C9 : Hid (Below w.heap.size w w7) := bl_trans C8.out c
  have A9 : Hid (Bo w7 w.heap.size #[.int .i64 t, v1, v2]) := (A8.out).keep c
  have V9 : Hid (LdO w7 w4.heap.size g1 q1 (.slice a1 g1.length p1) (.slice a2 q1.length p2)) := (V8.out).keep c
  have W9 : Hid (Bo w7 w5.heap.size #[.int .i64 t1, .slice a1 g1.length p1, .slice a2 q1.length p2]) := (W8.out).keep c
  have X9 : Hid (LdO w7 Y5.heap.size gs xs (.slice (some ⟨e1, 0, none⟩) gs.length gs.length) (.slice (some ⟨e2, 0, none⟩) xs.length xs.length)) := (X8.out).keep c
  have B9 : Hid (Bo w7 w6.heap.size #[.int .i64 t, .slice (some ⟨e1, 0, none⟩) gs.length gs.length, .slice (some ⟨e2, 0, none⟩) xs.length xs.length]) := (B8.out).keep c
  clear c
  clear C8 A8 V8 W8 X8 B8
  clear hr7 th7 hz7 hwy HA7
  have kb := B9.out.c
  go_wp2_with fail
  clear kb
  refine (implPut hK1 hS1k hK2 hS2k t gs xs e1 e2 b _ _ ws w7 HA8.out (HF.out.like HXS.out) SRC7.out hbm (Nat.le_refl _) HWF.out lw r0 r1 r2 (HE.out.keep C9.out)).mono ?_
  rintro e w8 ⟨⟨t2, g2, q2, y1, y2, cd2, rfl, hS2, hT2⟩, c⟩
  have Z8 : Hid (w7.heap.size ≤ w8.heap.size) := c.size
  have C10 : Hid (Below w.heap.size w w8) := bl_trans C9.out c
  have A10 : Hid (Bo w8 w.heap.size #[.int .i64 t, v1, v2]) := (A9.out).keep c
  have V10 : Hid (LdO w8 w4.heap.size g1 q1 (.slice a1 g1.length p1) (.slice a2 q1.length p2)) := (V9.out).keep c
  have W10 : Hid (Bo w8 w5.heap.size #[.int .i64 t1, .slice a1 g1.length p1, .slice a2 q1.length p2]) := (W9.out).keep c
  have X10 : Hid (LdO w8 Y5.heap.size gs xs (.slice (some ⟨e1, 0, none⟩) gs.length gs.length) (.slice (some ⟨e2, 0, none⟩) xs.length xs.length)) := (X9.out).keep c
  have B10 : Hid (Bo w8 w6.heap.size #[.int .i64 t, .slice (some ⟨e1, 0, none⟩) gs.length gs.length, .slice (some ⟨e2, 0, none⟩) xs.length xs.length]) := (B9.out).keep c
  have S10 : Hid (W.Sl w8 (.slice (some ⟨wy, 0, none⟩) ws.length ws.length) ws wy) := (S9.out).keep c
  clear c
  clear C9 A9 V9 W9 X9 B9 S9
  clear HA8 SRC7
  obtain ⟨et, eg, hlq, ec⟩ := put_one (HZS.out.trans HXS.out.symm) HS1.out hS2
  subst et eg ec
  obtain ⟨c1, o1, rfl⟩ := G.Sl.shape hT2.g
  obtain ⟨c2, o2, hs2⟩ := Pr.Sl.shape hT2.p.o
  rw [List.length_map] at hs2
  subst hs2
  have BD2 : Hid (SmallP g1 q2) := hS2.small
  have LQ : Hid (P.Like q2 q1) := hlq.symm
  have G10 : Hid (LdO w8 w7.heap.size g1 q2 (.slice c1 g1.length o1) (.slice c2 q2.length o2)) := hT2
  have GL : Hid (∀ g, LdO.bs q2 (.slice c1 g1.length o1) (.slice c2 q2.length o2) g → w7.heap.size ≤ g ∧ g < w8.heap.size) := hT2.lt
  clear hS2 hT2 hlq
  obtain ⟨Y8, hY8⟩ : ∃ Y, Y = w8.alloc (.cells #[.int .i64 t1, .slice c1 g1.length o1, .slice c2 q2.length o2] 32) := ⟨_, rfl⟩
  have HY8 : Hid (Y8 = w8.alloc (.cells #[.int .i64 t1, .slice c1 g1.length o1, .slice c2 q2.length o2] 32)) := hY8
  have cY : Below w8.heap.size w8 Y8 := by rw [hY8]; exact bl_alloc (Below.refl _ _) _
  have C11 : Hid (Below w.heap.size w Y8) := bl_trans C10.out cY
  have A11 : Hid (Bo Y8 w.heap.size #[.int .i64 t, v1, v2]) := (A10.out).keep cY
  have V11 : Hid (LdO Y8 w4.heap.size g1 q1 (.slice a1 g1.length p1) (.slice a2 q1.length p2)) := (V10.out).keep cY
  have W11 : Hid (Bo Y8 w5.heap.size #[.int .i64 t1, .slice a1 g1.length p1, .slice a2 q1.length p2]) := (W10.out).keep cY
  have X11 : Hid (LdO Y8 Y5.heap.size gs xs (.slice (some ⟨e1, 0, none⟩) gs.length gs.length) (.slice (some ⟨e2, 0, none⟩) xs.length xs.length)) := (X10.out).keep cY
  have B11 : Hid (Bo Y8 w6.heap.size #[.int .i64 t, .slice (some ⟨e1, 0, none⟩) gs.length gs.length, .slice (some ⟨e2, 0, none⟩) xs.length xs.length]) := (B10.out).keep cY
  have S11 : Hid (W.Sl Y8 (.slice (some ⟨wy, 0, none⟩) ws.length ws.length) ws wy) := (S10.out).keep cY
  have G11 : Hid (LdO Y8 w7.heap.size g1 q2 (.slice c1 g1.length o1) (.slice c2 q2.length o2)) := (G10.out).keep cY
  have D11 : Hid (Bo Y8 w8.heap.size #[.int .i64 t1, .slice c1 g1.length o1, .slice c2 q2.length o2]) := by rw [hY8]; exact Bo.new _ _ _
  have ZY8 : Hid (Y8.heap.size = w8.heap.size + 1) := by rw [hY8]; show _ = _; simp
  clear cY
  clear C10 A10 V10 W10 X10 B10 S10 G10
  have kw : ∀ k, (w8.alloc (.cells #[.int .i64 t1, .slice c1 g1.length o1, .slice c2 q2.length o2] 32)).cell? ⟨w5.heap.size, k, none⟩ = (#[.int .i64 t1, .slice a1 g1.length p1, .slice a2 q1.length p2] : Array Value)[k]? := by rw [← hY8]; exact W11.out.c
  clear hY8
  go_wp2_with fail
  clear kw
  rw [← HY8.out]
  refine (eqLand_o t1 g1 _ q1 _ _ _ _ _ _ Y8 G11.out V11.out LQ.out BD2.out.a BD2.out.b BD2.out.c).mono ?_
  rintro e w9 ⟨rfl, c⟩
  have C12 : Hid (Below w.heap.size w w9) := bl_trans C11.out c
  have A12 : Hid (Bo w9 w.heap.size #[.int .i64 t, v1, v2]) := (A11.out).keep c
  have V12 : Hid (LdO w9 w4.heap.size g1 q1 (.slice a1 g1.length p1) (.slice a2 q1.length p2)) := (V11.out).keep c
  have W12 : Hid (Bo w9 w5.heap.size #[.int .i64 t1, .slice a1 g1.length p1, .slice a2 q1.length p2]) := (W11.out).keep c
  have X12 : Hid (LdO w9 Y5.heap.size gs xs (.slice (some ⟨e1, 0, none⟩) gs.length gs.length) (.slice (some ⟨e2, 0, none⟩) xs.length xs.length)) := (X11.out).keep c
  have B12 : Hid (Bo w9 w6.heap.size #[.int .i64 t, .slice (some ⟨e1, 0, none⟩) gs.length gs.length, .slice (some ⟨e2, 0, none⟩) xs.length xs.length]) := (B11.out).keep c
  have S12 : Hid (W.Sl w9 (.slice (some ⟨wy, 0, none⟩) ws.length ws.length) ws wy) := (S11.out).keep c
  have G12 : Hid (LdO w9 w7.heap.size g1 q2 (.slice c1 g1.length o1) (.slice c2 q2.length o2)) := (G11.out).keep c
  have D12 : Hid (Bo w9 w8.heap.size #[.int .i64 t1, .slice c1 g1.length o1, .slice c2 q2.length o2]) := (D11.out).keep c
  clear c
  clear C11 A11 V11 W11 X11 B11 S11 G11 D11
  go_wp2_with fail
  go_region_held3 (fun y => Below w9.heap.size w9 y ∧ (y.cell? ⟨w.heap.size, 0, none⟩ = some (.int .i64 t) ∧ y.cell? ⟨w.heap.size, 1, none⟩ = some (v1) ∧ y.cell? ⟨w.heap.size, 2, none⟩ = some (v2) ∧ y.cell? ⟨w6.heap.size, 0, none⟩ = some (.int .i64 t) ∧ y.cell? ⟨w6.heap.size, 1, none⟩ = some (.slice (some ⟨e1, 0, none⟩) gs.length gs.length) ∧ y.cell? ⟨w6.heap.size, 2, none⟩ = some (.slice (some ⟨e2, 0, none⟩) xs.length xs.length)))
    (first | exact ldK A12.out.c B12.out.c A12.out.l B12.out.l (bl_drew (Below.refl _ _)) | exact ldK A12.out.c B12.out.c A12.out.l B12.out.l (bl_trans (bl_drew (Below.refl _ _)) hy) | exact ldK A12.out.c B12.out.c A12.out.l B12.out.l (bl_trans (bl_trans (bl_drew (Below.refl _ _)) hy) hz))
    (first | (go_at_call 7; refine (P.toLand_o t gs ps v1 v2 _ (i1.keep (bl_trans C12.out (bl_drew (Below.refl _ _)))) (i2.keep (bl_trans C12.out (bl_drew (Below.refl _ _)))) l1 l2 HL.out).mono ?_; rintro e y' ⟨⟨f1, f2, us, rfl, hus, -, hLu⟩, hy⟩) | (go_at_call 10; refine (eqLand_o t gs xs us _ _ _ _ _ _ _ (X12.out.keep (bl_trans (bl_drew (Below.refl _ _)) hy)) hLu (HXS.out.trans hus.symm) l1 (by rw [HXS.out.len]; exact l2) (lns_like HXS.out HL.out)).mono ?_; rintro e y'' ⟨rfl, hz⟩))
  have cc := bl_trans (bl_trans (bl_drew (Below.refl _ w9)) hy) hz
  clear hy hz hLu hus
  have C13 : Hid (Below w.heap.size w y'') := bl_trans C12.out cc
  have A13 : Hid (Bo y'' w.heap.size #[.int .i64 t, v1, v2]) := (A12.out).keep cc
  have V13 : Hid (LdO y'' w4.heap.size g1 q1 (.slice a1 g1.length p1) (.slice a2 q1.length p2)) := (V12.out).keep cc
  have W13 : Hid (Bo y'' w5.heap.size #[.int .i64 t1, .slice a1 g1.length p1, .slice a2 q1.length p2]) := (W12.out).keep cc
  have X13 : Hid (LdO y'' Y5.heap.size gs xs (.slice (some ⟨e1, 0, none⟩) gs.length gs.length) (.slice (some ⟨e2, 0, none⟩) xs.length xs.length)) := (X12.out).keep cc
  have B13 : Hid (Bo y'' w6.heap.size #[.int .i64 t, .slice (some ⟨e1, 0, none⟩) gs.length gs.length, .slice (some ⟨e2, 0, none⟩) xs.length xs.length]) := (B12.out).keep cc
  have S13 : Hid (W.Sl y'' (.slice (some ⟨wy, 0, none⟩) ws.length ws.length) ws wy) := (S12.out).keep cc
  have G13 : Hid (LdO y'' w7.heap.size g1 q2 (.slice c1 g1.length o1) (.slice c2 q2.length o2)) := (G12.out).keep cc
  have D13 : Hid (Bo y'' w8.heap.size #[.int .i64 t1, .slice c1 g1.length o1, .slice c2 q2.length o2]) := (D12.out).keep cc
  clear cc
  clear C12 A12 V12 W12 X12 B12 S12 G12 D12
  go_wp2_with fail
  refine (W.to_in3 (i3.keep C13.out) lw).mono ?_
  rintro e w10 ⟨rfl, hr9, th9, hz9, c⟩
  have S10 : W.Sl w10 (.slice (some ⟨y''.heap.size, 0, none⟩) ws.length ws.length) ws 0 := Or.inr ⟨_, _, rfl, Nat.zero_le _, hz9, hr9, th9⟩
  have HS10 : Hid (W.Sl w10 (.slice (some ⟨y''.heap.size, 0, none⟩) ws.length ws.length) ws 0) := S10
  have C14 : Hid (Below w.heap.size w w10) := bl_trans C13.out c
  have A14 : Hid (Bo w10 w.heap.size #[.int .i64 t, v1, v2]) := (A13.out).keep c
  have V14 : Hid (LdO w10 w4.heap.size g1 q1 (.slice a1 g1.length p1) (.slice a2 q1.length p2)) := (V13.out).keep c
  have W14 : Hid (Bo w10 w5.heap.size #[.int .i64 t1, .slice a1 g1.length p1, .slice a2 q1.length p2]) := (W13.out).keep c
  have X14 : Hid (LdO w10 Y5.heap.size gs xs (.slice (some ⟨e1, 0, none⟩) gs.length gs.length) (.slice (some ⟨e2, 0, none⟩) xs.length xs.length)) := (X13.out).keep c
  have B14 : Hid (Bo w10 w6.heap.size #[.int .i64 t, .slice (some ⟨e1, 0, none⟩) gs.length gs.length, .slice (some ⟨e2, 0, none⟩) xs.length xs.length]) := (B13.out).keep c
  have S14 : Hid (W.Sl w10 (.slice (some ⟨wy, 0, none⟩) ws.length ws.length) ws wy) := (S13.out).keep c
  have G14 : Hid (LdO w10 w7.heap.size g1 q2 (.slice c1 g1.length o1) (.slice c2 q2.length o2)) := (G13.out).keep c
  have D14 : Hid (Bo w10 w8.heap.size #[.int .i64 t1, .slice c1 g1.length o1, .slice c2 q2.length o2]) := (D13.out).keep c
  clear c
  clear C13 A13 V13 W13 X13 B13 S13 G13 D13
  clear hr9 th9 hz9 S10
  go_wp2_with fail
  refine (W.eq_sl S14.out HS10.out lw).mono ?_
  rintro e w11 ⟨rfl, c⟩
  have C15 : Hid (Below w.heap.size w w11) := bl_trans C14.out c
  have A15 : Hid (Bo w11 w.heap.size #[.int .i64 t, v1, v2]) := (A14.out).keep c
  have V15 : Hid (LdO w11 w4.heap.size g1 q1 (.slice a1 g1.length p1) (.slice a2 q1.length p2)) := (V14.out).keep c
  have W15 : Hid (Bo w11 w5.heap.size #[.int .i64 t1, .slice a1 g1.length p1, .slice a2 q1.length p2]) := (W14.out).keep c
  have X15 : Hid (LdO w11 Y5.heap.size gs xs (.slice (some ⟨e1, 0, none⟩) gs.length gs.length) (.slice (some ⟨e2, 0, none⟩) xs.length xs.length)) := (X14.out).keep c
  have B15 : Hid (Bo w11 w6.heap.size #[.int .i64 t, .slice (some ⟨e1, 0, none⟩) gs.length gs.length, .slice (some ⟨e2, 0, none⟩) xs.length xs.length]) := (B14.out).keep c
  have S15 : Hid (W.Sl w11 (.slice (some ⟨wy, 0, none⟩) ws.length ws.length) ws wy) := (S14.out).keep c
  have G15 : Hid (LdO w11 w7.heap.size g1 q2 (.slice c1 g1.length o1) (.slice c2 q2.length o2)) := (G14.out).keep c
  have D15 : Hid (Bo w11 w8.heap.size #[.int .i64 t1, .slice c1 g1.length o1, .slice c2 q2.length o2]) := (D14.out).keep c
  clear c
  clear C14 A14 V14 W14 X14 B14 S14 G14 D14
  clear HS10
  have kb := B15.out.c
  go_wp2_with fail
  clear kb
  refine (markLand_o t gs xs _ _ _ 1 _ X15.out l1 (by rw [HXS.out.len]; exact l2) (lns_like HXS.out HL.out) (by omega) (by omega)).mono ?_
  rintro e w12 ⟨he, -, o⟩
  have kn : 0 ≤ endP (endG 1 gs) xs ∧ endP (endG 1 gs) xs ≤ 9000000000000 := by have h1 := endG_le 1 gs; have h2 := endP_le (endG 1 gs) xs (lns_like HXS.out HL.out); have h3 := HXS.out.len; omega
  obtain ⟨kk, hkk⟩ : ∃ kk : Int, kk = endP (endG 1 gs) xs := ⟨_, rfl⟩
  rw [← hkk] at he kn
  obtain ⟨kn, km⟩ := kn
  subst he
  clear hkk
  clear X15 B15
  have C16 : Hid (Below w.heap.size w w12) := bl_off2 C15.out o (fun j hj => by have h1 := XL.out j hj; obtain ⟨z1, z2⟩ := Z5.out; have z3 := ZY5.out; have z4 := Z6.out; have z5 := ZY6.out; obtain ⟨z6, z7⟩ := ZW.out; have z8 := Z8.out; omega)
  have A16 : Hid (Bo w12 w.heap.size #[.int .i64 t, v1, v2]) := (A15.out).off o (fun hp => by have h1 := XL.out _ hp; obtain ⟨z1, z2⟩ := Z5.out; have z3 := ZY5.out; have z4 := Z6.out; have z5 := ZY6.out; obtain ⟨z6, z7⟩ := ZW.out; have z8 := Z8.out; omega)
  have V16 : Hid (LdO w12 w4.heap.size g1 q1 (.slice a1 g1.length p1) (.slice a2 q1.length p2)) := (V15.out).off o (fun j hj hp => by have h0 := VL.out j hj; have h1 := XL.out j hp; obtain ⟨z1, z2⟩ := Z5.out; have z3 := ZY5.out; have z4 := Z6.out; have z5 := ZY6.out; obtain ⟨z6, z7⟩ := ZW.out; have z8 := Z8.out; omega)
  have W16 : Hid (Bo w12 w5.heap.size #[.int .i64 t1, .slice a1 g1.length p1, .slice a2 q1.length p2]) := (W15.out).off o (fun hp => by have h1 := XL.out _ hp; obtain ⟨z1, z2⟩ := Z5.out; have z3 := ZY5.out; have z4 := Z6.out; have z5 := ZY6.out; obtain ⟨z6, z7⟩ := ZW.out; have z8 := Z8.out; omega)
  have S16 : Hid (W.Sl w12 (.slice (some ⟨wy, 0, none⟩) ws.length ws.length) ws wy) := (S15.out).off o (fun j hj hp => by have h1 := XL.out j hp; have h0 : wy = j := Option.some.inj hj; obtain ⟨z1, z2⟩ := Z5.out; have z3 := ZY5.out; have z4 := Z6.out; have z5 := ZY6.out; obtain ⟨z6, z7⟩ := ZW.out; have z8 := Z8.out; omega)
  have G16 : Hid (LdO w12 w7.heap.size g1 q2 (.slice c1 g1.length o1) (.slice c2 q2.length o2)) := (G15.out).off o (fun j hj hp => by have h0 := GL.out j hj; have h1 := XL.out j hp; obtain ⟨z1, z2⟩ := Z5.out; have z3 := ZY5.out; have z4 := Z6.out; have z5 := ZY6.out; obtain ⟨z6, z7⟩ := ZW.out; have z8 := Z8.out; omega)
  have D16 : Hid (Bo w12 w8.heap.size #[.int .i64 t1, .slice c1 g1.length o1, .slice c2 q2.length o2]) := (D15.out).off o (fun hp => by have h1 := XL.out _ hp; obtain ⟨z1, z2⟩ := Z5.out; have z3 := ZY5.out; have z4 := Z6.out; have z5 := ZY6.out; obtain ⟨z6, z7⟩ := ZW.out; have z8 := Z8.out; omega)
  clear o
  clear C15 A15 V15 W15 S15 G15 D15
  go_wp2_with fail
  refine (W.mark_sl S16.out kk lw kn (by omega)).mono ?_
  rintro e w13 ⟨rfl, -, o⟩
  have OS : Off (fun j => j = wy) w12 w13 := Off.of_grown o (fun j e => (Option.some.inj e).symm)
  clear S16
  have C17 : Hid (Below w.heap.size w w13) := bl_off2 C16.out OS (fun j hj => by obtain ⟨z1, z2⟩ := Z5.out; have z3 := ZY5.out; have z4 := Z6.out; have z5 := ZY6.out; obtain ⟨z6, z7⟩ := ZW.out; have z8 := Z8.out; omega)
  have A17 : Hid (Bo w13 w.heap.size #[.int .i64 t, v1, v2]) := (A16.out).off OS (fun hp => by obtain ⟨z1, z2⟩ := Z5.out; have z3 := ZY5.out; have z4 := Z6.out; have z5 := ZY6.out; obtain ⟨z6, z7⟩ := ZW.out; have z8 := Z8.out; omega)
  have V17 : Hid (LdO w13 w4.heap.size g1 q1 (.slice a1 g1.length p1) (.slice a2 q1.length p2)) := (V16.out).off OS (fun j hj hp => by have h0 := VL.out j hj; obtain ⟨z1, z2⟩ := Z5.out; have z3 := ZY5.out; have z4 := Z6.out; have z5 := ZY6.out; obtain ⟨z6, z7⟩ := ZW.out; have z8 := Z8.out; omega)
  have W17 : Hid (Bo w13 w5.heap.size #[.int .i64 t1, .slice a1 g1.length p1, .slice a2 q1.length p2]) := (W16.out).off OS (fun hp => by obtain ⟨z1, z2⟩ := Z5.out; have z3 := ZY5.out; have z4 := Z6.out; have z5 := ZY6.out; obtain ⟨z6, z7⟩ := ZW.out; have z8 := Z8.out; omega)
  have G17 : Hid (LdO w13 w7.heap.size g1 q2 (.slice c1 g1.length o1) (.slice c2 q2.length o2)) := (G16.out).off OS (fun j hj hp => by have h0 := GL.out j hj; obtain ⟨z1, z2⟩ := Z5.out; have z3 := ZY5.out; have z4 := Z6.out; have z5 := ZY6.out; obtain ⟨z6, z7⟩ := ZW.out; have z8 := Z8.out; omega)
  have D17 : Hid (Bo w13 w8.heap.size #[.int .i64 t1, .slice c1 g1.length o1, .slice c2 q2.length o2]) := (D16.out).off OS (fun hp => by obtain ⟨z1, z2⟩ := Z5.out; have z3 := ZY5.out; have z4 := Z6.out; have z5 := ZY6.out; obtain ⟨z6, z7⟩ := ZW.out; have z8 := Z8.out; omega)
  clear o OS
  clear C16 A16 V16 W16 G16 D16
  obtain ⟨kl, hkl⟩ : ∃ kl : Int, kl = kk + 7 * (ws.length : Int) := ⟨_, rfl⟩
  have kln : 0 ≤ kl := by omega
  rw [← hkl]
  clear hkl
  have kw := W17.out.c
  have kz := D17.out.c
  go_wp2_with fail
  clear kw kz
  refine (eqLand_o t1 g1 _ q1 _ _ _ _ _ _ w13 G17.out V17.out LQ.out BD2.out.a BD2.out.b BD2.out.c).mono ?_
  rintro e w14 ⟨rfl, c⟩
  have C18 : Hid (Below w.heap.size w w14) := bl_trans C17.out c
  have A18 : Hid (Bo w14 w.heap.size #[.int .i64 t, v1, v2]) := (A17.out).keep c
  have V18 : Hid (LdO w14 w4.heap.size g1 q1 (.slice a1 g1.length p1) (.slice a2 q1.length p2)) := (V17.out).keep c
  have W18 : Hid (Bo w14 w5.heap.size #[.int .i64 t1, .slice a1 g1.length p1, .slice a2 q1.length p2]) := (W17.out).keep c
  have G18 : Hid (LdO w14 w7.heap.size g1 q2 (.slice c1 g1.length o1) (.slice c2 q2.length o2)) := (G17.out).keep c
  have D18 : Hid (Bo w14 w8.heap.size #[.int .i64 t1, .slice c1 g1.length o1, .slice c2 q2.length o2]) := (D17.out).keep c
  clear c
  clear C17 A17 V17 W17 G17 D17
  have kz := D18.out.c
  go_wp2_with fail
  clear kz
  have eb := BD2.out.ends
  obtain ⟨m1, hm1⟩ : ∃ m1 : Int, m1 = endP (endG 1 g1) q2 := ⟨_, rfl⟩
  rw [← hm1] at eb
  have HM1 : Hid (m1 = endP (endG 1 g1) q2) := hm1
  clear hm1
  refine (markLand_o t1 g1 q2 _ _ _ 1 _ G18.out BD2.out.a BD2.out.b BD2.out.c (by omega) (by omega)).mono ?_
  rintro e w15 ⟨he, M, o⟩
  rw [← HM1.out] at he
  subst he
  have M19 : Hid (LdO w15 w7.heap.size (markGs 1 g1) (markPs (endG 1 g1) q2) (.slice c1 g1.length o1) (.slice c2 q2.length o2)) := M
  have C19 : Hid (Below w.heap.size w w15) := bl_off2 C18.out o (fun j hj => by have h1 := GL.out j hj; obtain ⟨z1, z2⟩ := Z5.out; have z3 := ZY5.out; have z4 := Z6.out; have z5 := ZY6.out; obtain ⟨z6, z7⟩ := ZW.out; have z8 := Z8.out; omega)
  have A19 : Hid (Bo w15 w.heap.size #[.int .i64 t, v1, v2]) := (A18.out).off o (fun hp => by have h1 := GL.out _ hp; obtain ⟨z1, z2⟩ := Z5.out; have z3 := ZY5.out; have z4 := Z6.out; have z5 := ZY6.out; obtain ⟨z6, z7⟩ := ZW.out; have z8 := Z8.out; omega)
  have V19 : Hid (LdO w15 w4.heap.size g1 q1 (.slice a1 g1.length p1) (.slice a2 q1.length p2)) := (V18.out).off o (fun j hj hp => by have h0 := VL.out j hj; have h1 := GL.out j hp; obtain ⟨z1, z2⟩ := Z5.out; have z3 := ZY5.out; have z4 := Z6.out; have z5 := ZY6.out; obtain ⟨z6, z7⟩ := ZW.out; have z8 := Z8.out; omega)
  have W19 : Hid (Bo w15 w5.heap.size #[.int .i64 t1, .slice a1 g1.length p1, .slice a2 q1.length p2]) := (W18.out).off o (fun hp => by have h1 := GL.out _ hp; obtain ⟨z1, z2⟩ := Z5.out; have z3 := ZY5.out; have z4 := Z6.out; have z5 := ZY6.out; obtain ⟨z6, z7⟩ := ZW.out; have z8 := Z8.out; omega)
  have D19 : Hid (Bo w15 w8.heap.size #[.int .i64 t1, .slice c1 g1.length o1, .slice c2 q2.length o2]) := (D18.out).off o (fun hp => by have h1 := GL.out _ hp; obtain ⟨z1, z2⟩ := Z5.out; have z3 := ZY5.out; have z4 := Z6.out; have z5 := ZY6.out; obtain ⟨z6, z7⟩ := ZW.out; have z8 := Z8.out; omega)
  clear o M
  clear C18 A18 V18 W18 D18 G18
  have kz := D19.out.c
  go_wp2_with fail
  clear kz
  refine (heldLand_o t1 g1 q2 _ _ _ 1 _ M19.out BD2.out.a BD2.out.b BD2.out.c (by omega) (by omega)).mono ?_
  rintro e w16 ⟨he, c⟩
  rw [← HM1.out] at he
  subst he
  have C20 : Hid (Below w.heap.size w w16) := bl_trans C19.out c
  have A20 : Hid (Bo w16 w.heap.size #[.int .i64 t, v1, v2]) := (A19.out).keep c
  have V20 : Hid (LdO w16 w4.heap.size g1 q1 (.slice a1 g1.length p1) (.slice a2 q1.length p2)) := (V19.out).keep c
  have W20 : Hid (Bo w16 w5.heap.size #[.int .i64 t1, .slice a1 g1.length p1, .slice a2 q1.length p2]) := (W19.out).keep c
  have D20 : Hid (Bo w16 w8.heap.size #[.int .i64 t1, .slice c1 g1.length o1, .slice c2 q2.length o2]) := (D19.out).keep c
  have M20 : Hid (LdO w16 w7.heap.size (markGs 1 g1) (markPs (endG 1 g1) q2) (.slice c1 g1.length o1) (.slice c2 q2.length o2)) := (M19.out).keep c
  clear c
  clear C19 A19 V19 W19 D19 M19
  have ka := A20.out.c
  go_wp2_with fail
  clear ka
  refine (P.toLand_o t gs ps v1 v2 _ (i1.keep C20.out) (i2.keep C20.out) l1 l2 HL.out).mono ?_
  rintro e w17 ⟨⟨f1, f2, us, rfl, hus, hA17, -⟩, c⟩
  have C21 : Hid (Below w.heap.size w w17) := bl_trans C20.out c
  have A21 : Hid (Bo w17 w.heap.size #[.int .i64 t, v1, v2]) := (A20.out).keep c
  have V21 : Hid (LdO w17 w4.heap.size g1 q1 (.slice a1 g1.length p1) (.slice a2 q1.length p2)) := (V20.out).keep c
  have W21 : Hid (Bo w17 w5.heap.size #[.int .i64 t1, .slice a1 g1.length p1, .slice a2 q1.length p2]) := (W20.out).keep c
  have D21 : Hid (Bo w17 w8.heap.size #[.int .i64 t1, .slice c1 g1.length o1, .slice c2 q2.length o2]) := (D20.out).keep c
  have M21 : Hid (LdO w17 w7.heap.size (markGs 1 g1) (markPs (endG 1 g1) q2) (.slice c1 g1.length o1) (.slice c2 q2.length o2)) := (M20.out).keep c
  clear c
  clear C20 A20 V20 W20 D20 M20
  have HUS : Hid (P.Like us ps) := hus
  have HA17 : Hid (P.LandAt w17 gs us f1 f2) := hA17
  clear hus hA17
  go_wp2_with fail
  refine (W.to_in3 (i3.keep C21.out) lw).mono ?_
  rintro e w18 ⟨rfl, hr8, th8, hz8, c⟩
  obtain ⟨wv, hwv⟩ : ∃ wv, wv = w17.heap.size := ⟨_, rfl⟩
  rw [← hwv] at hr8 th8 hz8 ⊢
  have SRC18 : Hid (W.Src w18 (some ⟨wv, 0, none⟩) ws.length ws) := Or.inr ⟨wv, rfl, hz8, hr8⟩
  have HA18 : Hid (P.LandAt w18 gs us f1 f2) := HA17.out.keep c
  have C22 : Hid (Below w.heap.size w w18) := bl_trans C21.out c
  have A22 : Hid (Bo w18 w.heap.size #[.int .i64 t, v1, v2]) := (A21.out).keep c
  have V22 : Hid (LdO w18 w4.heap.size g1 q1 (.slice a1 g1.length p1) (.slice a2 q1.length p2)) := (V21.out).keep c
  have W22 : Hid (Bo w18 w5.heap.size #[.int .i64 t1, .slice a1 g1.length p1, .slice a2 q1.length p2]) := (W21.out).keep c
  have D22 : Hid (Bo w18 w8.heap.size #[.int .i64 t1, .slice c1 g1.length o1, .slice c2 q2.length o2]) := (D21.out).keep c
  have M22 : Hid (LdO w18 w7.heap.size (markGs 1 g1) (markPs (endG 1 g1) q2) (.slice c1 g1.length o1) (.slice c2 q2.length o2)) := (M21.out).keep c
  clear c
  clear C21 A21 V21 W21 D21 M21
  clear hr8 th8 hz8 hwv HA17
  go_wp2_with fail
  refine (implPut hK1 hS1k hK2 hS2k t gs us f1 f2 b _ _ ws w18 HA18.out (HF.out.like HUS.out) SRC18.out hbm (Nat.le_refl _) HWF.out lw r0 r1 r2 (HE.out.keep C22.out)).mono ?_
  rintro e w19 ⟨⟨t3, g3, q3, y1, y2, cd3, rfl, hS3, hT3⟩, c⟩
  have C23 : Hid (Below w.heap.size w w19) := bl_trans C22.out c
  have A23 : Hid (Bo w19 w.heap.size #[.int .i64 t, v1, v2]) := (A22.out).keep c
  have V23 : Hid (LdO w19 w4.heap.size g1 q1 (.slice a1 g1.length p1) (.slice a2 q1.length p2)) := (V22.out).keep c
  have W23 : Hid (Bo w19 w5.heap.size #[.int .i64 t1, .slice a1 g1.length p1, .slice a2 q1.length p2]) := (W22.out).keep c
  have D23 : Hid (Bo w19 w8.heap.size #[.int .i64 t1, .slice c1 g1.length o1, .slice c2 q2.length o2]) := (D22.out).keep c
  have M23 : Hid (LdO w19 w7.heap.size (markGs 1 g1) (markPs (endG 1 g1) q2) (.slice c1 g1.length o1) (.slice c2 q2.length o2)) := (M22.out).keep c
  clear c
  clear C22 A22 V22 W22 D22 M22
  clear HA18 SRC18
  obtain ⟨et, eg, hlq, ec⟩ := put_one (HZS.out.trans HUS.out.symm) HS1.out hS3
  subst et eg ec
  obtain ⟨j1, k1, rfl⟩ := G.Sl.shape hT3.g
  obtain ⟨j2, k2, hs2⟩ := Pr.Sl.shape hT3.p.o
  rw [List.length_map] at hs2
  subst hs2
  have BD3 : Hid (SmallP g1 q3) := hS3.small
  have LQ3 : Hid (P.Like q3 q1) := hlq.symm
  have H23 : Hid (LdO w19 w18.heap.size g1 q3 (.slice j1 g1.length k1) (.slice j2 q3.length k2)) := hT3
  clear hS3 hT3 hlq
  obtain ⟨Y19, hY19⟩ : ∃ Y, Y = w19.alloc (.cells #[.int .i64 t1, .slice j1 g1.length k1, .slice j2 q3.length k2] 32) := ⟨_, rfl⟩
  have HY19 : Hid (Y19 = w19.alloc (.cells #[.int .i64 t1, .slice j1 g1.length k1, .slice j2 q3.length k2] 32)) := hY19
  have cY : Below w19.heap.size w19 Y19 := by rw [hY19]; exact bl_alloc (Below.refl _ _) _
  have C24 : Hid (Below w.heap.size w Y19) := bl_trans C23.out cY
  have A24 : Hid (Bo Y19 w.heap.size #[.int .i64 t, v1, v2]) := (A23.out).keep cY
  have V24 : Hid (LdO Y19 w4.heap.size g1 q1 (.slice a1 g1.length p1) (.slice a2 q1.length p2)) := (V23.out).keep cY
  have W24 : Hid (Bo Y19 w5.heap.size #[.int .i64 t1, .slice a1 g1.length p1, .slice a2 q1.length p2]) := (W23.out).keep cY
  have D24 : Hid (Bo Y19 w8.heap.size #[.int .i64 t1, .slice c1 g1.length o1, .slice c2 q2.length o2]) := (D23.out).keep cY
  have M24 : Hid (LdO Y19 w7.heap.size (markGs 1 g1) (markPs (endG 1 g1) q2) (.slice c1 g1.length o1) (.slice c2 q2.length o2)) := (M23.out).keep cY
  have H24 : Hid (LdO Y19 w18.heap.size g1 q3 (.slice j1 g1.length k1) (.slice j2 q3.length k2)) := (H23.out).keep cY
  have U24 : Hid (Bo Y19 w19.heap.size #[.int .i64 t1, .slice j1 g1.length k1, .slice j2 q3.length k2]) := by rw [hY19]; exact Bo.new _ _ _
  have ZY19 : Hid (Y19.heap.size = w19.heap.size + 1) := by rw [hY19]; show _ = _; simp
  clear cY
  clear C23 A23 V23 W23 D23 M23 H23
  have kw : ∀ k, (w19.alloc (.cells #[.int .i64 t1, .slice j1 g1.length k1, .slice j2 q3.length k2] 32)).cell? ⟨w5.heap.size, k, none⟩ = (#[.int .i64 t1, .slice a1 g1.length p1, .slice a2 q1.length p2] : Array Value)[k]? := by rw [← hY19]; exact W24.out.c
  clear hY19
  go_wp2_with fail
  clear kw
  rw [← HY19.out]
  refine (eqLand_o t1 g1 _ q1 _ _ _ _ _ _ Y19 H24.out V24.out LQ3.out BD3.out.a BD3.out.b BD3.out.c).mono ?_
  rintro e w20 ⟨rfl, c⟩
  have C25 : Hid (Below w.heap.size w w20) := bl_trans C24.out c
  have A25 : Hid (Bo w20 w.heap.size #[.int .i64 t, v1, v2]) := (A24.out).keep c
  have V25 : Hid (LdO w20 w4.heap.size g1 q1 (.slice a1 g1.length p1) (.slice a2 q1.length p2)) := (V24.out).keep c
  have W25 : Hid (Bo w20 w5.heap.size #[.int .i64 t1, .slice a1 g1.length p1, .slice a2 q1.length p2]) := (W24.out).keep c
  have D25 : Hid (Bo w20 w8.heap.size #[.int .i64 t1, .slice c1 g1.length o1, .slice c2 q2.length o2]) := (D24.out).keep c
  have M25 : Hid (LdO w20 w7.heap.size (markGs 1 g1) (markPs (endG 1 g1) q2) (.slice c1 g1.length o1) (.slice c2 q2.length o2)) := (M24.out).keep c
  have H25 : Hid (LdO w20 w18.heap.size g1 q3 (.slice j1 g1.length k1) (.slice j2 q3.length k2)) := (H24.out).keep c
  have U25 : Hid (Bo w20 w19.heap.size #[.int .i64 t1, .slice j1 g1.length k1, .slice j2 q3.length k2]) := (U24.out).keep c
  clear c
  clear C24 A24 V24 W24 D24 M24 H24 U24
  clear H25 U25
  have kz := D25.out.c
  go_wp2_with fail
  clear kz
  refine (heldLand_o t1 g1 q2 _ _ _ 1 _ M25.out BD2.out.a BD2.out.b BD2.out.c (by omega) (by omega)).mono ?_
  rintro e w21 ⟨he, c⟩
  rw [← HM1.out] at he
  subst he
  have C26 : Hid (Below w.heap.size w w21) := bl_trans C25.out c
  have A26 : Hid (Bo w21 w.heap.size #[.int .i64 t, v1, v2]) := (A25.out).keep c
  have V26 : Hid (LdO w21 w4.heap.size g1 q1 (.slice a1 g1.length p1) (.slice a2 q1.length p2)) := (V25.out).keep c
  have W26 : Hid (Bo w21 w5.heap.size #[.int .i64 t1, .slice a1 g1.length p1, .slice a2 q1.length p2]) := (W25.out).keep c
  have D26 : Hid (Bo w21 w8.heap.size #[.int .i64 t1, .slice c1 g1.length o1, .slice c2 q2.length o2]) := (D25.out).keep c
  have M26 : Hid (LdO w21 w7.heap.size (markGs 1 g1) (markPs (endG 1 g1) q2) (.slice c1 g1.length o1) (.slice c2 q2.length o2)) := (M25.out).keep c
  clear c
  clear C25 A25 V25 W25 D25 M25
  go_wp2
  go_ret
  exact ⟨rfl, C26.out⟩
end Go.Proofs.YtefiiobdlfdbjaaGreatDoor
