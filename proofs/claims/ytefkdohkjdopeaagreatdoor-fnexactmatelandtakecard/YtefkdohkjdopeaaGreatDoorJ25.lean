import Derived.Test.YtefkdohkjdopeaaGreatDoorJ23
import Derived.Test.YtefkdohkjdopeaaGreatDoorJ24
namespace Go.Proofs.YtefkdohkjdopeaaGreatDoor
open Go.RowKit Go.Maps Go.WideMaps
set_option linter.unusedVariables false
def arr3 (p : TakeP) : Array Value := #[.int .i64 3, .string p.b, .int .i64 0, .slice none 0 0, .string p.h, .string p.c, .int .i64 p.t]
theorem bld3 (p : TakeP) (w : World) : Sem.run Tryz.prog (Instr.buildSlice 35 1 #[(0, .agg #[.int .i64 3, .string p.b, .int .i64 0, .slice none 0 0, .string p.h, .string p.c, .int .i64 p.t])]) w = .ok (.slice (some ⟨w.heap.size, 0, none⟩) 1 1) (w.alloc (.cells (arr3 p) 41)) := by kernel_rfl
theorem grown_drewN (w : World) (n : Nat) {row : Option Nat} : w.grownBy (w.drewN n) row := ⟨rfl, rfl, rfl, Nat.le_refl _, fun _ _ _ => rfl⟩
def ErrAt (w : World) (n : Nat) : Prop := ∃ te pe, w.cell? ⟨n, 0, none⟩ = some (.iface te pe)
def GiveOk (t : Int) (p : TakeP) (gs : List G.GrantD) (ps : List P.PlaceD) : Prop := wantedL p ps = true ∧ mayG t p gs = true ∧ roomG p.h (leftG t p.h gs) = true
def slGi : Nat → Nat
 | 0 => 25
 | 1 => 26
 | 2 => 27
 | 3 => 28
 | 4 => 29
 | 5 => 30
 | 6 => 31
 | 7 => 32
 | 8 => 33
 | 9 => 34
 | 10 => 35
 | 11 => 36
 | 12 => 37
 | 13 => 38
 | 14 => 39
 | 15 => 40
 | 16 => 41
 | 17 => 42
 | 18 => 43
 | 19 => 44
 | 20 => 100020
 | _ => 0
theorem slGi_inj (i : Nat) (hi : i < 21) : ∀ j, j < 21 → slGi j = slGi i → j = i := by
 have h : ∀ a : _root_.Fin 21, ∀ b : _root_.Fin 21, slGi b.1 = slGi a.1 → b.1 = a.1 := by decide +kernel
 intro j hj e
 exact h ⟨i, hi⟩ ⟨j, hj⟩ e
theorem slGi_far : ∀ j, j < 100000 → (j < 25 ∨ 25 + 20 ≤ j) → ∀ i, i < 21 → slGi i ≠ j := by
 intro j h1 h2 i hi
 match i, hi with
 | 0, _ => show 25 ≠ j; omega
 | 1, _ => show 26 ≠ j; omega
 | 2, _ => show 27 ≠ j; omega
 | 3, _ => show 28 ≠ j; omega
 | 4, _ => show 29 ≠ j; omega
 | 5, _ => show 30 ≠ j; omega
 | 6, _ => show 31 ≠ j; omega
 | 7, _ => show 32 ≠ j; omega
 | 8, _ => show 33 ≠ j; omega
 | 9, _ => show 34 ≠ j; omega
 | 10, _ => show 35 ≠ j; omega
 | 11, _ => show 36 ≠ j; omega
 | 12, _ => show 37 ≠ j; omega
 | 13, _ => show 38 ≠ j; omega
 | 14, _ => show 39 ≠ j; omega
 | 15, _ => show 40 ≠ j; omega
 | 16, _ => show 41 ≠ j; omega
 | 17, _ => show 42 ≠ j; omega
 | 18, _ => show 43 ≠ j; omega
 | 19, _ => show 44 ≠ j; omega
 | 20, _ => show 100020 ≠ j; omega
 | m + 21, h => exact absurd h (by omega)
def GGi (d pb m1 : Nat) (t : Int) (p : TakeP) (L : Array Bool) (w : World) : Nat → Value → Prop
 | 0, v => v = .pointer (some ⟨d, 0, none⟩)
 | 1, v => v = .pointer (some ⟨d, 0, none⟩)
 | 2, v => v = .pointer (some ⟨d, 1, none⟩)
 | 3, v => v = .map (some m1)
 | 4, v => v = .pointer (some ⟨pb, 4, none⟩)
 | 5, v => v = .string p.h
 | 6, v => v = .pointer (some ⟨pb, 4, none⟩)
 | 7, v => v = .string p.h
 | 8, v => v = .pointer (some ⟨pb, 1, none⟩)
 | 9, v => v = .string p.b
 | 10, v => v = .pointer (some ⟨pb, 5, none⟩)
 | 11, v => v = .string p.c
 | 12, v => v = .pointer (some ⟨pb, 6, none⟩)
 | 13, v => v = .int .i64 p.t
 | 14, v => v = .pointer (some ⟨d, 0, none⟩)
 | 15, v => v = .pointer (some ⟨d, 0, none⟩)
 | 16, v => v = .pointer (some ⟨d, 0, none⟩)
 | 17, v => v = .int .i64 t
 | 18, v => v = .int .i64 (t + 32)
 | 19, v => v = .agg #[.string p.h, .string p.b, .string p.c, .int .i64 p.t, .int .i64 (t + 32)]
 | 20, v => True
 | _, _ => True
theorem GGi.keep {d pb m1 : Nat} {t : Int} {p : TakeP} {L L' : Array Bool} {w w' : World}  : ∀ j v, GGi d pb m1 t p L w j v → GGi d pb m1 t p L' w' j v
 | 0, _, h => h
 | 1, _, h => h
 | 2, _, h => h
 | 3, _, h => h
 | 4, _, h => h
 | 5, _, h => h
 | 6, _, h => h
 | 7, _, h => h
 | 8, _, h => h
 | 9, _, h => h
 | 10, _, h => h
 | 11, _, h => h
 | 12, _, h => h
 | 13, _, h => h
 | 14, _, h => h
 | 15, _, h => h
 | 16, _, h => h
 | 17, _, h => h
 | 18, _, h => h
 | 19, _, h => h
 | 20, _, h => h
 | _ + 21, _, h => h
def DGi (m1 : Nat) (r : G.GrantD) (lg : List G.GrantD) (Y : World) (L : Array Bool) (w : World) : Prop := (L.getD 20 false = false → Below Y.heap.size Y w) ∧ (L.getD 20 false = true → Y.grownBy w (some m1) ∧ ∃ n, w.ownsMap Tryz.prog 9 G.RV m1 n (G.dec (Ord.insS G.keyV r lg)))
theorem DGi.keep {m1 : Nat} {r : G.GrantD} {lg : List G.GrantD} {Y : World} {L : Array Bool} {w : World} {i : Nat} (hd : DGi m1 r lg Y L w) (hi : 20 ≠ i) : DGi m1 r lg Y (L.setIfInBounds i true) w := by
 unfold DGi
 rw [setT_ne hi]
 exact hd
set_option maxRecDepth 4000 in
set_option maxHeartbeats 4000000 in
theorem give_any (d m1 m2 n : Nat) (t : Int) (p : TakeP) (s : Int) (a : Option Addr) (nw cw : Nat) (gs : List G.GrantD) (ps : List P.PlaceD) (w : World) (hB : Book w d t m1 m2 gs (ps.map Pr.raw)) (hn : n ≤ 1048576) (hown : w.ownsMap Tryz.prog 9 G.RV m1 n (G.dec gs)) (hd : d ≠ m1) (hsg : G.Srt gs) (hgl : gs.length ≤ 1048576) (hgf : ∀ g ∈ gs, g.h.size ≤ maxLen) (hs : Ord.Srt keyP ps) (hsrc : ∀ q ∈ ps, W.Src w q.a q.c q.ws) (hln : ∀ q ∈ ps, q.ws.length ≤ 1048576) (hf : p.fits) (ht : 0 ≤ t ∧ t ≤ 2000000)
  (hE3 : ∀ y, w.grownBy y (some m1) → ErrAt y 3) (hE4 : ∀ y, w.grownBy y (some m1) → ErrAt y 4) (hE5 : ∀ y, w.grownBy y (some m1) → ErrAt y 5) :
  Calls Tryz.prog 56 #[.pointer (some ⟨d, 0, none⟩), .agg #[.int .i64 p.k, .string p.b, .int .i64 s, .slice a nw cw, .string p.h, .string p.c, .int .i64 p.t]] w fun e w' => (∃ v er, e = .returned (.tuple #[v, er]) ∧ ((GiveOk t p gs ps ∧ er = .nilIface ∧ ∃ g9, v = .slice (some ⟨g9, 0, none⟩) 1 1 ∧ w.heap.size ≤ g9 ∧ w'.heap[g9]? = some (.cells (arr3 p) 41 (0, 0)) ∧ Book w' d t m1 m2 (Ord.insS G.keyV (newG t p) (leftG t p.h gs)) (ps.map Pr.raw)) ∨ (¬ GiveOk t p gs ps ∧ v = .slice none 0 0 ∧ ∃ te pe, er = .iface te pe))) ∧ w.grownBy w' (some m1) := by
 obtain ⟨W0, hW0⟩ : ∃ W0, W0 = w.alloc (.cells #[.int .i64 p.k, .string p.b, .int .i64 s, .slice a nw cw, .string p.h, .string p.c, .int .i64 p.t] 41) := ⟨_, rfl⟩
 have HW0 : Hid (W0 = w.alloc (.cells #[.int .i64 p.k, .string p.b, .int .i64 s, .slice a nw cw, .string p.h, .string p.c, .int .i64 p.t] 41)) := hW0
 have B0 : Hid (Below w.heap.size w W0) := by rw [hW0]; exact bl_alloc (Below.refl _ _) _
 obtain ⟨pb, hpb⟩ : ∃ pb, pb = w.heap.size := ⟨_, rfl⟩
 have ZB : Hid (pb < W0.heap.size ∧ pb ≠ m1) := by
  have := hown.lt
  exact ⟨by rw [hW0, hpb]; simp, by omega⟩
 have KP0 : Hid (∀ j, W0.cell? ⟨pb, j, none⟩ = (#[.int .i64 p.k, .string p.b, .int .i64 s, .slice a nw cw, .string p.h, .string p.c, .int .i64 p.t] : Array Value)[j]?) := by
  intro j
  rw [hpb, hW0]
  simp [go_sem]
 have KP : Hid (∀ y, W0.grownBy y (some m1) → ∀ j, y.cell? ⟨pb, j, none⟩ = (#[.int .i64 p.k, .string p.b, .int .i64 s, .slice a nw cw, .string p.h, .string p.c, .int .i64 p.t] : Array Value)[j]?) := fun y hy j =>
  (World.cell?_of_block (w := W0) (a := ⟨pb, j, none⟩) (hy.block pb ZB.out.1 (fun e => ZB.out.2 (Option.some.inj e)))).trans (KP0.out j)
 obtain ⟨lg, hlg⟩ : ∃ lg, lg = leftG t p.h gs := ⟨_, rfl⟩
 have HLG : Hid (lg = leftG t p.h gs) := hlg
 have IW : Hid (Calls Tryz.prog 77 #[.pointer (some ⟨d, 0, none⟩), .agg #[.int .i64 p.k, .string p.b, .int .i64 s, .slice a nw cw, .string p.h, .string p.c, .int .i64 p.t]] W0 fun e w' => e = .returned (.bool (wantedL p ps)) ∧ Below W0.heap.size W0 w') := isWanted_any d m1 m2 t p s a nw cw gs ps W0 (hB.keep B0.out) hs (fun q hq => (hsrc q hq).keep B0.out) hln hf
 have MG : Hid (∀ y, Below W0.heap.size W0 y → Calls Tryz.prog 78 #[.pointer (some ⟨d, 0, none⟩), .agg #[.int .i64 p.k, .string p.b, .int .i64 s, .slice a nw cw, .string p.h, .string p.c, .int .i64 p.t]] y fun e w' => e = .returned (.bool (mayG t p gs)) ∧ Below y.heap.size y w') := fun y hy => mayGive_any d m1 m2 t p s a nw cw gs (ps.map Pr.raw) y (hB.keep (bl_trans B0.out hy)) hsg hf
 have MR : Hid (∀ y, Below W0.heap.size W0 y → Calls Tryz.prog 79 #[.pointer (some ⟨d, 0, none⟩), .string p.h] y fun e w' => e = .returned (.bool (roomG p.h lg)) ∧ Book w' d t m1 m2 lg (ps.map Pr.raw) ∧ w'.ownsMap Tryz.prog 9 G.RV m1 n (G.dec lg) ∧ y.grownBy w' (some m1)) := fun y hy => by
  rw [hlg]
  exact makeRoom_any d m1 m2 n t p.h gs (ps.map Pr.raw) y (hB.keep (bl_trans B0.out hy)) (G.mapv_below hown (bl_trans B0.out hy)) hd hsg hf.h hgl hgf
 have UPD : Hid (∀ y, y.ownsMap Tryz.prog 9 G.RV m1 n (G.dec lg) → ∃ w2 n2, Sem.run Tryz.prog (Instr.mapUpdate 107 (.map (some m1)) (.string p.h) (.agg #[.string p.h, .string p.b, .string p.c, .int .i64 p.t, .int .i64 (t + 32)])) y = .ok () w2 ∧ w2.ownsMap Tryz.prog 9 G.RV m1 n2 (G.dec (Ord.insS G.keyV (newG t p) lg)) ∧ y.grownBy w2 (some m1)) := fun y ho => by
  obtain ⟨w2, h1, h2, h3⟩ := G.mapv_step m1 n lg (newG t p) ho (by unfold maxLen; omega) hf.h
  rw [Ord.ins_insS G.keyV _ lg (by rw [hlg]; exact left_srt hsg)] at h2
  exact ⟨w2, n + 1, h1, h2, h3⟩
 have HE3 : Hid (∀ y, W0.grownBy y (some m1) → ErrAt y 3) := fun y hy => hE3 y ((below_grown B0.out (some m1)).andThen hy (fun j hj => Or.inr hj))
 have HE4 : Hid (∀ y, W0.grownBy y (some m1) → ErrAt y 4) := fun y hy => hE4 y ((below_grown B0.out (some m1)).andThen hy (fun j hj => Or.inr hj))
 have HE5 : Hid (∀ y, W0.grownBy y (some m1) → ErrAt y 5) := fun y hy => hE5 y ((below_grown B0.out (some m1)).andThen hy (fun j hj => Or.inr hj))
 have HD1 : Hid (d ≠ m1) := hd
 have iw : IntKind.i64.wrap (t + 32) = t + 32 := by rw [IntKind.wrap_i64]; omega
 clear hB hs hf hW0 hown hsg hgl hgf hsrc hln hlg hn hd hE3 hE4 hE5
 go_enter Tryz.func56, Tryz.ntmps56
 go_upto_region 1 with fail
 rw [← HW0.out, ← hpb]
 have HPB : Hid (pb = w.heap.size) := hpb
 clear hpb
 have k0 : W0.cell? ⟨pb, 0, none⟩ = some (.int .i64 p.k) := KP0.out 0
 have k1 : W0.cell? ⟨pb, 1, none⟩ = some (.string p.b) := KP0.out 1
 have k2 : W0.cell? ⟨pb, 2, none⟩ = some (.int .i64 s) := KP0.out 2
 have k3 : W0.cell? ⟨pb, 3, none⟩ = some (.slice a nw cw) := KP0.out 3
 have k4 : W0.cell? ⟨pb, 4, none⟩ = some (.string p.h) := KP0.out 4
 have k5 : W0.cell? ⟨pb, 5, none⟩ = some (.string p.c) := KP0.out 5
 have k6 : W0.cell? ⟨pb, 6, none⟩ = some (.int .i64 p.t) := KP0.out 6
 go_wp2_with fail
 clear k0 k1 k2 k3 k4 k5 k6
 refine IW.out.mono ?_
 rintro e w1 ⟨rfl, c1⟩
 have C1 : Hid (Below W0.heap.size W0 w1) := c1
 clear c1
 cases q1 : wantedL p ps
 ·
  have HNO : Hid (¬ GiveOk t p gs ps) := fun h => by have h9 := h.1; rw [q1] at h9; cases h9
  clear q1
  obtain ⟨te, pe, hev⟩ := HE3.out w1 (below_grown C1.out (some m1))
  go_wp2_with fail
  go_quiet (fail)
  go_wp2
  refine bodyPost_ret (v := .tuple #[.slice none 0 0, .iface te pe]) (by simp [results, Tryz.results56, go_sem]) rfl ⟨⟨_, _, rfl, Or.inr ⟨HNO.out, rfl, te, pe, rfl⟩⟩, ?_⟩
  exact ((below_grown B0.out (some m1)).andThen (below_grown C1.out (some m1)) (fun j hj => Or.inr hj)).andThen (grown_drewN _ _) (fun j hj => Or.inr hj)
 ·
  have HQ1 : Hid (wantedL p ps = true) := q1
  clear q1
  have k0 : w1.cell? ⟨pb, 0, none⟩ = some (.int .i64 p.k) := KP.out w1 (below_grown C1.out (some m1)) 0
  have k1 : w1.cell? ⟨pb, 1, none⟩ = some (.string p.b) := KP.out w1 (below_grown C1.out (some m1)) 1
  have k2 : w1.cell? ⟨pb, 2, none⟩ = some (.int .i64 s) := KP.out w1 (below_grown C1.out (some m1)) 2
  have k3 : w1.cell? ⟨pb, 3, none⟩ = some (.slice a nw cw) := KP.out w1 (below_grown C1.out (some m1)) 3
  have k4 : w1.cell? ⟨pb, 4, none⟩ = some (.string p.h) := KP.out w1 (below_grown C1.out (some m1)) 4
  have k5 : w1.cell? ⟨pb, 5, none⟩ = some (.string p.c) := KP.out w1 (below_grown C1.out (some m1)) 5
  have k6 : w1.cell? ⟨pb, 6, none⟩ = some (.int .i64 p.t) := KP.out w1 (below_grown C1.out (some m1)) 6
  go_wp2_with fail
  clear k0 k1 k2 k3 k4 k5 k6
  refine (MG.out w1 C1.out).mono ?_
  rintro e w2 ⟨rfl, c2⟩
  have C2 : Hid (Below W0.heap.size W0 w2) := bl_trans C1.out c2
  clear c2
  cases q2 : mayG t p gs
  ·
   have HNO : Hid (¬ GiveOk t p gs ps) := fun h => by have h9 := h.2.1; rw [q2] at h9; cases h9
   clear q2
   obtain ⟨te, pe, hev⟩ := HE4.out w2 (below_grown C2.out (some m1))
   go_wp2_with fail
   go_quiet (fail)
   go_wp2
   refine bodyPost_ret (v := .tuple #[.slice none 0 0, .iface te pe]) (by simp [results, Tryz.results56, go_sem]) rfl ⟨⟨_, _, rfl, Or.inr ⟨HNO.out, rfl, te, pe, rfl⟩⟩, ?_⟩
   exact ((below_grown B0.out (some m1)).andThen (below_grown C2.out (some m1)) (fun j hj => Or.inr hj)).andThen (grown_drewN _ _) (fun j hj => Or.inr hj)
  ·
   have HQ2 : Hid (mayG t p gs = true) := q2
   clear q2
   have k4 : w2.cell? ⟨pb, 4, none⟩ = some (.string p.h) := KP.out w2 (below_grown C2.out (some m1)) 4
   go_wp2_with fail
   clear k4
   refine (MR.out w2 C2.out).mono ?_
   rintro e w3 ⟨rfl, b3, o3, g3⟩
   have B3 : Hid (Book w3 d t m1 m2 lg (ps.map Pr.raw)) := b3
   have O3 : Hid (w3.ownsMap Tryz.prog 9 G.RV m1 n (G.dec lg)) := o3
   have G3 : Hid (W0.grownBy w3 (some m1)) := (below_grown C2.out (some m1)).andThen g3 (fun j hj => Or.inr hj)
   clear b3 o3 g3
   cases q3 : roomG p.h lg
   ·
    have HNO : Hid (¬ GiveOk t p gs ps) := fun h => by have h3 := h.2.2; rw [← HLG.out, q3] at h3; cases h3
    clear q3
    obtain ⟨te, pe, hev⟩ := HE5.out w3 (G3.out)
    go_wp2_with fail
    go_quiet (fail)
    go_wp2
    refine bodyPost_ret (v := .tuple #[.slice none 0 0, .iface te pe]) (by simp [results, Tryz.results56, go_sem]) rfl ⟨⟨_, _, rfl, Or.inr ⟨HNO.out, rfl, te, pe, rfl⟩⟩, ?_⟩
    exact ((below_grown B0.out (some m1)).andThen (G3.out) (fun j hj => Or.inr hj)).andThen (grown_drewN _ _) (fun j hj => Or.inr hj)
   ·
    have HYES : Hid (GiveOk t p gs ps) := ⟨HQ1.out, HQ2.out, by rw [← HLG.out]; exact q3⟩
    clear q3
    obtain ⟨Y, hY⟩ : ∃ Y : World, Y = w3 := ⟨_, rfl⟩
    subst hY
    have KD : Hid (∀ y, Below Y.heap.size Y y → ∀ j, y.cell? ⟨d, j, none⟩ = (#[.int .i64 t, .map (some m1), .map (some m2)] : Array Value)[j]?) := fun y hy => (B3.out.keep hy).c
    have KPY : Hid (∀ y, Below Y.heap.size Y y → ∀ j, y.cell? ⟨pb, j, none⟩ = (#[.int .i64 p.k, .string p.b, .int .i64 s, .slice a nw cw, .string p.h, .string p.c, .int .i64 p.t] : Array Value)[j]?) := fun y hy => KP.out y (G3.out.andThen (below_grown hy (some m1)) (fun j hj => Or.inr hj))
    have UP : Hid (∀ y, Below Y.heap.size Y y → ∃ w2 n2, Sem.run Tryz.prog (Instr.mapUpdate 107 (.map (some m1)) (.string p.h) (.agg #[.string p.h, .string p.b, .string p.c, .int .i64 p.t, .int .i64 (t + 32)])) y = .ok () w2 ∧ w2.ownsMap Tryz.prog 9 G.RV m1 n2 (G.dec (Ord.insS G.keyV (newG t p) lg)) ∧ y.grownBy w2 (some m1)) := fun y hy => UPD.out y (G.mapv_below O3.out hy)
    go_wp2_with fail
    refine wp_region_any (by kernel_rfl) ?_
    refine reg_invG slGi 21 (GGi d pb m1 t p) (DGi m1 (newG t p) lg Y) (by decide) rfl ⟨fun _ => bl_drew (Below.refl _ _), fun e => by cases e⟩ ?done ?step
    case done =>
     intro L a y hL hdf hsz hout hG hD
     obtain ⟨hg3, n3, ho3⟩ := hD.2 (hL 20 (by omega))
     have HG4 : Hid (W0.grownBy y (some m1)) := G3.out.andThen hg3 (fun j hj => Or.inr hj)
     have HB4 : Hid (Book y d t m1 m2 (Ord.insS G.keyV (newG t p) lg) (ps.map Pr.raw)) := book_grants B3.out HD1.out hg3 ho3
     clear hG hD hL hg3 ho3
     obtain ⟨l', hl', ha⟩ := frameP_of (lo := 25) (n := 20) hdf hsz (fun j hj => by
      by_cases hj9 : j < 100000
      ·
       exact hout j (fun i hi => slGi_far j hj9 hj i hi)
      ·
       rw [Array.getD_eq_getD_getElem?, Array.getD_eq_getD_getElem?, Array.getElem?_eq_none (Nat.le_trans (Nat.le_of_eq hsz) (Nat.le_trans (Nat.le_of_ble_eq_true rfl) (Nat.le_of_not_lt hj9))), Array.getElem?_eq_none (Nat.le_trans (Nat.le_of_ble_eq_true rfl) (Nat.le_of_not_lt hj9))]) (Nat.le_of_ble_eq_true rfl)
     subst ha
     obtain ⟨s0, sl0, rfl, sh0⟩ := lenP_succ hl'
     obtain ⟨s1, sl1, rfl, sh1⟩ := lenP_succ sh0
     obtain ⟨s2, sl2, rfl, sh2⟩ := lenP_succ sh1
     obtain ⟨s3, sl3, rfl, sh3⟩ := lenP_succ sh2
     obtain ⟨s4, sl4, rfl, sh4⟩ := lenP_succ sh3
     obtain ⟨s5, sl5, rfl, sh5⟩ := lenP_succ sh4
     obtain ⟨s6, sl6, rfl, sh6⟩ := lenP_succ sh5
     obtain ⟨s7, sl7, rfl, sh7⟩ := lenP_succ sh6
     obtain ⟨s8, sl8, rfl, sh8⟩ := lenP_succ sh7
     obtain ⟨s9, sl9, rfl, sh9⟩ := lenP_succ sh8
     obtain ⟨s10, sl10, rfl, sh10⟩ := lenP_succ sh9
     obtain ⟨s11, sl11, rfl, sh11⟩ := lenP_succ sh10
     obtain ⟨s12, sl12, rfl, sh12⟩ := lenP_succ sh11
     obtain ⟨s13, sl13, rfl, sh13⟩ := lenP_succ sh12
     obtain ⟨s14, sl14, rfl, sh14⟩ := lenP_succ sh13
     obtain ⟨s15, sl15, rfl, sh15⟩ := lenP_succ sh14
     obtain ⟨s16, sl16, rfl, sh16⟩ := lenP_succ sh15
     obtain ⟨s17, sl17, rfl, sh17⟩ := lenP_succ sh16
     obtain ⟨s18, sl18, rfl, sh18⟩ := lenP_succ sh17
     obtain ⟨s19, sl19, rfl, sh19⟩ := lenP_succ sh18
     obtain rfl := lenP_zero sh19
     clear hdf hsz hout
     simp only [List.take_succ_cons, List.take_zero, List.drop_succ_cons, List.drop_zero, List.cons_append, List.nil_append, Nat.reduceAdd]
     have p1 : y.cell? ⟨pb, 1, none⟩ = some (.string p.b) := KP.out y HG4.out 1
     have p4 : y.cell? ⟨pb, 4, none⟩ = some (.string p.h) := KP.out y HG4.out 4
     have p5 : y.cell? ⟨pb, 5, none⟩ = some (.string p.c) := KP.out y HG4.out 5
     have p6 : y.cell? ⟨pb, 6, none⟩ = some (.int .i64 p.t) := KP.out y HG4.out 6
     have hb := bld3 p
     go_wp2
     refine bodyPost_ret (v := .tuple #[.slice (some ⟨y.heap.size, 0, none⟩) 1 1, .nilIface]) (by simp [results, Tryz.results56, go_sem]) rfl ⟨⟨_, _, rfl, Or.inl ⟨HYES.out, rfl, y.heap.size, rfl, ?_, heap_alloc_newL y _, ?_⟩⟩, ?_⟩
     ·
      have h1 := HG4.out.size
      have h2 := B0.out.size
      omega
     ·
      rw [← HLG.out]
      exact Book.keep HB4.out (bl_alloc (Below.refl _ _) _)
     ·
      exact ((below_grown B0.out (some m1)).andThen HG4.out (fun j hj => Or.inr hj)).andThen (World.grownBy_alloc y _ none) (fun j hj => by cases hj)
    case step =>
     intro listed x y i hI hi hlt
     obtain rfl | rfl | rfl | rfl | rfl | rfl | rfl | rfl | rfl | rfl | rfl | rfl | rfl | rfl | rfl | rfl | rfl | rfl | rfl | rfl | rfl : i = 0 ∨ i = 1 ∨ i = 2 ∨ i = 3 ∨ i = 4 ∨ i = 5 ∨ i = 6 ∨ i = 7 ∨ i = 8 ∨ i = 9 ∨ i = 10 ∨ i = 11 ∨ i = 12 ∨ i = 13 ∨ i = 14 ∨ i = 15 ∨ i = 16 ∨ i = 17 ∨ i = 18 ∨ i = 19 ∨ i = 20 := by omega
     ·
      have ho := ready_open hi
      have h6 : listed.getD 20 false = false := noT (fun h => openT ho (hI.tr 1 0 (by rfl) (hI.tr 2 1 (by rfl) (hI.tr 3 2 (by rfl) (hI.tr 20 3 (by rfl) h)))))
      have hb6 : Below Y.heap.size Y y := hI.d.1 h6
      have e1 : x.tmps[0]?.getD undef = .pointer (some ⟨d, 0, none⟩) := ev_tmp (hI.out 0 (fun i hi => slGi_far 0 (by omega) (by omega) i hi))
      have HLZ : Hid (listed.size = 21) := hI.lz
      have HD : Hid (DGi m1 (newG t p) lg Y listed y) := hI.d
      have HB6 : Hid (Below Y.heap.size Y y) := hb6
      clear hb6
      have HJ : Hid (Ig _ _ _ _ _ _ _ _ _) := hI
      have HI : Hid (_ ∈ Region.ready _ _ _) := hi
      have HO : Hid (_ = false) := ho
      clear hi hI ho
      refine wpOp_plain rfl rfl ?_
      refine wp_cover (fun K hK => ?_)
      go_simp
      exact hK.out _ _ (HJ.out.put HI.out (by omega) (Nat.le_of_ble_eq_true rfl) (slGi_inj _ (by omega)) (rfl) (fun j u _ _ _ _ h => GGi.keep j u h) (HD.out.keep (by decide)))
     ·
      have ho := ready_open hi
      have h6 : listed.getD 20 false = false := noT (fun h => openT ho (hI.tr 2 1 (by rfl) (hI.tr 3 2 (by rfl) (hI.tr 20 3 (by rfl) h))))
      have hb6 : Below Y.heap.size Y y := hI.d.1 h6
      have gf0 : GGi d pb m1 t p listed y 0 (x.tmps.getD 25 undef) := hI.good 0 (by omega) (waits_of hi (by rfl))
      have e1 : x.tmps[25]?.getD undef = .pointer (some ⟨d, 0, none⟩) := ev_tmp gf0
      have HLZ : Hid (listed.size = 21) := hI.lz
      have HD : Hid (DGi m1 (newG t p) lg Y listed y) := hI.d
      have HB6 : Hid (Below Y.heap.size Y y) := hb6
      clear hb6
      have HJ : Hid (Ig _ _ _ _ _ _ _ _ _) := hI
      have HI : Hid (_ ∈ Region.ready _ _ _) := hi
      have HO : Hid (_ = false) := ho
      clear hi hI ho
      refine wpOp_plain rfl rfl ?_
      refine wp_cover (fun K hK => ?_)
      go_simp
      exact hK.out _ _ (HJ.out.put HI.out (by omega) (Nat.le_of_ble_eq_true rfl) (slGi_inj _ (by omega)) (rfl) (fun j u _ _ _ _ h => GGi.keep j u h) (HD.out.keep (by decide)))
     ·
      have ho := ready_open hi
      have h6 : listed.getD 20 false = false := noT (fun h => openT ho (hI.tr 3 2 (by rfl) (hI.tr 20 3 (by rfl) h)))
      have hb6 : Below Y.heap.size Y y := hI.d.1 h6
      have gf1 : GGi d pb m1 t p listed y 1 (x.tmps.getD 26 undef) := hI.good 1 (by omega) (waits_of hi (by rfl))
      have e1 : x.tmps[26]?.getD undef = .pointer (some ⟨d, 0, none⟩) := ev_tmp gf1
      have HLZ : Hid (listed.size = 21) := hI.lz
      have HD : Hid (DGi m1 (newG t p) lg Y listed y) := hI.d
      have HB6 : Hid (Below Y.heap.size Y y) := hb6
      clear hb6
      have HJ : Hid (Ig _ _ _ _ _ _ _ _ _) := hI
      have HI : Hid (_ ∈ Region.ready _ _ _) := hi
      have HO : Hid (_ = false) := ho
      clear hi hI ho
      refine wpOp_plain rfl rfl ?_
      refine wp_cover (fun K hK => ?_)
      go_simp
      exact hK.out _ _ (HJ.out.put HI.out (by omega) (Nat.le_of_ble_eq_true rfl) (slGi_inj _ (by omega)) (rfl) (fun j u _ _ _ _ h => GGi.keep j u h) (HD.out.keep (by decide)))
     ·
      have ho := ready_open hi
      have h6 : listed.getD 20 false = false := noT (fun h => openT ho (hI.tr 20 3 (by rfl) h))
      have hb6 : Below Y.heap.size Y y := hI.d.1 h6
      have gf2 : GGi d pb m1 t p listed y 2 (x.tmps.getD 27 undef) := hI.good 2 (by omega) (waits_of hi (by rfl))
      have e1 : x.tmps[27]?.getD undef = .pointer (some ⟨d, 1, none⟩) := ev_tmp gf2
      have k1 : y.cell? ⟨d, 1, none⟩ = some (.map (some m1)) := KD.out y hb6 1
      have HLZ : Hid (listed.size = 21) := hI.lz
      have HD : Hid (DGi m1 (newG t p) lg Y listed y) := hI.d
      have HB6 : Hid (Below Y.heap.size Y y) := hb6
      clear hb6
      have HJ : Hid (Ig _ _ _ _ _ _ _ _ _) := hI
      have HI : Hid (_ ∈ Region.ready _ _ _) := hi
      have HO : Hid (_ = false) := ho
      clear hi hI ho
      refine wpOp_plain rfl rfl ?_
      refine wp_cover (fun K hK => ?_)
      go_simp
      exact hK.out _ _ (HJ.out.put HI.out (by omega) (Nat.le_of_ble_eq_true rfl) (slGi_inj _ (by omega)) (rfl) (fun j u _ _ _ _ h => GGi.keep j u h) (HD.out.keep (by decide)))
     ·
      have ho := ready_open hi
      have h6 : listed.getD 20 false = false := noT (fun h => openT ho (hI.tr 5 4 (by rfl) (hI.tr 20 5 (by rfl) h)))
      have hb6 : Below Y.heap.size Y y := hI.d.1 h6
      have e1 : x.tmps[3]?.getD undef = .pointer (some ⟨pb, 0, none⟩) := ev_tmp (hI.out 3 (fun i hi => slGi_far 3 (by omega) (by omega) i hi))
      have HLZ : Hid (listed.size = 21) := hI.lz
      have HD : Hid (DGi m1 (newG t p) lg Y listed y) := hI.d
      have HB6 : Hid (Below Y.heap.size Y y) := hb6
      clear hb6
      have HJ : Hid (Ig _ _ _ _ _ _ _ _ _) := hI
      have HI : Hid (_ ∈ Region.ready _ _ _) := hi
      have HO : Hid (_ = false) := ho
      clear hi hI ho
      refine wpOp_plain rfl rfl ?_
      refine wp_cover (fun K hK => ?_)
      go_simp
      exact hK.out _ _ (HJ.out.put HI.out (by omega) (Nat.le_of_ble_eq_true rfl) (slGi_inj _ (by omega)) (rfl) (fun j u _ _ _ _ h => GGi.keep j u h) (HD.out.keep (by decide)))
     ·
      have ho := ready_open hi
      have h6 : listed.getD 20 false = false := noT (fun h => openT ho (hI.tr 20 5 (by rfl) h))
      have hb6 : Below Y.heap.size Y y := hI.d.1 h6
      have gf4 : GGi d pb m1 t p listed y 4 (x.tmps.getD 29 undef) := hI.good 4 (by omega) (waits_of hi (by rfl))
      have e1 : x.tmps[29]?.getD undef = .pointer (some ⟨pb, 4, none⟩) := ev_tmp gf4
      have k1 : y.cell? ⟨pb, 4, none⟩ = some (.string p.h) := KPY.out y hb6 4
      have HLZ : Hid (listed.size = 21) := hI.lz
      have HD : Hid (DGi m1 (newG t p) lg Y listed y) := hI.d
      have HB6 : Hid (Below Y.heap.size Y y) := hb6
      clear hb6
      have HJ : Hid (Ig _ _ _ _ _ _ _ _ _) := hI
      have HI : Hid (_ ∈ Region.ready _ _ _) := hi
      have HO : Hid (_ = false) := ho
      clear hi hI ho
      refine wpOp_plain rfl rfl ?_
      refine wp_cover (fun K hK => ?_)
      go_simp
      exact hK.out _ _ (HJ.out.put HI.out (by omega) (Nat.le_of_ble_eq_true rfl) (slGi_inj _ (by omega)) (rfl) (fun j u _ _ _ _ h => GGi.keep j u h) (HD.out.keep (by decide)))
     ·
      have ho := ready_open hi
      have h6 : listed.getD 20 false = false := noT (fun h => openT ho (hI.tr 7 6 (by rfl) (hI.tr 19 7 (by rfl) (hI.tr 20 19 (by rfl) h))))
      have hb6 : Below Y.heap.size Y y := hI.d.1 h6
      have e1 : x.tmps[3]?.getD undef = .pointer (some ⟨pb, 0, none⟩) := ev_tmp (hI.out 3 (fun i hi => slGi_far 3 (by omega) (by omega) i hi))
      have HLZ : Hid (listed.size = 21) := hI.lz
      have HD : Hid (DGi m1 (newG t p) lg Y listed y) := hI.d
      have HB6 : Hid (Below Y.heap.size Y y) := hb6
      clear hb6
      have HJ : Hid (Ig _ _ _ _ _ _ _ _ _) := hI
      have HI : Hid (_ ∈ Region.ready _ _ _) := hi
      have HO : Hid (_ = false) := ho
      clear hi hI ho
      refine wpOp_plain rfl rfl ?_
      refine wp_cover (fun K hK => ?_)
      go_simp
      exact hK.out _ _ (HJ.out.put HI.out (by omega) (Nat.le_of_ble_eq_true rfl) (slGi_inj _ (by omega)) (rfl) (fun j u _ _ _ _ h => GGi.keep j u h) (HD.out.keep (by decide)))
     ·
      have ho := ready_open hi
      have h6 : listed.getD 20 false = false := noT (fun h => openT ho (hI.tr 19 7 (by rfl) (hI.tr 20 19 (by rfl) h)))
      have hb6 : Below Y.heap.size Y y := hI.d.1 h6
      have gf6 : GGi d pb m1 t p listed y 6 (x.tmps.getD 31 undef) := hI.good 6 (by omega) (waits_of hi (by rfl))
      have e1 : x.tmps[31]?.getD undef = .pointer (some ⟨pb, 4, none⟩) := ev_tmp gf6
      have k1 : y.cell? ⟨pb, 4, none⟩ = some (.string p.h) := KPY.out y hb6 4
      have HLZ : Hid (listed.size = 21) := hI.lz
      have HD : Hid (DGi m1 (newG t p) lg Y listed y) := hI.d
      have HB6 : Hid (Below Y.heap.size Y y) := hb6
      clear hb6
      have HJ : Hid (Ig _ _ _ _ _ _ _ _ _) := hI
      have HI : Hid (_ ∈ Region.ready _ _ _) := hi
      have HO : Hid (_ = false) := ho
      clear hi hI ho
      refine wpOp_plain rfl rfl ?_
      refine wp_cover (fun K hK => ?_)
      go_simp
      exact hK.out _ _ (HJ.out.put HI.out (by omega) (Nat.le_of_ble_eq_true rfl) (slGi_inj _ (by omega)) (rfl) (fun j u _ _ _ _ h => GGi.keep j u h) (HD.out.keep (by decide)))
     ·
      have ho := ready_open hi
      have h6 : listed.getD 20 false = false := noT (fun h => openT ho (hI.tr 9 8 (by rfl) (hI.tr 19 9 (by rfl) (hI.tr 20 19 (by rfl) h))))
      have hb6 : Below Y.heap.size Y y := hI.d.1 h6
      have e1 : x.tmps[3]?.getD undef = .pointer (some ⟨pb, 0, none⟩) := ev_tmp (hI.out 3 (fun i hi => slGi_far 3 (by omega) (by omega) i hi))
      have HLZ : Hid (listed.size = 21) := hI.lz
      have HD : Hid (DGi m1 (newG t p) lg Y listed y) := hI.d
      have HB6 : Hid (Below Y.heap.size Y y) := hb6
      clear hb6
      have HJ : Hid (Ig _ _ _ _ _ _ _ _ _) := hI
      have HI : Hid (_ ∈ Region.ready _ _ _) := hi
      have HO : Hid (_ = false) := ho
      clear hi hI ho
      refine wpOp_plain rfl rfl ?_
      refine wp_cover (fun K hK => ?_)
      go_simp
      exact hK.out _ _ (HJ.out.put HI.out (by omega) (Nat.le_of_ble_eq_true rfl) (slGi_inj _ (by omega)) (rfl) (fun j u _ _ _ _ h => GGi.keep j u h) (HD.out.keep (by decide)))
     ·
      have ho := ready_open hi
      have h6 : listed.getD 20 false = false := noT (fun h => openT ho (hI.tr 19 9 (by rfl) (hI.tr 20 19 (by rfl) h)))
      have hb6 : Below Y.heap.size Y y := hI.d.1 h6
      have gf8 : GGi d pb m1 t p listed y 8 (x.tmps.getD 33 undef) := hI.good 8 (by omega) (waits_of hi (by rfl))
      have e1 : x.tmps[33]?.getD undef = .pointer (some ⟨pb, 1, none⟩) := ev_tmp gf8
      have k1 : y.cell? ⟨pb, 1, none⟩ = some (.string p.b) := KPY.out y hb6 1
      have HLZ : Hid (listed.size = 21) := hI.lz
      have HD : Hid (DGi m1 (newG t p) lg Y listed y) := hI.d
      have HB6 : Hid (Below Y.heap.size Y y) := hb6
      clear hb6
      have HJ : Hid (Ig _ _ _ _ _ _ _ _ _) := hI
      have HI : Hid (_ ∈ Region.ready _ _ _) := hi
      have HO : Hid (_ = false) := ho
      clear hi hI ho
      refine wpOp_plain rfl rfl ?_
      refine wp_cover (fun K hK => ?_)
      go_simp
      exact hK.out _ _ (HJ.out.put HI.out (by omega) (Nat.le_of_ble_eq_true rfl) (slGi_inj _ (by omega)) (rfl) (fun j u _ _ _ _ h => GGi.keep j u h) (HD.out.keep (by decide)))
     ·
      have ho := ready_open hi
      have h6 : listed.getD 20 false = false := noT (fun h => openT ho (hI.tr 11 10 (by rfl) (hI.tr 19 11 (by rfl) (hI.tr 20 19 (by rfl) h))))
      have hb6 : Below Y.heap.size Y y := hI.d.1 h6
      have e1 : x.tmps[3]?.getD undef = .pointer (some ⟨pb, 0, none⟩) := ev_tmp (hI.out 3 (fun i hi => slGi_far 3 (by omega) (by omega) i hi))
      have HLZ : Hid (listed.size = 21) := hI.lz
      have HD : Hid (DGi m1 (newG t p) lg Y listed y) := hI.d
      have HB6 : Hid (Below Y.heap.size Y y) := hb6
      clear hb6
      have HJ : Hid (Ig _ _ _ _ _ _ _ _ _) := hI
      have HI : Hid (_ ∈ Region.ready _ _ _) := hi
      have HO : Hid (_ = false) := ho
      clear hi hI ho
      refine wpOp_plain rfl rfl ?_
      refine wp_cover (fun K hK => ?_)
      go_simp
      exact hK.out _ _ (HJ.out.put HI.out (by omega) (Nat.le_of_ble_eq_true rfl) (slGi_inj _ (by omega)) (rfl) (fun j u _ _ _ _ h => GGi.keep j u h) (HD.out.keep (by decide)))
     ·
      have ho := ready_open hi
      have h6 : listed.getD 20 false = false := noT (fun h => openT ho (hI.tr 19 11 (by rfl) (hI.tr 20 19 (by rfl) h)))
      have hb6 : Below Y.heap.size Y y := hI.d.1 h6
      have gf10 : GGi d pb m1 t p listed y 10 (x.tmps.getD 35 undef) := hI.good 10 (by omega) (waits_of hi (by rfl))
      have e1 : x.tmps[35]?.getD undef = .pointer (some ⟨pb, 5, none⟩) := ev_tmp gf10
      have k1 : y.cell? ⟨pb, 5, none⟩ = some (.string p.c) := KPY.out y hb6 5
      have HLZ : Hid (listed.size = 21) := hI.lz
      have HD : Hid (DGi m1 (newG t p) lg Y listed y) := hI.d
      have HB6 : Hid (Below Y.heap.size Y y) := hb6
      clear hb6
      have HJ : Hid (Ig _ _ _ _ _ _ _ _ _) := hI
      have HI : Hid (_ ∈ Region.ready _ _ _) := hi
      have HO : Hid (_ = false) := ho
      clear hi hI ho
      refine wpOp_plain rfl rfl ?_
      refine wp_cover (fun K hK => ?_)
      go_simp
      exact hK.out _ _ (HJ.out.put HI.out (by omega) (Nat.le_of_ble_eq_true rfl) (slGi_inj _ (by omega)) (rfl) (fun j u _ _ _ _ h => GGi.keep j u h) (HD.out.keep (by decide)))
     ·
      have ho := ready_open hi
      have h6 : listed.getD 20 false = false := noT (fun h => openT ho (hI.tr 13 12 (by rfl) (hI.tr 19 13 (by rfl) (hI.tr 20 19 (by rfl) h))))
      have hb6 : Below Y.heap.size Y y := hI.d.1 h6
      have e1 : x.tmps[3]?.getD undef = .pointer (some ⟨pb, 0, none⟩) := ev_tmp (hI.out 3 (fun i hi => slGi_far 3 (by omega) (by omega) i hi))
      have HLZ : Hid (listed.size = 21) := hI.lz
      have HD : Hid (DGi m1 (newG t p) lg Y listed y) := hI.d
      have HB6 : Hid (Below Y.heap.size Y y) := hb6
      clear hb6
      have HJ : Hid (Ig _ _ _ _ _ _ _ _ _) := hI
      have HI : Hid (_ ∈ Region.ready _ _ _) := hi
      have HO : Hid (_ = false) := ho
      clear hi hI ho
      refine wpOp_plain rfl rfl ?_
      refine wp_cover (fun K hK => ?_)
      go_simp
      exact hK.out _ _ (HJ.out.put HI.out (by omega) (Nat.le_of_ble_eq_true rfl) (slGi_inj _ (by omega)) (rfl) (fun j u _ _ _ _ h => GGi.keep j u h) (HD.out.keep (by decide)))
     ·
      have ho := ready_open hi
      have h6 : listed.getD 20 false = false := noT (fun h => openT ho (hI.tr 19 13 (by rfl) (hI.tr 20 19 (by rfl) h)))
      have hb6 : Below Y.heap.size Y y := hI.d.1 h6
      have gf12 : GGi d pb m1 t p listed y 12 (x.tmps.getD 37 undef) := hI.good 12 (by omega) (waits_of hi (by rfl))
      have e1 : x.tmps[37]?.getD undef = .pointer (some ⟨pb, 6, none⟩) := ev_tmp gf12
      have k1 : y.cell? ⟨pb, 6, none⟩ = some (.int .i64 p.t) := KPY.out y hb6 6
      have HLZ : Hid (listed.size = 21) := hI.lz
      have HD : Hid (DGi m1 (newG t p) lg Y listed y) := hI.d
      have HB6 : Hid (Below Y.heap.size Y y) := hb6
      clear hb6
      have HJ : Hid (Ig _ _ _ _ _ _ _ _ _) := hI
      have HI : Hid (_ ∈ Region.ready _ _ _) := hi
      have HO : Hid (_ = false) := ho
      clear hi hI ho
      refine wpOp_plain rfl rfl ?_
      refine wp_cover (fun K hK => ?_)
      go_simp
      exact hK.out _ _ (HJ.out.put HI.out (by omega) (Nat.le_of_ble_eq_true rfl) (slGi_inj _ (by omega)) (rfl) (fun j u _ _ _ _ h => GGi.keep j u h) (HD.out.keep (by decide)))
     ·
      have ho := ready_open hi
      have h6 : listed.getD 20 false = false := noT (fun h => openT ho (hI.tr 15 14 (by rfl) (hI.tr 16 15 (by rfl) (hI.tr 17 16 (by rfl) (hI.tr 18 17 (by rfl) (hI.tr 19 18 (by rfl) (hI.tr 20 19 (by rfl) h)))))))
      have hb6 : Below Y.heap.size Y y := hI.d.1 h6
      have e1 : x.tmps[0]?.getD undef = .pointer (some ⟨d, 0, none⟩) := ev_tmp (hI.out 0 (fun i hi => slGi_far 0 (by omega) (by omega) i hi))
      have HLZ : Hid (listed.size = 21) := hI.lz
      have HD : Hid (DGi m1 (newG t p) lg Y listed y) := hI.d
      have HB6 : Hid (Below Y.heap.size Y y) := hb6
      clear hb6
      have HJ : Hid (Ig _ _ _ _ _ _ _ _ _) := hI
      have HI : Hid (_ ∈ Region.ready _ _ _) := hi
      have HO : Hid (_ = false) := ho
      clear hi hI ho
      refine wpOp_plain rfl rfl ?_
      refine wp_cover (fun K hK => ?_)
      go_simp
      exact hK.out _ _ (HJ.out.put HI.out (by omega) (Nat.le_of_ble_eq_true rfl) (slGi_inj _ (by omega)) (rfl) (fun j u _ _ _ _ h => GGi.keep j u h) (HD.out.keep (by decide)))
     ·
      have ho := ready_open hi
      have h6 : listed.getD 20 false = false := noT (fun h => openT ho (hI.tr 16 15 (by rfl) (hI.tr 17 16 (by rfl) (hI.tr 18 17 (by rfl) (hI.tr 19 18 (by rfl) (hI.tr 20 19 (by rfl) h))))))
      have hb6 : Below Y.heap.size Y y := hI.d.1 h6
      have gf14 : GGi d pb m1 t p listed y 14 (x.tmps.getD 39 undef) := hI.good 14 (by omega) (waits_of hi (by rfl))
      have e1 : x.tmps[39]?.getD undef = .pointer (some ⟨d, 0, none⟩) := ev_tmp gf14
      have HLZ : Hid (listed.size = 21) := hI.lz
      have HD : Hid (DGi m1 (newG t p) lg Y listed y) := hI.d
      have HB6 : Hid (Below Y.heap.size Y y) := hb6
      clear hb6
      have HJ : Hid (Ig _ _ _ _ _ _ _ _ _) := hI
      have HI : Hid (_ ∈ Region.ready _ _ _) := hi
      have HO : Hid (_ = false) := ho
      clear hi hI ho
      refine wpOp_plain rfl rfl ?_
      refine wp_cover (fun K hK => ?_)
      go_simp
      exact hK.out _ _ (HJ.out.put HI.out (by omega) (Nat.le_of_ble_eq_true rfl) (slGi_inj _ (by omega)) (rfl) (fun j u _ _ _ _ h => GGi.keep j u h) (HD.out.keep (by decide)))
     ·
      have ho := ready_open hi
      have h6 : listed.getD 20 false = false := noT (fun h => openT ho (hI.tr 17 16 (by rfl) (hI.tr 18 17 (by rfl) (hI.tr 19 18 (by rfl) (hI.tr 20 19 (by rfl) h)))))
      have hb6 : Below Y.heap.size Y y := hI.d.1 h6
      have gf15 : GGi d pb m1 t p listed y 15 (x.tmps.getD 40 undef) := hI.good 15 (by omega) (waits_of hi (by rfl))
      have e1 : x.tmps[40]?.getD undef = .pointer (some ⟨d, 0, none⟩) := ev_tmp gf15
      have HLZ : Hid (listed.size = 21) := hI.lz
      have HD : Hid (DGi m1 (newG t p) lg Y listed y) := hI.d
      have HB6 : Hid (Below Y.heap.size Y y) := hb6
      clear hb6
      have HJ : Hid (Ig _ _ _ _ _ _ _ _ _) := hI
      have HI : Hid (_ ∈ Region.ready _ _ _) := hi
      have HO : Hid (_ = false) := ho
      clear hi hI ho
      refine wpOp_plain rfl rfl ?_
      refine wp_cover (fun K hK => ?_)
      go_simp
      exact hK.out _ _ (HJ.out.put HI.out (by omega) (Nat.le_of_ble_eq_true rfl) (slGi_inj _ (by omega)) (rfl) (fun j u _ _ _ _ h => GGi.keep j u h) (HD.out.keep (by decide)))
     ·
      have ho := ready_open hi
      have h6 : listed.getD 20 false = false := noT (fun h => openT ho (hI.tr 18 17 (by rfl) (hI.tr 19 18 (by rfl) (hI.tr 20 19 (by rfl) h))))
      have hb6 : Below Y.heap.size Y y := hI.d.1 h6
      have gf16 : GGi d pb m1 t p listed y 16 (x.tmps.getD 41 undef) := hI.good 16 (by omega) (waits_of hi (by rfl))
      have e1 : x.tmps[41]?.getD undef = .pointer (some ⟨d, 0, none⟩) := ev_tmp gf16
      have k1 : y.cell? ⟨d, 0, none⟩ = some (.int .i64 t) := KD.out y hb6 0
      have HLZ : Hid (listed.size = 21) := hI.lz
      have HD : Hid (DGi m1 (newG t p) lg Y listed y) := hI.d
      have HB6 : Hid (Below Y.heap.size Y y) := hb6
      clear hb6
      have HJ : Hid (Ig _ _ _ _ _ _ _ _ _) := hI
      have HI : Hid (_ ∈ Region.ready _ _ _) := hi
      have HO : Hid (_ = false) := ho
      clear hi hI ho
      refine wpOp_plain rfl rfl ?_
      refine wp_cover (fun K hK => ?_)
      go_simp
      exact hK.out _ _ (HJ.out.put HI.out (by omega) (Nat.le_of_ble_eq_true rfl) (slGi_inj _ (by omega)) (rfl) (fun j u _ _ _ _ h => GGi.keep j u h) (HD.out.keep (by decide)))
     ·
      have ho := ready_open hi
      have h6 : listed.getD 20 false = false := noT (fun h => openT ho (hI.tr 19 18 (by rfl) (hI.tr 20 19 (by rfl) h)))
      have hb6 : Below Y.heap.size Y y := hI.d.1 h6
      have gf17 : GGi d pb m1 t p listed y 17 (x.tmps.getD 42 undef) := hI.good 17 (by omega) (waits_of hi (by rfl))
      have e1 : x.tmps[42]?.getD undef = .int .i64 t := ev_tmp gf17
      have HLZ : Hid (listed.size = 21) := hI.lz
      have HD : Hid (DGi m1 (newG t p) lg Y listed y) := hI.d
      have HB6 : Hid (Below Y.heap.size Y y) := hb6
      clear hb6
      have HJ : Hid (Ig _ _ _ _ _ _ _ _ _) := hI
      have HI : Hid (_ ∈ Region.ready _ _ _) := hi
      have HO : Hid (_ = false) := ho
      clear hi hI ho
      refine wpOp_plain rfl rfl ?_
      refine wp_cover (fun K hK => ?_)
      go_simp
      exact hK.out _ _ (HJ.out.put HI.out (by omega) (Nat.le_of_ble_eq_true rfl) (slGi_inj _ (by omega)) (rfl) (fun j u _ _ _ _ h => GGi.keep j u h) (HD.out.keep (by decide)))
     ·
      have ho := ready_open hi
      have h6 : listed.getD 20 false = false := noT (fun h => openT ho (hI.tr 20 19 (by rfl) h))
      have hb6 : Below Y.heap.size Y y := hI.d.1 h6
      have gf7 : GGi d pb m1 t p listed y 7 (x.tmps.getD 32 undef) := hI.good 7 (by omega) (waits_of hi (by rfl))
      have e1 : x.tmps[32]?.getD undef = .string p.h := ev_tmp gf7
      have gf9 : GGi d pb m1 t p listed y 9 (x.tmps.getD 34 undef) := hI.good 9 (by omega) (waits_of hi (by rfl))
      have e2 : x.tmps[34]?.getD undef = .string p.b := ev_tmp gf9
      have gf11 : GGi d pb m1 t p listed y 11 (x.tmps.getD 36 undef) := hI.good 11 (by omega) (waits_of hi (by rfl))
      have e3 : x.tmps[36]?.getD undef = .string p.c := ev_tmp gf11
      have gf13 : GGi d pb m1 t p listed y 13 (x.tmps.getD 38 undef) := hI.good 13 (by omega) (waits_of hi (by rfl))
      have e4 : x.tmps[38]?.getD undef = .int .i64 p.t := ev_tmp gf13
      have gf18 : GGi d pb m1 t p listed y 18 (x.tmps.getD 43 undef) := hI.good 18 (by omega) (waits_of hi (by rfl))
      have e5 : x.tmps[43]?.getD undef = .int .i64 (t + 32) := ev_tmp gf18
      have HLZ : Hid (listed.size = 21) := hI.lz
      have HD : Hid (DGi m1 (newG t p) lg Y listed y) := hI.d
      have HB6 : Hid (Below Y.heap.size Y y) := hb6
      clear hb6
      have HJ : Hid (Ig _ _ _ _ _ _ _ _ _) := hI
      have HI : Hid (_ ∈ Region.ready _ _ _) := hi
      have HO : Hid (_ = false) := ho
      clear hi hI ho
      refine wpOp_plain rfl rfl ?_
      refine wp_cover (fun K hK => ?_)
      go_simp
      exact hK.out _ _ (HJ.out.put HI.out (by omega) (Nat.le_of_ble_eq_true rfl) (slGi_inj _ (by omega)) (rfl) (fun j u _ _ _ _ h => GGi.keep j u h) (HD.out.keep (by decide)))
     ·
      have ho := ready_open hi
      have h6 : listed.getD 20 false = false := noT (fun h => openT ho h)
      have hb6 : Below Y.heap.size Y y := hI.d.1 h6
      have gf3 : GGi d pb m1 t p listed y 3 (x.tmps.getD 28 undef) := hI.good 3 (by omega) (waits_of hi (by rfl))
      have e1 : x.tmps[28]?.getD undef = .map (some m1) := ev_tmp gf3
      have gf5 : GGi d pb m1 t p listed y 5 (x.tmps.getD 30 undef) := hI.good 5 (by omega) (waits_of hi (by rfl))
      have e2 : x.tmps[30]?.getD undef = .string p.h := ev_tmp gf5
      have gf19 : GGi d pb m1 t p listed y 19 (x.tmps.getD 44 undef) := hI.good 19 (by omega) (waits_of hi (by rfl))
      have e3 : x.tmps[44]?.getD undef = .agg #[.string p.h, .string p.b, .string p.c, .int .i64 p.t, .int .i64 (t + 32)] := ev_tmp gf19
      obtain ⟨w2, n2, hrun, ho2, hg2⟩ := UP.out y hb6
      have HO2 : Hid (w2.ownsMap Tryz.prog 9 G.RV m1 n2 (G.dec (Ord.insS G.keyV (newG t p) lg))) := ho2
      have HG2 : Hid (y.grownBy w2 (some m1)) := hg2
      clear ho2 hg2
      have HLZ : Hid (listed.size = 21) := hI.lz
      have HD : Hid (DGi m1 (newG t p) lg Y listed y) := hI.d
      have HB6 : Hid (Below Y.heap.size Y y) := hb6
      clear hb6
      have HJ : Hid (Ig _ _ _ _ _ _ _ _ _) := hI
      have HI : Hid (_ ∈ Region.ready _ _ _) := hi
      have HO : Hid (_ = false) := ho
      clear hi hI ho
      refine wpOp_plain rfl rfl ?_
      refine wp_cover (fun K hK => ?_)
      go_simp
      exact hK.out _ _ (HJ.out.nil HI.out (by omega) (fun _ => trivial) (fun j u _ _ _ _ h => GGi.keep j u h) (⟨(fun e => by rw [setT_same (by rw [HLZ.out]; omega)] at e; cases e), fun _ => ⟨(below_grown HB6.out (some m1)).andThen HG2.out (fun j hj => Or.inr hj), n2, HO2.out⟩⟩) undef)
end Go.Proofs.YtefkdohkjdopeaaGreatDoor
