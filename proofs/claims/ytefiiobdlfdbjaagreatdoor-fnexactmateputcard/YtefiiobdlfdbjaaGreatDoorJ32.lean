import Derived.Test.YtefiiobdlfdbjaaGreatDoorJ18
import Derived.Test.YtefiiobdlfdbjaaGreatDoorJ28
import Derived.Test.YtefiiobdlfdbjaaGreatDoorJ31
import Derived.Test.YtefiiobdlfdbjaaGreatDoorJ04
/- The specification's put: what is not done. -/
namespace Go.Proofs.YtefiiobdlfdbjaaGreatDoor
open Go.RowKit
set_option linter.unusedVariables false

set_option maxRecDepth 4000 in
set_option maxHeartbeats 4000000 in
theorem specPut_no (t : Int) (gs : List G.GrantD) (ps : List P.PlaceD) (b1 b2 : Nat) (b : ByteArray) (aw : Option Addr) (cw : Nat) (ws : List W.WantD) (w : World) (hA : P.LandAt w gs ps b1 b2) (hF : P.Fit gs ps) (hW : W.Src w aw cw ws) (hb : b.size ≤ maxLen) (hwf : ∀ r ∈ ws, r.fits) (hwl : ws.length ≤ 1048576) (hno : ¬ P.LandSay t gs ps) :
    Calls Tryz.prog 6 #[.agg #[.int .i64 t, .slice (some ⟨b1, 0, none⟩) gs.length gs.length, .slice (some ⟨b2, 0, none⟩) ps.length ps.length], .string b, .slice aw ws.length cw] w fun e w' => (∃ t' gs' qs s1 s2 code, e = .returned (.tuple #[.agg #[.int .i64 t', s1, s2], .int .i64 code]) ∧ PutSay t gs ps b ws t' gs' qs code ∧ LdO w' w.heap.size gs' qs s1 s2) ∧ Below w.heap.size w w' := by
  have hinfo : (Tryz.prog.info? 32).map (·.size) = some 3 := by kernel_rfl
  obtain ⟨W1, hW1⟩ : ∃ W1, W1 = (w.alloc (.cells #[.int .i64 t, .slice (some ⟨b1, 0, none⟩) gs.length gs.length, .slice (some ⟨b2, 0, none⟩) ps.length ps.length] 32)).alloc (.cells #[.int .i64 0, .slice none 0 0, .slice none 0 0] 32) := ⟨_, rfl⟩
  have HW1 : Hid (W1 = (w.alloc (.cells #[.int .i64 t, .slice (some ⟨b1, 0, none⟩) gs.length gs.length, .slice (some ⟨b2, 0, none⟩) ps.length ps.length] 32)).alloc (.cells #[.int .i64 0, .slice none 0 0, .slice none 0 0] 32)) := hW1
  have B1 : Hid (Below w.heap.size w W1) := by rw [hW1]; exact bl_alloc (bl_alloc (Below.refl _ _) _) _
  have Z1 : Hid (W1.heap.size = w.heap.size + 2) := by rw [hW1]; show _ = _; simp
  obtain ⟨bx, hbx⟩ : ∃ bx, bx = w.heap.size := ⟨_, rfl⟩
  have HBX : Hid (bx = w.heap.size) := hbx
  have K0 : Hid (∀ y, Below W1.heap.size W1 y → ∀ j, y.cell? ⟨bx, j, none⟩ = (#[.int .i64 t, .slice (some ⟨b1, 0, none⟩) gs.length gs.length, .slice (some ⟨b2, 0, none⟩) ps.length ps.length] : Array Value)[j]?) := by
    intro y hy j
    rw [hbx, hy.cell (p := ⟨w.heap.size, j, none⟩) (by show w.heap.size < _; rw [Z1.out]; omega), hW1]
    simp [go_sem]
  have T1 : Hid (∀ y, Below W1.heap.size W1 y → y.there (bx + 1) 0 3) := by
    intro y hy
    refine there_land ((hy.block _ (by have := Z1.out; omega)).trans ?_)
    rw [hW1, hbx]
    have h := heap_alloc_newL (w.alloc (.cells #[.int .i64 t, .slice (some ⟨b1, 0, none⟩) gs.length gs.length, .slice (some ⟨b2, 0, none⟩) ps.length ps.length] 32)) (.cells #[.int .i64 0, .slice none 0 0, .slice none 0 0] 32)
    rw [World.size_alloc] at h
    exact h
  have OK : Hid (Calls Tryz.prog 18 #[.agg #[.int .i64 t, .slice (some ⟨b1, 0, none⟩) gs.length gs.length, .slice (some ⟨b2, 0, none⟩) ps.length ps.length]] W1 fun e w' => e = .returned (.bool false) ∧ Below W1.heap.size W1 w') := by
    refine (P.specLandOk t gs ps b1 b2 W1 (hA.keep B1.out) hF).mono ?_
    rintro e w' ⟨⟨q, rfl, hq⟩, hb⟩
    exact ⟨by cases q with | false => rfl | true => exact (hno (hq.1 rfl)).elim, hb⟩
  have CP : Hid (∀ y, Below W1.heap.size W1 y → Calls Tryz.prog 21 #[.agg #[.int .i64 t, .slice (some ⟨b1, 0, none⟩) gs.length gs.length, .slice (some ⟨b2, 0, none⟩) ps.length ps.length]] y fun e w' => (∃ qs s1 s2, e = .returned (.agg #[.int .i64 t, s1, s2]) ∧ P.Like qs ps ∧ LdO w' y.heap.size gs qs s1 s2) ∧ Below y.heap.size y w') := fun y hy => l6Copy_any t gs ps b1 b2 y (hA.keep (bl_trans B1.out hy)) hF.gl hF.pl hF.ln
  have HWS : Hid (∀ y, Below W1.heap.size W1 y → W.Src y aw cw ws) := fun y hy => hW.keep (bl_trans B1.out hy)
  have HNO : Hid (¬ P.LandSay t gs ps) := hno
  clear hno hA hF hW hW1 hwf
  go_enter Tryz.func6, Tryz.ntmps6
  go_wp2_with fail
  rw [← hbx]
  clear hbx
  rw [← HW1.out]
  refine OK.out.mono ?_
  rintro e w2 ⟨rfl, c2⟩
  have D2 : Hid (Below W1.heap.size W1 w2) := c2
  clear c2
  have D9 : Hid (Below W1.heap.size W1 w2) := D2.out
  have T9 : Hid (w2.there (bx + 1) 0 3) := T1.out _ D9.out
  go_wp2_with (refine wpList_store_mid (by rfl) 32 _ _ (by rfl) (bx + 1) 0 #[.int .i64 0, .slice none 0 0, .slice none 0 0] (by rfl) (by rfl) (by exact T9.out) hinfo (by simp [Value.oneCell']) ?_)
  have hrg := World.rangeAt_setCells_same w2 (bx + 1) 0 [.int .i64 0, .slice none 0 0, .slice none 0 0] (by exact T9.out)
  have e0 := hrg 0 _ rfl
  have e1 := hrg 1 _ rfl
  have e2 := hrg 2 _ rfl
  simp only [Nat.zero_add] at e0 e1 e2
  have hx : Ex (bx + 1) w2 (w2.setCells (bx + 1) 0 [.int .i64 0, .slice none 0 0, .slice none 0 0]) := (Ex.refl _ _).cells _ _
  have hBX : bx = w.heap.size := HBX.out
  have hz : W1.heap.size = w.heap.size + 2 := Z1.out
  have hd := D9.out.size
  exact bodyPost_ret (v := .tuple #[.agg #[.int .i64 0, .slice none 0 0, .slice none 0 0], .int .i64 1]) (by simp [results, Tryz.results6, go_sem, e0, e1, e2]) rfl ⟨⟨0, [], [], _, _, 1, rfl, Or.inl ⟨HNO.out, rfl, rfl, rfl, rfl⟩, LdO.nil _ _⟩, Ex.mono (bl_trans B1.out D9.out) hx (by omega)⟩

set_option maxRecDepth 4000 in
set_option maxHeartbeats 4000000 in
theorem specPut_two (t : Int) (gs : List G.GrantD) (ps : List P.PlaceD) (b1 b2 : Nat) (b : ByteArray) (aw : Option Addr) (cw : Nat) (ws : List W.WantD) (w : World) (hA : P.LandAt w gs ps b1 b2) (hF : P.Fit gs ps) (hW : W.Src w aw cw ws) (hb : b.size ≤ maxLen) (hwf : ∀ r ∈ ws, r.fits) (hwl : ws.length ≤ 1048576) (hyes : P.LandSay t gs ps) (hn : ¬ (nameB b = true ∧ (ws.length ≤ 10 ∧ W.AllW ws ws.length))) :
    Calls Tryz.prog 6 #[.agg #[.int .i64 t, .slice (some ⟨b1, 0, none⟩) gs.length gs.length, .slice (some ⟨b2, 0, none⟩) ps.length ps.length], .string b, .slice aw ws.length cw] w fun e w' => (∃ t' gs' qs s1 s2 code, e = .returned (.tuple #[.agg #[.int .i64 t', s1, s2], .int .i64 code]) ∧ PutSay t gs ps b ws t' gs' qs code ∧ LdO w' w.heap.size gs' qs s1 s2) ∧ Below w.heap.size w w' := by
  have hinfo : (Tryz.prog.info? 32).map (·.size) = some 3 := by kernel_rfl
  obtain ⟨W1, hW1⟩ : ∃ W1, W1 = (w.alloc (.cells #[.int .i64 t, .slice (some ⟨b1, 0, none⟩) gs.length gs.length, .slice (some ⟨b2, 0, none⟩) ps.length ps.length] 32)).alloc (.cells #[.int .i64 0, .slice none 0 0, .slice none 0 0] 32) := ⟨_, rfl⟩
  have HW1 : Hid (W1 = (w.alloc (.cells #[.int .i64 t, .slice (some ⟨b1, 0, none⟩) gs.length gs.length, .slice (some ⟨b2, 0, none⟩) ps.length ps.length] 32)).alloc (.cells #[.int .i64 0, .slice none 0 0, .slice none 0 0] 32)) := hW1
  have B1 : Hid (Below w.heap.size w W1) := by rw [hW1]; exact bl_alloc (bl_alloc (Below.refl _ _) _) _
  have Z1 : Hid (W1.heap.size = w.heap.size + 2) := by rw [hW1]; show _ = _; simp
  obtain ⟨bx, hbx⟩ : ∃ bx, bx = w.heap.size := ⟨_, rfl⟩
  have HBX : Hid (bx = w.heap.size) := hbx
  have K0 : Hid (∀ y, Below W1.heap.size W1 y → ∀ j, y.cell? ⟨bx, j, none⟩ = (#[.int .i64 t, .slice (some ⟨b1, 0, none⟩) gs.length gs.length, .slice (some ⟨b2, 0, none⟩) ps.length ps.length] : Array Value)[j]?) := by
    intro y hy j
    rw [hbx, hy.cell (p := ⟨w.heap.size, j, none⟩) (by show w.heap.size < _; rw [Z1.out]; omega), hW1]
    simp [go_sem]
  have T1 : Hid (∀ y, Below W1.heap.size W1 y → y.there (bx + 1) 0 3) := by
    intro y hy
    refine there_land ((hy.block _ (by have := Z1.out; omega)).trans ?_)
    rw [hW1, hbx]
    have h := heap_alloc_newL (w.alloc (.cells #[.int .i64 t, .slice (some ⟨b1, 0, none⟩) gs.length gs.length, .slice (some ⟨b2, 0, none⟩) ps.length ps.length] 32)) (.cells #[.int .i64 0, .slice none 0 0, .slice none 0 0] 32)
    rw [World.size_alloc] at h
    exact h
  have OK : Hid (Calls Tryz.prog 18 #[.agg #[.int .i64 t, .slice (some ⟨b1, 0, none⟩) gs.length gs.length, .slice (some ⟨b2, 0, none⟩) ps.length ps.length]] W1 fun e w' => e = .returned (.bool true) ∧ Below W1.heap.size W1 w') := by
    refine (P.specLandOk t gs ps b1 b2 W1 (hA.keep B1.out) hF).mono ?_
    rintro e w' ⟨⟨q, rfl, hq⟩, hb⟩
    exact ⟨by rw [hq.2 hyes], hb⟩
  have CP : Hid (∀ y, Below W1.heap.size W1 y → Calls Tryz.prog 21 #[.agg #[.int .i64 t, .slice (some ⟨b1, 0, none⟩) gs.length gs.length, .slice (some ⟨b2, 0, none⟩) ps.length ps.length]] y fun e w' => (∃ qs s1 s2, e = .returned (.agg #[.int .i64 t, s1, s2]) ∧ P.Like qs ps ∧ LdO w' y.heap.size gs qs s1 s2) ∧ Below y.heap.size y w') := fun y hy => l6Copy_any t gs ps b1 b2 y (hA.keep (bl_trans B1.out hy)) hF.gl hF.pl hF.ln
  have HWS : Hid (∀ y, Below W1.heap.size W1 y → W.Src y aw cw ws) := fun y hy => hW.keep (bl_trans B1.out hy)
  have HYES : Hid (P.LandSay t gs ps) := hyes
  have HN : Hid (¬ (nameB b = true ∧ (ws.length ≤ 10 ∧ W.AllW ws ws.length))) := hn
  have WO : Hid (∀ y, Below W1.heap.size W1 y → nameB b = true → Calls Tryz.prog 20 #[.slice aw ws.length cw] y fun e w' => e = .returned (.bool false) ∧ Below y.heap.size y w') := by
    intro y hy q1
    refine (W.specWantsOk_gv aw cw ws y (hW.keep (bl_trans B1.out hy)).gv hwf hwl).mono ?_
    rintro e w' ⟨⟨q, rfl, hq⟩, hb⟩
    refine ⟨?_, hb⟩
    cases q with
    | false => rfl
    | true => exact (hn ⟨q1, hq.1 rfl⟩).elim
  clear hyes hn hA hF hW hW1 hwf
  go_enter Tryz.func6, Tryz.ntmps6
  go_wp2_with fail
  rw [← hbx]
  clear hbx
  rw [← HW1.out]
  refine OK.out.mono ?_
  rintro e w2 ⟨rfl, c2⟩
  have D2 : Hid (Below W1.heap.size W1 w2) := c2
  clear c2
  have MID : ∃ P0 : World → Prop, P0 w2 := ⟨fun _ => True, trivial⟩
  clear MID
  cases q1 : nameB b
  · have t0 : w2.cell? ⟨bx, 0, none⟩ = some (.int .i64 t) := K0.out w2 D2.out 0
    have t1 : w2.cell? ⟨bx, 1, none⟩ = some (.slice (some ⟨b1, 0, none⟩) gs.length gs.length) := K0.out w2 D2.out 1
    have t2 : w2.cell? ⟨bx, 2, none⟩ = some (.slice (some ⟨b2, 0, none⟩) ps.length ps.length) := K0.out w2 D2.out 2
    go_wp2_with (go_at_call 19; refine (specName_any _ _ hb).mono ?_; rintro e w' ⟨rfl, hw⟩; have hw2 := hw.symm; subst hw2; clear hw)
    clear t0 t1 t2
    refine (CP.out w2 D2.out).mono ?_
    rintro e w3 ⟨⟨qs, s1, s2, rfl, hlk, hL⟩, c3⟩
    have HLK : Hid (P.Like qs ps) := hlk
    obtain ⟨a1, p1, rfl⟩ := G.Sl.shape hL.g
    obtain ⟨a2, p2, hs2⟩ := Pr.Sl.shape hL.p.o
    rw [List.length_map] at hs2
    subst hs2
    have HL3 : Hid (LdO w3 w2.heap.size gs qs (.slice a1 gs.length p1) (.slice a2 qs.length p2)) := hL
    have D9 : Hid (Below W1.heap.size W1 w3) := bl_trans D2.out c3
    have ZD : Hid (W1.heap.size ≤ w2.heap.size) := D2.out.size
    clear hlk hL c3
    have T9 : Hid (w3.there (bx + 1) 0 3) := T1.out _ D9.out
    go_wp2_with (refine wpList_store_mid (by rfl) 32 _ _ (by rfl) (bx + 1) 0 #[.int .i64 t, .slice a1 gs.length p1, .slice a2 qs.length p2] (by rfl) (by rfl) (by exact T9.out) hinfo (by simp [Value.oneCell']) ?_)
    have hrg := World.rangeAt_setCells_same w3 (bx + 1) 0 [.int .i64 t, .slice a1 gs.length p1, .slice a2 qs.length p2] (by exact T9.out)
    have e0 := hrg 0 _ rfl
    have e1 := hrg 1 _ rfl
    have e2 := hrg 2 _ rfl
    simp only [Nat.zero_add] at e0 e1 e2
    have hx : Ex (bx + 1) w3 (w3.setCells (bx + 1) 0 [.int .i64 t, .slice a1 gs.length p1, .slice a2 qs.length p2]) := (Ex.refl _ _).cells _ _
    have hBX : bx = w.heap.size := HBX.out
    have hz : W1.heap.size = w.heap.size + 2 := Z1.out
    have hd := D9.out.size
    exact bodyPost_ret (v := .tuple #[.agg #[.int .i64 t, .slice a1 gs.length p1, .slice a2 qs.length p2], .int .i64 2]) (by simp [results, Tryz.results6, go_sem, e0, e1, e2]) rfl ⟨⟨t, gs, qs, _, _, 2, rfl, Or.inr ⟨HYES.out, rfl, rfl, Or.inl ⟨HN.out, HLK.out, rfl⟩⟩, (HL3.out.off (off_of_ex hx) (fun g hg e => by have h1 := (HL3.out.lt g hg).1; have h2 := ZD.out; omega)).low (by have h2 := ZD.out; omega)⟩, Ex.mono (bl_trans B1.out D9.out) hx (by omega)⟩
  · go_wp2_with (go_at_call 19; refine (specName_any _ _ hb).mono ?_; rintro e w' ⟨rfl, hw⟩; have hw2 := hw.symm; subst hw2; clear hw)
    refine (WO.out w2 D2.out q1).mono ?_
    rintro e w5 ⟨rfl, c5⟩
    have D5 : Hid (Below W1.heap.size W1 w5) := bl_trans D2.out c5
    clear c5 D2
    have D2 : Hid (Below W1.heap.size W1 w5) := D5.out
    have t0 : w5.cell? ⟨bx, 0, none⟩ = some (.int .i64 t) := K0.out w5 D5.out 0
    have t1 : w5.cell? ⟨bx, 1, none⟩ = some (.slice (some ⟨b1, 0, none⟩) gs.length gs.length) := K0.out w5 D5.out 1
    have t2 : w5.cell? ⟨bx, 2, none⟩ = some (.slice (some ⟨b2, 0, none⟩) ps.length ps.length) := K0.out w5 D5.out 2
    go_wp2_with fail
    clear t0 t1 t2
    refine (CP.out w5 D2.out).mono ?_
    rintro e w3 ⟨⟨qs, s1, s2, rfl, hlk, hL⟩, c3⟩
    have HLK : Hid (P.Like qs ps) := hlk
    obtain ⟨a1, p1, rfl⟩ := G.Sl.shape hL.g
    obtain ⟨a2, p2, hs2⟩ := Pr.Sl.shape hL.p.o
    rw [List.length_map] at hs2
    subst hs2
    have HL3 : Hid (LdO w3 w5.heap.size gs qs (.slice a1 gs.length p1) (.slice a2 qs.length p2)) := hL
    have D9 : Hid (Below W1.heap.size W1 w3) := bl_trans D2.out c3
    have ZD : Hid (W1.heap.size ≤ w5.heap.size) := D2.out.size
    clear hlk hL c3
    have T9 : Hid (w3.there (bx + 1) 0 3) := T1.out _ D9.out
    go_wp2_with (refine wpList_store_mid (by rfl) 32 _ _ (by rfl) (bx + 1) 0 #[.int .i64 t, .slice a1 gs.length p1, .slice a2 qs.length p2] (by rfl) (by rfl) (by exact T9.out) hinfo (by simp [Value.oneCell']) ?_)
    have hrg := World.rangeAt_setCells_same w3 (bx + 1) 0 [.int .i64 t, .slice a1 gs.length p1, .slice a2 qs.length p2] (by exact T9.out)
    have e0 := hrg 0 _ rfl
    have e1 := hrg 1 _ rfl
    have e2 := hrg 2 _ rfl
    simp only [Nat.zero_add] at e0 e1 e2
    have hx : Ex (bx + 1) w3 (w3.setCells (bx + 1) 0 [.int .i64 t, .slice a1 gs.length p1, .slice a2 qs.length p2]) := (Ex.refl _ _).cells _ _
    have hBX : bx = w.heap.size := HBX.out
    have hz : W1.heap.size = w.heap.size + 2 := Z1.out
    have hd := D9.out.size
    exact bodyPost_ret (v := .tuple #[.agg #[.int .i64 t, .slice a1 gs.length p1, .slice a2 qs.length p2], .int .i64 2]) (by simp [results, Tryz.results6, go_sem, e0, e1, e2]) rfl ⟨⟨t, gs, qs, _, _, 2, rfl, Or.inr ⟨HYES.out, rfl, rfl, Or.inl ⟨HN.out, HLK.out, rfl⟩⟩, (HL3.out.off (off_of_ex hx) (fun g hg e => by have h1 := (HL3.out.lt g hg).1; have h2 := ZD.out; omega)).low (by have h2 := ZD.out; omega)⟩, Ex.mono (bl_trans B1.out D9.out) hx (by omega)⟩
end Go.Proofs.YtefiiobdlfdbjaaGreatDoor
/- An append onto a row of the call's own, of what lies anywhere. -/
namespace Go.Proofs.YtefiiobdlfdbjaaGreatDoor
open Go.RowKit
set_option linter.unusedVariables false
theorem blk_cells {y : World} {u : Nat} {C : Array Value} {t : TypeId} (h : y.heap[u]? = some (.cells C t (0, 0))) : ∀ j v, C.toList[j]? = some v → y.cell? ((⟨u, 0, none⟩ : Addr).add j) = some v := by
  intro j v hj
  rw [Addr.add_mid, Nat.zero_add]
  simp [World.cell?, h]
  simpa using hj
theorem wp_append_own_atP {P : Program} {w : World} {o : Oper} {a : Act} {K : Act → World → Prop} {Q : Exit → Act → World → Prop} (s x : Operand) (t : TypeId)
    (ho : o.op = .call { callee := .builtin .append, args := #[s, x], argTypes := #[t, t] })
    (base : Nat) (e : TypeId) (i : TypeInfo) (z : Value) (size bytes : Nat) (ht : P.underlying t = some (.slice e)) (hi : P.info? e = some i) (hz : i.zero = some z)
    (hsize : i.size = size) (hby : i.bytes = bytes) (hzs : z.cells.size = size) (hsz : 0 < size)
    (v : Value) (n : Nat) (xs : List Value) (hs : a.eval s = v) (hown : w.ownsRow base e size v n xs)
    (ad : Addr) (m c : Nat) (news : List Value) (hx : a.eval x = .slice (some ad) m c) (hl : news.length = m * size) (hnews : ∀ j u, news[j]? = some u → w.cell? (ad.add j) = some u) (h1 : ∀ u ∈ news, u.oneCell' = true)
    (h63 : n + m ≤ maxLen) (hbytes : (n + m) * bytes ≤ 140737488355328) (hbase : base ≤ w.heap.size)
    (h : ∀ v' w', w'.ownsRow base e size v' (n + m) (xs ++ news) → w.grownBy w' v.ownBlock → (v'.ownBlock = v.ownBlock ∨ v'.ownBlock = some w.heap.size) → K (a.put o.dst v') w') : o.wp P a w K Q := by
  obtain ⟨v', w', hr, h2, h3, h4, h5⟩ := run_append_own_at (P := P) w base t o.type e i z size bytes ht hi hz hsize hby hzs hsz v n xs hown ad m c news hl hnews h1 h63 hbytes hbase
  unfold Oper.wp execOp
  simp only [ho, resolve, invoke, builtin, Sem.run_bind, Sem.run_pure, Result.andThen_ok, List.map_toArray, List.map_cons, List.map_nil, hs, hx, hr]
  exact h v' w' h2 h3 h5
end Go.Proofs.YtefiiobdlfdbjaaGreatDoor
