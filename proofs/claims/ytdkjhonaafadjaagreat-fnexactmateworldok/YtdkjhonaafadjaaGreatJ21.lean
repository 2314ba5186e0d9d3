import Derived.Test.YtdkjhonaafadjaaGreatJ16
import Derived.Test.YtdkjhonaafadjaaGreatJ19
import Derived.Test.YtdkjhonaafadjaaGreatJ20
/- FnExactMateWorldOk: the law's walk. -/
namespace Go.Proofs.YtdkjhonaafadjaaGreat
open Go.RowKit
set_option linter.unusedVariables false

set_option maxRecDepth 4000 in
set_option maxHeartbeats 4000000 in
theorem lawWorldOk (t : Int) (gs : List G.GrantD) (ps : List P.PlaceD) (ms : List Mt.MRow) (fs : List ByteArray) (v1 v2 v3 v4 : Value) (w : World) (hi : WorldIn w gs ps ms fs v1 v2 v3 v4) :
    Calls Tryz.prog 4 #[.agg #[.int .i64 t, v1, v2, v3, v4]] w fun e w' => e = .returned (.bool true) ∧ Below w.heap.size w w' := by
  have Hi : Hid (WorldIn w gs ps ms fs v1 v2 v3 v4) := hi
  clear hi
  have C0 : Hid (Below w.heap.size w (w.alloc (.cells #[.int .i64 t, v1, v2, v3, v4] 43))) := bl_alloc (Below.refl _ _) _
  have A0 : Hid (Lx (w.alloc (.cells #[.int .i64 t, v1, v2, v3, v4] 43)) w.heap.size #[.int .i64 t, v1, v2, v3, v4]) := Lx.new _ _ _
  go_enter Tryz.func4, Tryz.ntmps4
  go_wp2_with fail
  refine (szWorld t gs ps ms fs v1 v2 v3 v4 _ (Hi.out.keep C0.out)).mono ?_
  rintro e w1 ⟨hx, c⟩
  have C1 : Hid (Below w.heap.size w w1) := bl_trans C0.out c
  have A1 : Hid (Lx w1 w.heap.size #[.int .i64 t, v1, v2, v3, v4]) := A0.out.keep c
  clear c C0 A0
  have ka := A1.out.c
  rcases hx with rfl | ⟨x, rfl, x0, hl⟩
  · go_wp2
    go_ret
    exact ⟨rfl, C1.out⟩
  have HF : Hid (WorldFit gs ps ms fs) := world_fit Hi.out hl
  have HL : Hid (WorldLen gs ps ms fs) := hl
  clear hl
  go_wp2_with fail
  refine (toWorld t gs ps ms fs v1 v2 v3 v4 _ (Hi.out.keep C1.out) HL.out).mono ?_
  rintro e w2 ⟨⟨b1, b2, b3, b4, ps1, ms1, rfl, hp1, hm1, hW⟩, c⟩
  have C2 : Hid (Below w.heap.size w w2) := bl_trans C1.out c
  have A2 : Hid (Lx w2 w.heap.size #[.int .i64 t, v1, v2, v3, v4]) := A1.out.keep c
  have P1 : Hid (P.Like ps1 ps) := hp1
  have M1 : Hid (Mt.Like ms1 ms) := hm1
  clear c ka C1 A1 hp1 hm1
  go_wp2_with fail
  refine (specWorldOk t gs ps1 ms1 fs b1 b2 b3 b4 _ _ hW (HF.out.like P1.out M1.out)).mono ?_
  rintro e w3 ⟨⟨q1, rfl, h1⟩, c⟩
  have H1 : Hid (q1 = true ↔ WorldSay t gs ps1 (ms1.map Mt.MRow.m) fs) := h1
  have C3 : Hid (Below w.heap.size w w3) := bl_trans C2.out c
  have A3 : Hid (Lx w3 w.heap.size #[.int .i64 t, v1, v2, v3, v4]) := A2.out.keep c
  clear c h1 hW C2 A2
  have ka := A3.out.c
  go_wp2_with fail
  refine (toWorld t gs ps ms fs v1 v2 v3 v4 _ (Hi.out.keep C3.out) HL.out).mono ?_
  rintro e w4 ⟨⟨e1, e2, e3, e4, qs, rs, rfl, hp2, hm2, hW⟩, c⟩
  have P2 : Hid (P.Like qs ps) := hp2
  have M2 : Hid (Mt.Like rs ms) := hm2
  have hb4 : Below w4.heap.size w4 (w4.alloc (.cells #[.int .i64 t, .slice (some ⟨e1, 0, none⟩) gs.length gs.length, .slice (some ⟨e2, 0, none⟩) qs.length qs.length, .slice (some ⟨e3, 0, none⟩) rs.length rs.length, .slice (some ⟨e4, 0, none⟩) fs.length fs.length] 30)) := bl_alloc (Below.refl _ _) _
  have C5 : Hid (Below w.heap.size w (w4.alloc (.cells #[.int .i64 t, .slice (some ⟨e1, 0, none⟩) gs.length gs.length, .slice (some ⟨e2, 0, none⟩) qs.length qs.length, .slice (some ⟨e3, 0, none⟩) rs.length rs.length, .slice (some ⟨e4, 0, none⟩) fs.length fs.length] 30))) := bl_trans (bl_trans C3.out c) hb4
  have A5 : Hid (Lx (w4.alloc (.cells #[.int .i64 t, .slice (some ⟨e1, 0, none⟩) gs.length gs.length, .slice (some ⟨e2, 0, none⟩) qs.length qs.length, .slice (some ⟨e3, 0, none⟩) rs.length rs.length, .slice (some ⟨e4, 0, none⟩) fs.length fs.length] 30)) w.heap.size #[.int .i64 t, v1, v2, v3, v4]) := (A3.out.keep c).keep hb4
  have X5 : Hid (Lx (w4.alloc (.cells #[.int .i64 t, .slice (some ⟨e1, 0, none⟩) gs.length gs.length, .slice (some ⟨e2, 0, none⟩) qs.length qs.length, .slice (some ⟨e3, 0, none⟩) rs.length rs.length, .slice (some ⟨e4, 0, none⟩) fs.length fs.length] 30)) w4.heap.size #[.int .i64 t, .slice (some ⟨e1, 0, none⟩) gs.length gs.length, .slice (some ⟨e2, 0, none⟩) qs.length qs.length, .slice (some ⟨e3, 0, none⟩) rs.length rs.length, .slice (some ⟨e4, 0, none⟩) fs.length fs.length]) := Lx.new _ _ _
  have W5 : Hid (WorldAt (w4.alloc (.cells #[.int .i64 t, .slice (some ⟨e1, 0, none⟩) gs.length gs.length, .slice (some ⟨e2, 0, none⟩) qs.length qs.length, .slice (some ⟨e3, 0, none⟩) rs.length rs.length, .slice (some ⟨e4, 0, none⟩) fs.length fs.length] 30)) gs qs rs fs e1 e2 e3 e4 w3.heap.size) := hW.keep hb4
  clear c ka hp2 hm2 hW hb4 C3 A3
  go_wp2_with fail
  refine (implWorldOk t gs qs rs fs e1 e2 e3 e4 _ _ W5.out (HF.out.like P2.out M2.out)).mono ?_
  rintro e w5 ⟨⟨q2, rfl, h2⟩, c⟩
  obtain rfl : q2 = q1 := by
    have e1 : ms1.map Mt.MRow.m = rs.map Mt.MRow.m := M1.out.trans M2.out.symm
    have h1 := H1.out
    have hlk : (WorldSay t gs ps1 (ms1.map Mt.MRow.m) fs) ↔ (WorldSay t gs qs (rs.map Mt.MRow.m) fs) := by rw [e1]; exact SaysWd.like (q := true) (P1.out.trans P2.out.symm)
    have : q1 = true ↔ q2 = true := h1.trans (hlk.trans (Iff.symm h2))
    cases q1 <;> cases q2 <;> simp_all
  clear H1 h2
  have C6 : Hid (Below w.heap.size w w5) := bl_trans C5.out c
  have A6 : Hid (Lx w5 w.heap.size #[.int .i64 t, v1, v2, v3, v4]) := A5.out.keep c
  have X6 : Hid (Lx w5 w4.heap.size #[.int .i64 t, .slice (some ⟨e1, 0, none⟩) gs.length gs.length, .slice (some ⟨e2, 0, none⟩) qs.length qs.length, .slice (some ⟨e3, 0, none⟩) rs.length rs.length, .slice (some ⟨e4, 0, none⟩) fs.length fs.length]) := X5.out.keep c
  have W6 : Hid (WorldAt w5 gs qs rs fs e1 e2 e3 e4 w3.heap.size) := W5.out.keep c
  clear c C5 A5 X5 W5
  cases q2
  · go_wp2_with fail
    refine wp_region_noPanic ?_
    refine wp_region_held_drew (S := (fun y => Below w5.heap.size w5 y ∧ (y.cell? ⟨w.heap.size, 0, none⟩ = some (.int .i64 t) ∧ y.cell? ⟨w.heap.size, 1, none⟩ = some (v1) ∧ y.cell? ⟨w.heap.size, 2, none⟩ = some (v2) ∧ y.cell? ⟨w.heap.size, 3, none⟩ = some (v3) ∧ y.cell? ⟨w.heap.size, 4, none⟩ = some (v4) ∧ y.cell? ⟨w4.heap.size, 0, none⟩ = some (.int .i64 t) ∧ y.cell? ⟨w4.heap.size, 1, none⟩ = some (.slice (some ⟨e1, 0, none⟩) gs.length gs.length) ∧ y.cell? ⟨w4.heap.size, 2, none⟩ = some (.slice (some ⟨e2, 0, none⟩) qs.length qs.length) ∧ y.cell? ⟨w4.heap.size, 3, none⟩ = some (.slice (some ⟨e3, 0, none⟩) rs.length rs.length) ∧ y.cell? ⟨w4.heap.size, 4, none⟩ = some (.slice (some ⟨e4, 0, none⟩) fs.length fs.length)))) (by kernel_rfl) (kWX A6.out X6.out (bl_drew (Below.refl _ _))) (fun hHeld => ?_)
    refine wpAnyH_take (i := 0) (v := ?vx1) rfl (by kernel_rfl) (by kernel_rfl) (by kernel_rfl) (fun _ _ _ h => h) (Or.inl ⟨by rfl, ?hx1⟩) (by assumption) ?rx1
    case hx1 => (intro w hSw; (try dsimp only at hSw); go_simp; try (with_reducible rfl))
    try simp only [Act.put, List.setIfInBounds_toArray, List.set_cons_zero, List.set_cons_succ, List.getElem_toArray, List.getElem_cons_zero]
    refine wpAnyH_take (i := 1) (v := ?vx2) rfl (by kernel_rfl) (by kernel_rfl) (by kernel_rfl) (fun _ _ _ h => h) (Or.inl ⟨by rfl, ?hx2⟩) (by assumption) ?rx2
    case hx2 => (intro w hSw; (try dsimp only at hSw); go_simp; try (with_reducible rfl))
    try simp only [Act.put, List.setIfInBounds_toArray, List.set_cons_zero, List.set_cons_succ, List.getElem_toArray, List.getElem_cons_zero, List.getElem_cons_succ]
    refine wpAnyH_ready (rs := [2]) (by kernel_rfl) (by simp) ?_
    refine AllReadyH.cons rfl (fun K hK => ?_) AllReadyH.nil
    go_simp
    refine (toWorld t gs ps ms fs v1 v2 v3 v4 _ (Hi.out.keep (bl_trans C6.out (bl_drew (Below.refl _ _)))) HL.out).mono ?_
    rintro e z1 ⟨⟨f1, f2, f3, f4, ps3, ms3, rfl, hp3, hm3, hW⟩, d1⟩
    go_wp2_with fail
    refine hK.out _ _ (kWX A6.out X6.out (bl_trans (bl_drew (Below.refl _ _)) d1)) (fun hHeld1 => ?_)
    clear hK K hHeld
    try simp only [Act.put, List.setIfInBounds_toArray, List.set_cons_zero, List.set_cons_succ, List.getElem_toArray, List.getElem_cons_zero, List.getElem_cons_succ]
    refine wpAnyH_ready (rs := [3]) (by kernel_rfl) (by simp) ?_
    refine AllReadyH.cons rfl (fun K hK => ?_) AllReadyH.nil
    go_simp
    refine (eqWorld t gs qs ps3 rs ms3 fs e1 e2 e3 e4 f1 f2 f3 f4 _ _ _ (W6.out.keep (bl_trans (bl_drew (Below.refl _ _)) d1)) hW (P2.out.trans hp3.symm) (M2.out.trans hm3.symm) (world_len (HF.out.like P2.out M2.out)) (HF.out.like P2.out M2.out).m).mono ?_
    rintro e z2 ⟨rfl, d2⟩
    go_wp2_with fail
    refine hK.out _ _ (kWX A6.out X6.out (bl_trans (bl_trans (bl_drew (Below.refl _ _)) d1) d2)) (fun hHeld2 => ?_)
    clear hK K hHeld1
    try simp only [Act.put, List.setIfInBounds_toArray, List.set_cons_zero, List.set_cons_succ, List.getElem_toArray, List.getElem_cons_zero, List.getElem_cons_succ]
    refine wpAnyH_take (i := 4) (v := ?vx3) rfl (by kernel_rfl) (by kernel_rfl) (by kernel_rfl) (fun _ _ _ h => h) (Or.inl ⟨by rfl, ?hx3⟩) (by assumption) ?rx3
    case hx3 => (intro w hSw; (try dsimp only at hSw); go_simp; try (with_reducible rfl))
    try simp only [Act.put, List.setIfInBounds_toArray, List.set_cons_zero, List.set_cons_succ, List.getElem_toArray, List.getElem_cons_zero, List.getElem_cons_succ]
    refine wpAnyH_done (by kernel_rfl) ?_ _
    refine NoPanic.normal ?_
    have C7 : Hid (Below w.heap.size w z2) := bl_trans C6.out (bl_trans (bl_trans (bl_drew (Below.refl _ _)) d1) d2)
    clear d1 d2 hW hp3 hm3 hHeld2
    go_wp2
    go_ret
    exact ⟨rfl, C7.out⟩
  · go_wp2_with fail
    refine wp_region_noPanic ?_
    refine wp_region_held_drew (S := (fun y => Below w5.heap.size w5 y ∧ (y.cell? ⟨w.heap.size, 0, none⟩ = some (.int .i64 t) ∧ y.cell? ⟨w.heap.size, 1, none⟩ = some (v1) ∧ y.cell? ⟨w.heap.size, 2, none⟩ = some (v2) ∧ y.cell? ⟨w.heap.size, 3, none⟩ = some (v3) ∧ y.cell? ⟨w.heap.size, 4, none⟩ = some (v4) ∧ y.cell? ⟨w4.heap.size, 0, none⟩ = some (.int .i64 t) ∧ y.cell? ⟨w4.heap.size, 1, none⟩ = some (.slice (some ⟨e1, 0, none⟩) gs.length gs.length) ∧ y.cell? ⟨w4.heap.size, 2, none⟩ = some (.slice (some ⟨e2, 0, none⟩) qs.length qs.length) ∧ y.cell? ⟨w4.heap.size, 3, none⟩ = some (.slice (some ⟨e3, 0, none⟩) rs.length rs.length) ∧ y.cell? ⟨w4.heap.size, 4, none⟩ = some (.slice (some ⟨e4, 0, none⟩) fs.length fs.length)))) (by kernel_rfl) (kWX A6.out X6.out (bl_drew (Below.refl _ _))) (fun hHeld => ?_)
    refine wpAnyH_take (i := 0) (v := ?vx4) rfl (by kernel_rfl) (by kernel_rfl) (by kernel_rfl) (fun _ _ _ h => h) (Or.inl ⟨by rfl, ?hx4⟩) (by assumption) ?rx4
    case hx4 => (intro w hSw; (try dsimp only at hSw); go_simp; try (with_reducible rfl))
    try simp only [Act.put, List.setIfInBounds_toArray, List.set_cons_zero, List.set_cons_succ, List.getElem_toArray, List.getElem_cons_zero]
    refine wpAnyH_take (i := 1) (v := ?vx5) rfl (by kernel_rfl) (by kernel_rfl) (by kernel_rfl) (fun _ _ _ h => h) (Or.inl ⟨by rfl, ?hx5⟩) (by assumption) ?rx5
    case hx5 => (intro w hSw; (try dsimp only at hSw); go_simp; try (with_reducible rfl))
    try simp only [Act.put, List.setIfInBounds_toArray, List.set_cons_zero, List.set_cons_succ, List.getElem_toArray, List.getElem_cons_zero, List.getElem_cons_succ]
    refine wpAnyH_ready (rs := [2]) (by kernel_rfl) (by simp) ?_
    refine AllReadyH.cons rfl (fun K hK => ?_) AllReadyH.nil
    go_simp
    refine (toWorld t gs ps ms fs v1 v2 v3 v4 _ (Hi.out.keep (bl_trans C6.out (bl_drew (Below.refl _ _)))) HL.out).mono ?_
    rintro e z1 ⟨⟨f1, f2, f3, f4, ps3, ms3, rfl, hp3, hm3, hW⟩, d1⟩
    go_wp2_with fail
    refine hK.out _ _ (kWX A6.out X6.out (bl_trans (bl_drew (Below.refl _ _)) d1)) (fun hHeld1 => ?_)
    clear hK K hHeld
    try simp only [Act.put, List.setIfInBounds_toArray, List.set_cons_zero, List.set_cons_succ, List.getElem_toArray, List.getElem_cons_zero, List.getElem_cons_succ]
    refine wpAnyH_ready (rs := [3]) (by kernel_rfl) (by simp) ?_
    refine AllReadyH.cons rfl (fun K hK => ?_) AllReadyH.nil
    go_simp
    refine (eqWorld t gs qs ps3 rs ms3 fs e1 e2 e3 e4 f1 f2 f3 f4 _ _ _ (W6.out.keep (bl_trans (bl_drew (Below.refl _ _)) d1)) hW (P2.out.trans hp3.symm) (M2.out.trans hm3.symm) (world_len (HF.out.like P2.out M2.out)) (HF.out.like P2.out M2.out).m).mono ?_
    rintro e z2 ⟨rfl, d2⟩
    go_wp2_with fail
    refine hK.out _ _ (kWX A6.out X6.out (bl_trans (bl_trans (bl_drew (Below.refl _ _)) d1) d2)) (fun hHeld2 => ?_)
    clear hK K hHeld1
    try simp only [Act.put, List.setIfInBounds_toArray, List.set_cons_zero, List.set_cons_succ, List.getElem_toArray, List.getElem_cons_zero, List.getElem_cons_succ]
    refine wpAnyH_take (i := 4) (v := ?vx6) rfl (by kernel_rfl) (by kernel_rfl) (by kernel_rfl) (fun _ _ _ h => h) (Or.inl ⟨by rfl, ?hx6⟩) (by assumption) ?rx6
    case hx6 => (intro w hSw; (try dsimp only at hSw); go_simp; try (with_reducible rfl))
    try simp only [Act.put, List.setIfInBounds_toArray, List.set_cons_zero, List.set_cons_succ, List.getElem_toArray, List.getElem_cons_zero, List.getElem_cons_succ]
    refine wpAnyH_done (by kernel_rfl) ?_ _
    refine NoPanic.normal ?_
    have C7 : Hid (Below w.heap.size w z2) := bl_trans C6.out (bl_trans (bl_trans (bl_drew (Below.refl _ _)) d1) d2)
    clear d1 d2 hW hp3 hm3 hHeld2
    go_wp2
    go_ret
    exact ⟨rfl, C7.out⟩
end Go.Proofs.YtdkjhonaafadjaaGreat
