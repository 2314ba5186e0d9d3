import Derived.Test.YtkebokkckmgloaaJ41
import Derived.Test.YtkebokkckmgloaaJ24
/- DrawMateFall, given what l4Any answers. -/
namespace Go.Proofs.Ytkebokkckmgloaa
open Go.RowKit
set_option linter.unusedVariables false

theorem openQ (a : Option Addr) (n cap : Nat) (zs : List Int) (w : World) (h : CodeIn w a n zs) (hn : n ≤ 1048576) (hcap : n ≤ cap) :
    Calls Try.prog 57 #[.slice a n cap] w fun e w' => e = .returned (.pointer (some ⟨w.heap.size, 0, none⟩)) ∧ Rq w' w.heap.size 0 ∧ Below w.heap.size w w' := by
  by_cases h2 : 2000 < n
  · rcases h with hz | ⟨b, off, rfl, hb, hc⟩
    · omega
    have hr := rd_new (w := w) (cap := cap) (m := 2000) (Or.inr ⟨b, off, rfl, hb, hc⟩) (by omega) (by omega)
    have i1 : (2000 : Int) ≤ (cap : Int) := by omega
    have Hr : Hid _ := hr
    clear hr hc
    go_enter Try.func57, Try.ntmps57
    go_wp2
    go_ret
    exact ⟨rfl, ⟨_, _, _, _, _, Hr.out, Int.le_refl _, Or.inr ⟨b, off, rfl, hb⟩⟩, bl_alloc (Below.refl _ _) _⟩
  · have hr := rd_new (w := w) (cap := cap) (m := n) h (by omega) (by omega)
    have Hr : Hid _ := hr
    have HZ : Hid (CodeIn w a n zs) := h
    clear hr h
    go_enter Try.func57, Try.ntmps57
    go_wp2
    go_ret
    refine ⟨rfl, ⟨_, _, _, _, _, Hr.out, Int.le_refl _, ?_⟩, bl_alloc (Below.refl _ _) _⟩
    rcases HZ.out with hz | ⟨b, off, h1, hb, -⟩
    · exact Or.inl hz
    · exact Or.inr ⟨b, off, h1, hb⟩
theorem CodeIn.bel {w w' : World} {a : Option Addr} {n : Nat} {zs : List Int} (h : CodeIn w a n zs) (hb : Below w.heap.size w w') : CodeIn w' a n zs := by
  rcases h with h | ⟨b, off, ha, hbb, hc⟩
  · exact Or.inl h
  · exact Or.inr ⟨b, off, ha, Nat.lt_of_lt_of_le hbb hb.size, fun i hi => ⟨(hb.cell (p := ⟨b, off + i, none⟩) hbb).trans (hc i hi).1, (hc i hi).2⟩⟩
/-- What l4Any answers. -/
def AnyOk : Prop := ∀ (kr : Nat) (q : Int) (w : World), Rq w kr q → q < 400000 →
  Calls Try.prog 58 #[.pointer (some ⟨kr, 0, none⟩)] w fun e w' => ∃ (m : MateD) (x1 x2 x3 x4 : Option Addr) (n1 n2 n3 n4 : Nat), e = .returned (.agg #[.string m.nm, .bool m.up, .int .i64 m.ck, .bool m.kn, .int .i64 m.se, .slice x1 m.ws.length n1, .slice x2 m.rs.length n2, .slice x3 m.qs.length n3, .slice x4 m.gs.length n4]) ∧ SlM w' m (.slice x1 m.ws.length n1) (.slice x2 m.rs.length n2) (.slice x3 m.qs.length n3) (.slice x4 m.gs.length n4) w.heap.size ∧ m.ws.length ≤ n1 ∧ m.fits ∧ Rq w' kr (q + 9000) ∧ Ex kr w w'
theorem there9h (w : World) (t : TypeId) : (w.alloc (.cells #[.string { data := #[] }, .bool false, .int .i64 0, .bool false, .int .i64 0, .slice none 0 0, .slice none 0 0, .slice none 0 0, .slice none 0 0] t)).there w.heap.size 0 9 :=
  fun j hj => ⟨by simp [go_sem]; omega, by simp [go_sem]⟩
theorem wanted_h {c : Bool} {p q : Prop} (h : c = true) (hp : p) : if c = true then p else q := by rw [if_pos h]; exact hp

set_option maxRecDepth 4000 in
set_option maxHeartbeats 4000000 in
theorem drawFallOk (hany : AnyOk) : DrawFallOk := by
  intro sl n cap zs w hz hn hcap
  have hinfo : (Try.prog.info? 27).map (·.size) = some 9 := by kernel_rfl
  have HA : Hid AnyOk := hany
  have HZ : Hid (CodeIn (w.alloc (.cells #[.string { data := #[] }, .bool false, .int .i64 0, .bool false, .int .i64 0, .slice none 0 0, .slice none 0 0, .slice none 0 0, .slice none 0 0] 27)) sl n zs) := hz.bel (bl_alloc (Below.refl _ _) _)
  clear hany hz
  go_enter Try.func14, Try.ntmps14
  go_wp2_with fail
  refine (openQ sl n cap zs _ HZ.out hn hcap).mono ?_
  rintro e w1 ⟨rfl, r1, b1⟩
  have hX : (w.alloc (.cells #[.string { data := #[] }, .bool false, .int .i64 0, .bool false, .int .i64 0, .slice none 0 0, .slice none 0 0, .slice none 0 0, .slice none 0 0] 27)).heap.size = w.heap.size + 1 := by simp
  rw [hX] at r1 ⊢
  have T1 : Hid (w1.there w.heap.size 0 9) := there_keep2 (there9h w 27) (by simp) b1
  have B1 : Hid (Below w.heap.size w w1) := bl_trans (bl_alloc (Below.refl _ _) _) b1
  have z1 : w.heap.size + 1 < w1.heap.size := r1.lt
  have R1 : Hid (Rq w1 (w.heap.size + 1) 0) := r1
  clear r1 b1 hX HZ
  go_wp2_with fail
  refine (HA.out (w.heap.size + 1) 0 _ R1.out (by omega)).mono ?_
  rintro e w2 ⟨m, x1, x2, x3, x4, n1, n2, n3, n4, rfl, hS, hcw, hf, r2, e2⟩
  have z2 : w1.heap.size ≤ w2.heap.size := e2.size
  have T2 : Hid ((w2.alloc (.cells #[.string m.nm, .bool m.up, .int .i64 m.ck, .bool m.kn, .int .i64 m.se, .slice x1 m.ws.length n1, .slice x2 m.rs.length n2, .slice x3 m.qs.length n3, .slice x4 m.gs.length n4] 27)).there w.heap.size 0 9) := there_keep2 (there_ex T1.out (by omega) e2 (by omega)) (by omega) (bl_alloc (Below.refl _ _) _)
  have B2 : Hid (Below w.heap.size w (w2.alloc (.cells #[.string m.nm, .bool m.up, .int .i64 m.ck, .bool m.kn, .int .i64 m.se, .slice x1 m.ws.length n1, .slice x2 m.rs.length n2, .slice x3 m.qs.length n3, .slice x4 m.gs.length n4] 27))) := bl_alloc (Ex.mono B1.out e2 (by omega)) _
  have R2 : Hid (Rq (w2.alloc (.cells #[.string m.nm, .bool m.up, .int .i64 m.ck, .bool m.kn, .int .i64 m.se, .slice x1 m.ws.length n1, .slice x2 m.rs.length n2, .slice x3 m.qs.length n3, .slice x4 m.gs.length n4] 27)) (w.heap.size + 1) (0 + 9000)) := r2.below (bl_alloc (Below.refl _ _) _)
  have S2 : Hid (SlM (w2.alloc (.cells #[.string m.nm, .bool m.up, .int .i64 m.ck, .bool m.kn, .int .i64 m.se, .slice x1 m.ws.length n1, .slice x2 m.rs.length n2, .slice x3 m.qs.length n3, .slice x4 m.gs.length n4] 27)) m (.slice x1 m.ws.length n1) (.slice x2 m.rs.length n2) (.slice x3 m.qs.length n3) (.slice x4 m.gs.length n4) w1.heap.size) := hS.keep (bl_alloc (Below.refl _ _) _)
  have L2 : Hid (Lx (w2.alloc (.cells #[.string m.nm, .bool m.up, .int .i64 m.ck, .bool m.kn, .int .i64 m.se, .slice x1 m.ws.length n1, .slice x2 m.rs.length n2, .slice x3 m.qs.length n3, .slice x4 m.gs.length n4] 27)) w2.heap.size #[.string m.nm, .bool m.up, .int .i64 m.ck, .bool m.kn, .int .i64 m.se, .slice x1 m.ws.length n1, .slice x2 m.rs.length n2, .slice x3 m.qs.length n3, .slice x4 m.gs.length n4]) := Lx.new _ _ _
  have Hf : Hid m.fits := hf
  clear hS hf r2 e2 T1 B1 R1
  obtain ⟨W3, hW3⟩ : ∃ W3, W3 = (w2.alloc (.cells #[.string m.nm, .bool m.up, .int .i64 m.ck, .bool m.kn, .int .i64 m.se, .slice x1 m.ws.length n1, .slice x2 m.rs.length n2, .slice x3 m.qs.length n3, .slice x4 m.gs.length n4] 27)) := ⟨_, rfl⟩
  go_wp2_with fail
  rw [← hW3] at T2 B2 R2 S2 L2 ⊢
  clear hW3
  have KL : Hid (∀ y, Ex (w.heap.size + 1) W3 y → y.cell? ⟨w2.heap.size, 0, none⟩ = some (.string m.nm) ∧ y.cell? ⟨w2.heap.size, 1, none⟩ = some (.bool m.up) ∧ y.cell? ⟨w2.heap.size, 2, none⟩ = some (.int .i64 m.ck) ∧ y.cell? ⟨w2.heap.size, 3, none⟩ = some (.bool m.kn) ∧ y.cell? ⟨w2.heap.size, 4, none⟩ = some (.int .i64 m.se) ∧ y.cell? ⟨w2.heap.size, 5, none⟩ = some (.slice x1 m.ws.length n1) ∧ y.cell? ⟨w2.heap.size, 6, none⟩ = some (.slice x2 m.rs.length n2) ∧ y.cell? ⟨w2.heap.size, 7, none⟩ = some (.slice x3 m.qs.length n3) ∧ y.cell? ⟨w2.heap.size, 8, none⟩ = some (.slice x4 m.gs.length n4)) := fun y he => ⟨(he.cell (p := ⟨w2.heap.size, 0, none⟩) L2.out.l (by show w2.heap.size ≠ w.heap.size + 1; omega)).trans (L2.out.c 0), (he.cell (p := ⟨w2.heap.size, 1, none⟩) L2.out.l (by show w2.heap.size ≠ w.heap.size + 1; omega)).trans (L2.out.c 1), (he.cell (p := ⟨w2.heap.size, 2, none⟩) L2.out.l (by show w2.heap.size ≠ w.heap.size + 1; omega)).trans (L2.out.c 2), (he.cell (p := ⟨w2.heap.size, 3, none⟩) L2.out.l (by show w2.heap.size ≠ w.heap.size + 1; omega)).trans (L2.out.c 3), (he.cell (p := ⟨w2.heap.size, 4, none⟩) L2.out.l (by show w2.heap.size ≠ w.heap.size + 1; omega)).trans (L2.out.c 4), (he.cell (p := ⟨w2.heap.size, 5, none⟩) L2.out.l (by show w2.heap.size ≠ w.heap.size + 1; omega)).trans (L2.out.c 5), (he.cell (p := ⟨w2.heap.size, 6, none⟩) L2.out.l (by show w2.heap.size ≠ w.heap.size + 1; omega)).trans (L2.out.c 6), (he.cell (p := ⟨w2.heap.size, 7, none⟩) L2.out.l (by show w2.heap.size ≠ w.heap.size + 1; omega)).trans (L2.out.c 7), (he.cell (p := ⟨w2.heap.size, 8, none⟩) L2.out.l (by show w2.heap.size ≠ w.heap.size + 1; omega)).trans (L2.out.c 8)⟩
  have hd : Ex (w.heap.size + 1) W3 W3.drew := Ex.of_below (bl_drew (Below.refl _ _))
  refine wp_region_noPanic ?_
  refine wp_region_held_drew (S := (fun y => y.cell? ⟨w2.heap.size, 0, none⟩ = some (.string m.nm) ∧ y.cell? ⟨w2.heap.size, 1, none⟩ = some (.bool m.up) ∧ y.cell? ⟨w2.heap.size, 2, none⟩ = some (.int .i64 m.ck) ∧ y.cell? ⟨w2.heap.size, 3, none⟩ = some (.bool m.kn) ∧ y.cell? ⟨w2.heap.size, 4, none⟩ = some (.int .i64 m.se) ∧ y.cell? ⟨w2.heap.size, 5, none⟩ = some (.slice x1 m.ws.length n1) ∧ y.cell? ⟨w2.heap.size, 6, none⟩ = some (.slice x2 m.rs.length n2) ∧ y.cell? ⟨w2.heap.size, 7, none⟩ = some (.slice x3 m.qs.length n3) ∧ y.cell? ⟨w2.heap.size, 8, none⟩ = some (.slice x4 m.gs.length n4))) (by kernel_rfl) (KL.out _ hd) (fun hHeld => ?_)
  refine wpAnyH_take (i := 0) (v := ?vx1) rfl (by kernel_rfl) (by kernel_rfl) (by kernel_rfl) (fun _ _ _ h => h) (Or.inl ⟨by rfl, ?hx1⟩) (by assumption) ?rx1
  case hx1 => (intro w hSw; (try dsimp only at hSw); go_simp; try (with_reducible rfl))
  try simp only [Act.put, List.setIfInBounds_toArray, List.set_cons_zero, List.set_cons_succ, List.getElem_toArray, List.getElem_cons_zero]
  refine wpAnyH_take (i := 1) (v := ?vx2) rfl (by kernel_rfl) (by kernel_rfl) (by kernel_rfl) (fun _ _ _ h => h) (Or.inl ⟨by rfl, ?hx2⟩) (by assumption) ?rx2
  case hx2 => (intro w hSw; (try dsimp only at hSw); go_simp; try (with_reducible rfl))
  try simp only [Act.put, List.setIfInBounds_toArray, List.set_cons_zero, List.set_cons_succ, List.getElem_toArray, List.getElem_cons_zero, List.getElem_cons_succ]
  refine wpAnyH_ready (rs := [2]) (by kernel_rfl) (by simp) ?_
  refine AllReadyH.cons rfl (fun K hK => ?_) AllReadyH.nil
  go_simp
  refine (pickQ (w.heap.size + 1) _ 2 _ (R2.out.below (bl_drew (Below.refl _ _))) (by omega) (by omega) (by omega)).mono ?_
  rintro e y1 ⟨p2, rfl, p20, p21, r5, e5⟩
  have hd1 : Ex (w.heap.size + 1) W3 y1 := hd.trans e5
  clear r5 e5
  go_wp2_with fail
  refine hK.out _ _ (KL.out _ hd1) (fun hHeld1 => ?_)
  clear hK K hHeld
  try simp only [Act.put, List.setIfInBounds_toArray, List.set_cons_zero, List.set_cons_succ, List.getElem_toArray, List.getElem_cons_zero, List.getElem_cons_succ]
  refine wpAnyH_take (i := 3) (v := ?vx3) rfl (by kernel_rfl) (by kernel_rfl) (by kernel_rfl) (fun _ _ _ h => h) (Or.inl ⟨by rfl, ?hx3⟩) (by assumption) ?rx3
  case hx3 => (intro w hSw; (try dsimp only at hSw); go_simp; try (with_reducible rfl))
  try simp only [Act.put, List.setIfInBounds_toArray, List.set_cons_zero, List.set_cons_succ, List.getElem_toArray, List.getElem_cons_zero, List.getElem_cons_succ]
  obtain ⟨mach, hmach⟩ : ∃ mach, mach = (p2 == 0) := ⟨_, rfl⟩
  have T3 : Hid (y1.there w.heap.size 0 9) := there_ex T2.out (by have := L2.out.l; omega) hd1 (by omega)
  have S3 : Hid (SlM y1 m (.slice x1 m.ws.length n1) (.slice x2 m.rs.length n2) (.slice x3 m.qs.length n3) (.slice x4 m.gs.length n4) w1.heap.size) := S2.out.ex hd1 (by omega)
  have B3 : Hid (Below w.heap.size w y1) := Ex.mono B2.out hd1 (by omega)
  have L3 : w2.heap.size < y1.heap.size := Nat.lt_of_lt_of_le L2.out.l hd1.size
  have ho := ones m S3.out.a1 S3.out.a2 S3.out.a3 S3.out.a4
  have hE : Ex w.heap.size y1 (y1.setCells w.heap.size 0 [.string m.nm, .bool m.up, .int .i64 m.ck, .bool m.kn, .int .i64 m.se, .slice x1 m.ws.length n1, .slice x2 m.rs.length n2, .slice x3 m.qs.length n3, .slice x4 m.gs.length n4]) := (Ex.refl _ _).cells _ _
  refine wpAnyH_ready (rs := [4]) (by kernel_rfl) (by simp) ?_
  refine AllReadyH.cons rfl (fun K hK => ?_) AllReadyH.nil
  refine wanted_h (by rfl) ?_
  refine wp_store_mid 27 _ _ (by rfl) w.heap.size 0 #[.string m.nm, .bool m.up, .int .i64 m.ck, .bool m.kn, .int .i64 m.se, .slice x1 m.ws.length n1, .slice x2 m.rs.length n2, .slice x3 m.qs.length n3, .slice x4 m.gs.length n4] (by rfl) (by rfl) (by exact T3.out) hinfo (by exact all_oneCell_toArray ho) ?_
  refine hK.out _ _ (by have h := KL.out _ hd1; exact ⟨(hE.cell (p := ⟨w2.heap.size, 0, none⟩) L3 (by show w2.heap.size ≠ w.heap.size; omega)).trans (h.1), (hE.cell (p := ⟨w2.heap.size, 1, none⟩) L3 (by show w2.heap.size ≠ w.heap.size; omega)).trans (h.2.1), (hE.cell (p := ⟨w2.heap.size, 2, none⟩) L3 (by show w2.heap.size ≠ w.heap.size; omega)).trans (h.2.2.1), (hE.cell (p := ⟨w2.heap.size, 3, none⟩) L3 (by show w2.heap.size ≠ w.heap.size; omega)).trans (h.2.2.2.1), (hE.cell (p := ⟨w2.heap.size, 4, none⟩) L3 (by show w2.heap.size ≠ w.heap.size; omega)).trans (h.2.2.2.2.1), (hE.cell (p := ⟨w2.heap.size, 5, none⟩) L3 (by show w2.heap.size ≠ w.heap.size; omega)).trans (h.2.2.2.2.2.1), (hE.cell (p := ⟨w2.heap.size, 6, none⟩) L3 (by show w2.heap.size ≠ w.heap.size; omega)).trans (h.2.2.2.2.2.2.1), (hE.cell (p := ⟨w2.heap.size, 7, none⟩) L3 (by show w2.heap.size ≠ w.heap.size; omega)).trans (h.2.2.2.2.2.2.2.1), (hE.cell (p := ⟨w2.heap.size, 8, none⟩) L3 (by show w2.heap.size ≠ w.heap.size; omega)).trans (h.2.2.2.2.2.2.2.2)⟩) (fun hLast => ?_)
  clear hK K hHeld1
  try simp only [Act.put]
  refine wpAnyH_take (i := 5) (v := ?vx4) rfl (by kernel_rfl) (by kernel_rfl) (by kernel_rfl) (fun _ _ _ h => h) (Or.inl ⟨by rfl, ?hx4⟩) (by assumption) ?rx4
  case hx4 => (intro w hSw; (try dsimp only at hSw); go_simp; try (with_reducible rfl))
  try simp only [Act.put, List.setIfInBounds_toArray, List.set_cons_zero, List.set_cons_succ, List.getElem_toArray, List.getElem_cons_zero, List.getElem_cons_succ]
  refine wpAnyH_done (by kernel_rfl) ?_ _
  refine NoPanic.normal ?_
  have hrg := World.rangeAt_setCells_same y1 w.heap.size 0 [.string m.nm, .bool m.up, .int .i64 m.ck, .bool m.kn, .int .i64 m.se, .slice x1 m.ws.length n1, .slice x2 m.rs.length n2, .slice x3 m.qs.length n3, .slice x4 m.gs.length n4] T3.out
  have d0 := hrg 0 _ rfl
  have d1 := hrg 1 _ rfl
  have d2 := hrg 2 _ rfl
  have d3 := hrg 3 _ rfl
  have d4 := hrg 4 _ rfl
  have d5 := hrg 5 _ rfl
  have d6 := hrg 6 _ rfl
  have d7 := hrg 7 _ rfl
  have d8 := hrg 8 _ rfl
  simp only [Nat.zero_add] at d0 d1 d2 d3 d4 d5 d6 d7 d8
  go_wp2_with fail
  have S4 := S3.out.ex hE (by omega)
  clear hmach
  cases hpe : (p2 == 0)
  · exact bodyPost_ret (v := .tuple #[.agg #[.string m.nm, .bool m.up, .int .i64 m.ck, .bool m.kn, .int .i64 m.se, .slice x1 m.ws.length n1, .slice x2 m.rs.length n2, .slice x3 m.qs.length n3, .slice x4 m.gs.length n4], .bool false]) (by simp [results, Try.results14, go_sem, d0, d1, d2, d3, d4, d5, d6, d7, d8]) rfl ⟨m, x1, x2, x3, x4, n1, n2, n3, n4, Or.inl rfl, ⟨S4.a1.src, S4.a2.src, S4.a3.src, S4.a4.src, hcw⟩, Hf.out, Ex.mono B3.out hE (Nat.le_refl _)⟩
  · exact bodyPost_ret (v := .tuple #[.agg #[.string m.nm, .bool m.up, .int .i64 m.ck, .bool m.kn, .int .i64 m.se, .slice x1 m.ws.length n1, .slice x2 m.rs.length n2, .slice x3 m.qs.length n3, .slice x4 m.gs.length n4], .bool true]) (by simp [results, Try.results14, go_sem, d0, d1, d2, d3, d4, d5, d6, d7, d8]) rfl ⟨m, x1, x2, x3, x4, n1, n2, n3, n4, Or.inr rfl, ⟨S4.a1.src, S4.a2.src, S4.a3.src, S4.a4.src, hcw⟩, Hf.out, Ex.mono B3.out hE (Nat.le_refl _)⟩
end Go.Proofs.Ytkebokkckmgloaa
