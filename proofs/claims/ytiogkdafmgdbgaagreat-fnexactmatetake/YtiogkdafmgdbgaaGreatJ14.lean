import Derived.Test.YtiogkdafmgdbgaaGreatJ13
import Derived.Test.YtiogkdafmgdbgaaGreatJ09
import Derived.Test.YtiogkdafmgdbgaaGreatJ05
import Derived.Test.YtiogkdafmgdbgaaGreatJ11
/- A mate on deck hears that a hold is back. -/
namespace Go.Proofs.YtiogkdafmgdbgaaGreat
open Go.RowKit Go.Maps Go.WideMaps
set_option linter.unusedVariables false

def BackOk (gs : List A.AskD) (h : ByteArray) (t : Int) : Prop := ∃ a ∈ gs, a.h = h ∧ a.t = t
open Classical in
noncomputable def forgR (gs : List A.AskD) (h : ByteArray) (t : Int) : List A.AskD := if BackOk gs h t then Ord.out A.keyV h.data.toList gs else gs
theorem forgR_no {gs : List A.AskD} {h : ByteArray} {t : Int} (hn : ¬ BackOk gs h t) : forgR gs h t = gs := if_neg hn
theorem forgR_yes {gs : List A.AskD} {h : ByteArray} {t : Int} (hn : BackOk gs h t) : forgR gs h t = Ord.out A.keyV h.data.toList gs := if_pos hn
theorem back_iff {gs : List A.AskD} {a : A.AskD} {t : Int} (hs : A.Srt gs) (ha : a ∈ gs) : BackOk gs a.h t ↔ a.t = t := by
  constructor
  · rintro ⟨b, hb, e, h1⟩
    have : b = a := Ord.same A.keyV hs hb ha (by show b.h.data.toList = a.h.data.toList; rw [e])
    subst this
    exact h1
  · exact fun h => ⟨a, ha, rfl, h⟩
theorem Ex.of_turned {x y : World} {k : Nat} (h : x.mapTurned y k) : Ex k x y := Ex.of_grown h.grown

set_option maxRecDepth 4000 in
set_option maxHeartbeats 2000000 in
theorem forget_any (m : MateD) (p : ParcelD) (x1 x2 x3 x4 : Option Addr) (t1 t2 t3 t4 c1 c2 c3 c4 : Nat) (d m1 m2 m3 m4 b5 : Nat) (w : World) (hD : Deck w d #[.string m.nm, .bool m.up, .int .i64 m.ck, .bool m.kn, .int .i64 m.se, .slice x1 t1 c1, .slice x2 t2 c2, .slice x3 t3 c3, .slice x4 t4 c4, .map (some m1), .map (some m2), .map (some m3), .map (some m4)] m1 m2 m3 m4 m.ws m.rs m.qs m.gs) (e1 : m1 < m2) (e2 : m2 < m3) (e3 : m3 < m4) (e4 : m4 < d) (hp : p.fits) (s4 : A.Srt m.gs) :
    Calls Tryz.prog 32 #[.pointer (some ⟨d, 0, none⟩), .agg #[.int .i64 p.k, .string p.b, .int .i64 p.s, .slice (some ⟨b5, 0, none⟩) p.ws.length p.ws.length, .string p.h, .string p.c, .int .i64 p.t]] w fun e w' => e = .returned (.tuple #[]) ∧ Deck w' d #[.string m.nm, .bool m.up, .int .i64 m.ck, .bool m.kn, .int .i64 m.se, .slice x1 t1 c1, .slice x2 t2 c2, .slice x3 t3 c3, .slice x4 t4 c4, .map (some m1), .map (some m2), .map (some m3), .map (some m4)] m1 m2 m3 m4 m.ws m.rs m.qs (forgR m.gs p.h p.t) ∧ Ex m4 w w' := by
  have HD : Hid (Deck w d #[.string m.nm, .bool m.up, .int .i64 m.ck, .bool m.kn, .int .i64 m.se, .slice x1 t1 c1, .slice x2 t2 c2, .slice x3 t3 c3, .slice x4 t4 c4, .map (some m1), .map (some m2), .map (some m3), .map (some m4)] m1 m2 m3 m4 m.ws m.rs m.qs m.gs) := hD
  have Hb0 : Hid (Below w.heap.size w (w.alloc (.cells #[.int .i64 p.k, .string p.b, .int .i64 p.s, .slice (some ⟨b5, 0, none⟩) p.ws.length p.ws.length, .string p.h, .string p.c, .int .i64 p.t] 39))) := bl_alloc (Below.refl _ _) _
  have D0 : Hid (Deck (w.alloc (.cells #[.int .i64 p.k, .string p.b, .int .i64 p.s, .slice (some ⟨b5, 0, none⟩) p.ws.length p.ws.length, .string p.h, .string p.c, .int .i64 p.t] 39)) d #[.string m.nm, .bool m.up, .int .i64 m.ck, .bool m.kn, .int .i64 m.se, .slice x1 t1 c1, .slice x2 t2 c2, .slice x3 t3 c3, .slice x4 t4 c4, .map (some m1), .map (some m2), .map (some m3), .map (some m4)] m1 m2 m3 m4 m.ws m.rs m.qs m.gs) := hD.keep Hb0.out
  have Hs4 : Hid (A.Srt m.gs) := s4
  have kc := hD.c
  have kf := hD.f
  have kl := hD.l
  have hph := hp.h
  clear hD hp s4
  obtain ⟨n4, o4⟩ := D0.out.o4
  have O4 : Hid ((w.alloc (.cells #[.int .i64 p.k, .string p.b, .int .i64 p.s, .slice (some ⟨b5, 0, none⟩) p.ws.length p.ws.length, .string p.h, .string p.c, .int .i64 p.t] 39)).ownsMap Tryz.prog 9 A.RV m4 n4 (A.dec m.gs)) := o4
  clear o4
  have hask : (∃ a ∈ m.gs, a.h = p.h) ∨ (∀ a ∈ m.gs, a.h ≠ p.h) := by
    by_cases h : ∃ a ∈ m.gs, a.h = p.h
    · exact Or.inl h
    · exact Or.inr (fun a ha e => h ⟨a, ha, e⟩)
  rcases hask with ⟨a, ha, hah⟩ | hno
  · obtain ⟨pk, pb, ps, pw, ph, pc, pt⟩ := p
    simp only at *
    subst hah
    have Ha : Hid (a ∈ m.gs) := ha
    clear ha
    have KP : Hid (∀ y, Below (w.alloc (.cells #[.int .i64 pk, .string pb, .int .i64 ps, .slice (some ⟨b5, 0, none⟩) pw.length pw.length, .string a.h, .string pc, .int .i64 pt] 39)).heap.size (w.alloc (.cells #[.int .i64 pk, .string pb, .int .i64 ps, .slice (some ⟨b5, 0, none⟩) pw.length pw.length, .string a.h, .string pc, .int .i64 pt] 39)) y → Below (w.alloc (.cells #[.int .i64 pk, .string pb, .int .i64 ps, .slice (some ⟨b5, 0, none⟩) pw.length pw.length, .string a.h, .string pc, .int .i64 pt] 39)).heap.size (w.alloc (.cells #[.int .i64 pk, .string pb, .int .i64 ps, .slice (some ⟨b5, 0, none⟩) pw.length pw.length, .string a.h, .string pc, .int .i64 pt] 39)) y ∧ (y.cell? ⟨d, 12, none⟩ = some (.map (some m4)) ∧ y.cell? ⟨w.heap.size, 4, none⟩ = some (.string a.h) ∧ Sem.run Tryz.prog (Instr.lookup 100 (.map (some m4)) (.string a.h) true) y = .ok (.tuple #[.agg #[.string a.h, .string a.c, .int .i64 a.f, .int .i64 a.t], .bool true]) y)) := fun y hb => by
      have Dy := D0.out.keep hb
      refine ⟨hb, Dy.c 12, ?_, A.lookV_yes m4 n4 m.gs (A.mapv_below O4.out hb) Hs4.out a Ha.out hph⟩
      rw [box_keep hb 4]; simp [go_sem]
    go_enter Tryz.func32, Tryz.ntmps32
    go_wp2_with fail
    refine wp_region_noPanic ?_
    refine wp_region_held_drew (S := (fun y => Below (w.alloc (.cells #[.int .i64 pk, .string pb, .int .i64 ps, .slice (some ⟨b5, 0, none⟩) pw.length pw.length, .string a.h, .string pc, .int .i64 pt] 39)).heap.size (w.alloc (.cells #[.int .i64 pk, .string pb, .int .i64 ps, .slice (some ⟨b5, 0, none⟩) pw.length pw.length, .string a.h, .string pc, .int .i64 pt] 39)) y ∧ (y.cell? ⟨d, 12, none⟩ = some (.map (some m4)) ∧ y.cell? ⟨w.heap.size, 4, none⟩ = some (.string a.h) ∧ Sem.run Tryz.prog (Instr.lookup 100 (.map (some m4)) (.string a.h) true) y = .ok (.tuple #[.agg #[.string a.h, .string a.c, .int .i64 a.f, .int .i64 a.t], .bool true]) y))) (by kernel_rfl) (KP.out _ (bl_drew (Below.refl _ _))) (fun hHeld => ?_)
    refine wpAnyH_take (i := 0) (v := ?vx58) rfl (by kernel_rfl) (by kernel_rfl) (by kernel_rfl) (fun _ _ _ h => h) (Or.inl ⟨by rfl, ?hx58⟩) (by assumption) ?rx58
    case hx58 => (intro w hSw; (try dsimp only at hSw); go_simp; try (with_reducible rfl))
    try simp only [Act.put, List.setIfInBounds_toArray, List.set_cons_zero, List.set_cons_succ, List.getElem_toArray, List.getElem_cons_zero]
    refine wpAnyH_take (i := 1) (v := ?vx59) rfl (by kernel_rfl) (by kernel_rfl) (by kernel_rfl) (fun _ _ _ h => h) (Or.inl ⟨by rfl, ?hx59⟩) (by assumption) ?rx59
    case hx59 => (intro w hSw; (try dsimp only at hSw); go_simp; try (with_reducible rfl))
    try simp only [Act.put, List.setIfInBounds_toArray, List.set_cons_zero, List.set_cons_succ, List.getElem_toArray, List.getElem_cons_zero, List.getElem_cons_succ]
    refine wpAnyH_take (i := 2) (v := ?vx60) rfl (by kernel_rfl) (by kernel_rfl) (by kernel_rfl) (fun _ _ _ h => h) (Or.inl ⟨by rfl, ?hx60⟩) (by assumption) ?rx60
    case hx60 => (intro w hSw; (try dsimp only at hSw); go_simp; try (with_reducible rfl))
    try simp only [Act.put, List.setIfInBounds_toArray, List.set_cons_zero, List.set_cons_succ, List.getElem_toArray, List.getElem_cons_zero, List.getElem_cons_succ]
    refine wpAnyH_take (i := 3) (v := ?vx61) rfl (by kernel_rfl) (by kernel_rfl) (by kernel_rfl) (fun _ _ _ h => h) (Or.inl ⟨by rfl, ?hx61⟩) (by assumption) ?rx61
    case hx61 => (intro w hSw; (try dsimp only at hSw); go_simp; try (with_reducible rfl))
    try simp only [Act.put, List.setIfInBounds_toArray, List.set_cons_zero, List.set_cons_succ, List.getElem_toArray, List.getElem_cons_zero, List.getElem_cons_succ]
    refine wpAnyH_take (i := 4) (v := ?vx62) rfl (by kernel_rfl) (by kernel_rfl) (by kernel_rfl) (fun _ _ _ h => h) (Or.inl ⟨by rfl, ?hx62⟩) (by assumption) ?rx62
    case hx62 => (intro w hSw; (try dsimp only at hSw); go_simp; try (with_reducible rfl))
    try simp only [Act.put, List.setIfInBounds_toArray, List.set_cons_zero, List.set_cons_succ, List.getElem_toArray, List.getElem_cons_zero, List.getElem_cons_succ]
    refine wpAnyH_take (i := 5) (v := ?vx63) rfl (by kernel_rfl) (by kernel_rfl) (by kernel_rfl) (fun _ _ _ h => h) (Or.inl ⟨by rfl, ?hx63⟩) (by assumption) ?rx63
    case hx63 => (intro w hSw; (try dsimp only at hSw); go_simp; try (with_reducible rfl))
    try simp only [Act.put, List.setIfInBounds_toArray, List.set_cons_zero, List.set_cons_succ, List.getElem_toArray, List.getElem_cons_zero, List.getElem_cons_succ]
    refine wpAnyH_take (i := 6) (v := ?vx64) rfl (by kernel_rfl) (by kernel_rfl) (by kernel_rfl) (fun _ _ _ h => h) (Or.inl ⟨by rfl, ?hx64⟩) (by assumption) ?rx64
    case hx64 => (intro w hSw; (try dsimp only at hSw); go_simp; try (with_reducible rfl))
    try simp only [Act.put, List.setIfInBounds_toArray, List.set_cons_zero, List.set_cons_succ, List.getElem_toArray, List.getElem_cons_zero, List.getElem_cons_succ]
    refine wpAnyH_take (i := 7) (v := ?vx65) rfl (by kernel_rfl) (by kernel_rfl) (by kernel_rfl) (fun _ _ _ h => h) (Or.inl ⟨by rfl, ?hx65⟩) (by assumption) ?rx65
    case hx65 => (intro w hSw; (try dsimp only at hSw); go_simp; try (with_reducible rfl))
    try simp only [Act.put, List.setIfInBounds_toArray, List.set_cons_zero, List.set_cons_succ, List.getElem_toArray, List.getElem_cons_zero, List.getElem_cons_succ]
    refine wpAnyH_take (i := 8) (v := ?vx66) rfl (by kernel_rfl) (by kernel_rfl) (by kernel_rfl) (fun _ _ _ h => h) (Or.inl ⟨by rfl, ?hx66⟩) (by assumption) ?rx66
    case hx66 => (intro w hSw; (try dsimp only at hSw); go_simp; try (with_reducible rfl))
    try simp only [Act.put, List.setIfInBounds_toArray, List.set_cons_zero, List.set_cons_succ, List.getElem_toArray, List.getElem_cons_zero, List.getElem_cons_succ]
    refine wpAnyH_take (i := 9) (v := ?vx67) rfl (by kernel_rfl) (by kernel_rfl) (by kernel_rfl) (fun _ _ _ h => h) (Or.inl ⟨by rfl, ?hx67⟩) (by assumption) ?rx67
    case hx67 => (intro w hSw; (try dsimp only at hSw); go_simp; try (with_reducible rfl))
    try simp only [Act.put, List.setIfInBounds_toArray, List.set_cons_zero, List.set_cons_succ, List.getElem_toArray, List.getElem_cons_zero, List.getElem_cons_succ]
    refine wpAnyH_ready (rs := [10]) (by kernel_rfl) (by simp) ?_
    refine AllReadyH.cons rfl (fun K hK => ?_) AllReadyH.nil
    go_simp
    refine hK.out _ _ (KP.out _ (bl_alloc (bl_drew (Below.refl _ _)) _)) (fun hHeld1 => ?_)
    clear hK K hHeld
    try simp only [Act.put, List.setIfInBounds_toArray, List.set_cons_zero, List.set_cons_succ, List.getElem_toArray, List.getElem_cons_zero, List.getElem_cons_succ]
    refine wpAnyH_ready (rs := [11]) (by kernel_rfl) (by simp) ?_
    refine AllReadyH.cons rfl (fun K hK => ?_) AllReadyH.nil
    go_simp
    refine hK.out _ _ (KP.out _ (bl_drew (bl_alloc (Below.refl _ _) _))) (fun hHeld2 => ?_)
    clear hK K hHeld1
    try simp only [Act.put, List.setIfInBounds_toArray, List.set_cons_zero, List.set_cons_succ, List.getElem_toArray, List.getElem_cons_zero, List.getElem_cons_succ]
    refine wpAnyH_take (i := 12) (v := ?vx68) rfl (by kernel_rfl) (by kernel_rfl) (by kernel_rfl) (fun _ _ _ h => h) (Or.inl ⟨by rfl, ?hx68⟩) (by assumption) ?rx68
    case hx68 => (intro w hSw; (try dsimp only at hSw); go_simp; try (with_reducible rfl))
    try simp only [Act.put, List.setIfInBounds_toArray, List.set_cons_zero, List.set_cons_succ, List.getElem_toArray, List.getElem_cons_zero, List.getElem_cons_succ]
    refine wpAnyH_done (by kernel_rfl) ?_ _
    refine NoPanic.normal ?_
    clear hHeld2
    by_cases hat : a.t = pt
    · have o5 : (World.drew ((w.alloc (.cells #[.int .i64 pk, .string pb, .int .i64 ps, .slice (some ⟨b5, 0, none⟩) pw.length pw.length, .string a.h, .string pc, .int .i64 pt] 39)).alloc (.cells #[.string a.h, .string a.c, .int .i64 a.f, .int .i64 a.t] 55))).ownsMap Tryz.prog 9 A.RV m4 n4 (A.dec m.gs) := A.mapv_below O4.out (bl_drew (bl_alloc (Below.refl _ _) _))
      have O5 : Hid ((World.drew ((w.alloc (.cells #[.int .i64 pk, .string pb, .int .i64 ps, .slice (some ⟨b5, 0, none⟩) pw.length pw.length, .string a.h, .string pc, .int .i64 pt] 39)).alloc (.cells #[.string a.h, .string a.c, .int .i64 a.f, .int .i64 a.t] 55))).ownsMap Tryz.prog 9 A.RV m4 n4 (A.dec m.gs)) := o5
      clear o5
      subst hat
      have bx2 : Below w.heap.size w (World.drew ((w.alloc (.cells #[.int .i64 pk, .string pb, .int .i64 ps, .slice (some ⟨b5, 0, none⟩) pw.length pw.length, .string a.h, .string pc, .int .i64 a.t] 39)).alloc (.cells #[.string a.h, .string a.c, .int .i64 a.f, .int .i64 a.t] 55))) := (by repeat (first | exact Below.refl _ _ | with_reducible refine bl_drew ?_ | refine bl_alloc ?_ _))
      have BX2 : Hid (Below w.heap.size w (World.drew ((w.alloc (.cells #[.int .i64 pk, .string pb, .int .i64 ps, .slice (some ⟨b5, 0, none⟩) pw.length pw.length, .string a.h, .string pc, .int .i64 a.t] 39)).alloc (.cells #[.string a.h, .string a.c, .int .i64 a.f, .int .i64 a.t] 55)))) := bx2
      clear bx2
      have hdm : d ≠ m4 := by omega
      have hwm : w.heap.size ≠ m4 := by omega
      have KR : Hid (∀ y, Below (World.drew ((w.alloc (.cells #[.int .i64 pk, .string pb, .int .i64 ps, .slice (some ⟨b5, 0, none⟩) pw.length pw.length, .string a.h, .string pc, .int .i64 a.t] 39)).alloc (.cells #[.string a.h, .string a.c, .int .i64 a.f, .int .i64 a.t] 55))).heap.size (World.drew ((w.alloc (.cells #[.int .i64 pk, .string pb, .int .i64 ps, .slice (some ⟨b5, 0, none⟩) pw.length pw.length, .string a.h, .string pc, .int .i64 a.t] 39)).alloc (.cells #[.string a.h, .string a.c, .int .i64 a.f, .int .i64 a.t] 55))) y → (y.cell? ⟨d, 12, none⟩ = some (.map (some m4)) ∧ y.cell? ⟨w.heap.size, 4, none⟩ = some (.string a.h))) := fun y hb => by
        have Dy := HD.out.keep (bl_trans BX2.out hb)
        refine ⟨Dy.c 12, ?_⟩
        rw [hb.cell (p := ⟨w.heap.size, 4, none⟩) (by simp; omega)]; simp [go_sem]
      go_wp2_with fail
      refine wp_region_noPanic ?_
      refine wp_region_held_drew (S := (fun y => y.cell? ⟨d, 12, none⟩ = some (.map (some m4)) ∧ y.cell? ⟨w.heap.size, 4, none⟩ = some (.string a.h))) (by kernel_rfl) (KR.out _ (bl_drew (Below.refl _ _))) (fun hHeld => ?_)
      refine wpAnyH_take (i := 0) (v := ?vx52) rfl (by kernel_rfl) (by kernel_rfl) (by kernel_rfl) (fun _ _ _ h => h) (Or.inl ⟨by rfl, ?hx52⟩) (by assumption) ?rx52
      case hx52 => (intro w hSw; (try dsimp only at hSw); go_simp; try (with_reducible rfl))
      try simp only [Act.put, List.setIfInBounds_toArray, List.set_cons_zero, List.set_cons_succ, List.getElem_toArray, List.getElem_cons_zero]
      refine wpAnyH_take (i := 1) (v := ?vx53) rfl (by kernel_rfl) (by kernel_rfl) (by kernel_rfl) (fun _ _ _ h => h) (Or.inl ⟨by rfl, ?hx53⟩) (by assumption) ?rx53
      case hx53 => (intro w hSw; (try dsimp only at hSw); go_simp; try (with_reducible rfl))
      try simp only [Act.put, List.setIfInBounds_toArray, List.set_cons_zero, List.set_cons_succ, List.getElem_toArray, List.getElem_cons_zero, List.getElem_cons_succ]
      refine wpAnyH_take (i := 2) (v := ?vx54) rfl (by kernel_rfl) (by kernel_rfl) (by kernel_rfl) (fun _ _ _ h => h) (Or.inl ⟨by rfl, ?hx54⟩) (by assumption) ?rx54
      case hx54 => (intro w hSw; (try dsimp only at hSw); go_simp; try (with_reducible rfl))
      try simp only [Act.put, List.setIfInBounds_toArray, List.set_cons_zero, List.set_cons_succ, List.getElem_toArray, List.getElem_cons_zero, List.getElem_cons_succ]
      refine wpAnyH_take (i := 3) (v := ?vx55) rfl (by kernel_rfl) (by kernel_rfl) (by kernel_rfl) (fun _ _ _ h => h) (Or.inl ⟨by rfl, ?hx55⟩) (by assumption) ?rx55
      case hx55 => (intro w hSw; (try dsimp only at hSw); go_simp; try (with_reducible rfl))
      try simp only [Act.put, List.setIfInBounds_toArray, List.set_cons_zero, List.set_cons_succ, List.getElem_toArray, List.getElem_cons_zero, List.getElem_cons_succ]
      refine wpAnyH_take (i := 4) (v := ?vx56) rfl (by kernel_rfl) (by kernel_rfl) (by kernel_rfl) (fun _ _ _ h => h) (Or.inl ⟨by rfl, ?hx56⟩) (by assumption) ?rx56
      case hx56 => (intro w hSw; (try dsimp only at hSw); go_simp; try (with_reducible rfl))
      try simp only [Act.put, List.setIfInBounds_toArray, List.set_cons_zero, List.set_cons_succ, List.getElem_toArray, List.getElem_cons_zero, List.getElem_cons_succ]
      refine wpAnyH_take (i := 5) (v := ?vx57) rfl (by kernel_rfl) (by kernel_rfl) (by kernel_rfl) (fun _ _ _ h => h) (Or.inl ⟨by rfl, ?hx57⟩) (by assumption) ?rx57
      case hx57 => (intro w hSw; (try dsimp only at hSw); go_simp; try (with_reducible rfl))
      try simp only [Act.put, List.setIfInBounds_toArray, List.set_cons_zero, List.set_cons_succ, List.getElem_toArray, List.getElem_cons_zero, List.getElem_cons_succ]
      have hms := (A.mapv_below O5.out (bl_drew (Below.refl _ _))).drop A.lawV (t := 100) (e := 55) Tryz.underlying100 (keyOf_string_mk Tryz.underlying9 hph) 0
      obtain ⟨w5, hru5, ho5, hg5⟩ := hms
      refine wpAnyH_ready (rs := [6]) (by kernel_rfl) (by simp) ?_
      refine AllReadyH.cons rfl (fun K hK => ?_) AllReadyH.nil
      go_simp
      have hS := KR.out _ (bl_drew (Below.refl _ _))
      refine hK.out _ _ ⟨hg5.grown.cell hS.1 (by simpa using hdm), hg5.grown.cell hS.2 (by simpa using hwm)⟩ (fun hHeld1 => ?_)
      clear hK K hHeld hS
      try simp only [Act.put, List.setIfInBounds_toArray, List.set_cons_zero, List.set_cons_succ, List.getElem_toArray, List.getElem_cons_zero, List.getElem_cons_succ]
      refine wpAnyH_done (by kernel_rfl) ?_ _
      refine NoPanic.normal ?_
      clear hHeld1
      have E5 : Hid (Ex m4 w w5) := Ex.trans (Ex.of_below (bl_trans BX2.out (bl_drew (Below.refl _ _)))) (Ex.of_turned hg5)
      have O6 : Hid (w5.ownsMap Tryz.prog 9 A.RV m4 n4 (A.dec (Ord.out A.keyV a.h.data.toList m.gs))) := by
        show World.ownsMap _ _ _ _ _ _ _
        rw [← show (A.dec m.gs).del (Lit.string a.h.data.toList) = A.dec (Ord.out A.keyV a.h.data.toList m.gs) from Ord.dec_del A.keyV _ _]
        exact ho5
      clear hg5 ho5 hru5
      go_wp2
      exact bodyPost_end (v := .tuple #[]) (by simp [results, Tryz.results32, go_sem]) rfl ⟨rfl, by
        rw [forgR_yes ((back_iff Hs4.out Ha.out).2 rfl)]
        have h := HD.out
        obtain ⟨q1, p1⟩ := h.o1
        obtain ⟨q2, p2⟩ := h.o2
        obtain ⟨q3, p3⟩ := h.o3
        exact ⟨fun k => (E5.out.cell (p := ⟨d, k, none⟩) h.l (by show d ≠ m4; omega)).trans (h.c k), fun k => (E5.out.frozen (p := ⟨d, k, none⟩) h.l (by show d ≠ m4; omega)).trans (h.f k), Nat.lt_of_lt_of_le h.l E5.out.size, ⟨q1, mapv_ex p1 E5.out (by omega)⟩, ⟨q2, mapv_ex p2 E5.out (by omega)⟩, ⟨q3, mapv_ex p3 E5.out (by omega)⟩, ⟨_, O6.out⟩⟩, E5.out⟩
    · have hat' : (a.t == pt) = false := by simpa using hat
      have Hat : Hid _ := hat
      clear hat
      go_wp2_with fail
      exact bodyPost_end (v := .tuple #[]) (by simp [results, Tryz.results32, go_sem]) rfl ⟨rfl, by rw [forgR_no (fun h => Hat.out ((back_iff Hs4.out Ha.out).1 h))]; exact HD.out.keep (by repeat (first | exact Below.refl _ _ | with_reducible refine bl_drew ?_ | refine bl_alloc ?_ _)), Ex.of_below (by repeat (first | exact Below.refl _ _ | with_reducible refine bl_drew ?_ | refine bl_alloc ?_ _))⟩
  · have Hno : Hid (∀ a ∈ m.gs, a.h ≠ p.h) := hno
    clear hno
    have KP : Hid (∀ y, Below (w.alloc (.cells #[.int .i64 p.k, .string p.b, .int .i64 p.s, .slice (some ⟨b5, 0, none⟩) p.ws.length p.ws.length, .string p.h, .string p.c, .int .i64 p.t] 39)).heap.size (w.alloc (.cells #[.int .i64 p.k, .string p.b, .int .i64 p.s, .slice (some ⟨b5, 0, none⟩) p.ws.length p.ws.length, .string p.h, .string p.c, .int .i64 p.t] 39)) y → Below (w.alloc (.cells #[.int .i64 p.k, .string p.b, .int .i64 p.s, .slice (some ⟨b5, 0, none⟩) p.ws.length p.ws.length, .string p.h, .string p.c, .int .i64 p.t] 39)).heap.size (w.alloc (.cells #[.int .i64 p.k, .string p.b, .int .i64 p.s, .slice (some ⟨b5, 0, none⟩) p.ws.length p.ws.length, .string p.h, .string p.c, .int .i64 p.t] 39)) y ∧ (y.cell? ⟨d, 12, none⟩ = some (.map (some m4)) ∧ y.cell? ⟨w.heap.size, 4, none⟩ = some (.string p.h) ∧ Sem.run Tryz.prog (Instr.lookup 100 (.map (some m4)) (.string p.h) true) y = .ok (.tuple #[.agg #[.string ⟨#[]⟩, .string ⟨#[]⟩, .int .i64 0, .int .i64 0], .bool false]) y)) := fun y hb => by
      have Dy := D0.out.keep hb
      refine ⟨hb, Dy.c 12, ?_, A.lookV_no m4 n4 m.gs (A.mapv_below O4.out hb) Hs4.out p.h hph Hno.out⟩
      rw [box_keep hb 4]; simp [go_sem]
    go_enter Tryz.func32, Tryz.ntmps32
    go_wp2_with fail
    refine wp_region_noPanic ?_
    refine wp_region_held_drew (S := (fun y => Below (w.alloc (.cells #[.int .i64 p.k, .string p.b, .int .i64 p.s, .slice (some ⟨b5, 0, none⟩) p.ws.length p.ws.length, .string p.h, .string p.c, .int .i64 p.t] 39)).heap.size (w.alloc (.cells #[.int .i64 p.k, .string p.b, .int .i64 p.s, .slice (some ⟨b5, 0, none⟩) p.ws.length p.ws.length, .string p.h, .string p.c, .int .i64 p.t] 39)) y ∧ (y.cell? ⟨d, 12, none⟩ = some (.map (some m4)) ∧ y.cell? ⟨w.heap.size, 4, none⟩ = some (.string p.h) ∧ Sem.run Tryz.prog (Instr.lookup 100 (.map (some m4)) (.string p.h) true) y = .ok (.tuple #[.agg #[.string ⟨#[]⟩, .string ⟨#[]⟩, .int .i64 0, .int .i64 0], .bool false]) y))) (by kernel_rfl) (KP.out _ (bl_drew (Below.refl _ _))) (fun hHeld => ?_)
    refine wpAnyH_take (i := 0) (v := ?vx69) rfl (by kernel_rfl) (by kernel_rfl) (by kernel_rfl) (fun _ _ _ h => h) (Or.inl ⟨by rfl, ?hx69⟩) (by assumption) ?rx69
    case hx69 => (intro w hSw; (try dsimp only at hSw); go_simp; try (with_reducible rfl))
    try simp only [Act.put, List.setIfInBounds_toArray, List.set_cons_zero, List.set_cons_succ, List.getElem_toArray, List.getElem_cons_zero]
    refine wpAnyH_take (i := 1) (v := ?vx70) rfl (by kernel_rfl) (by kernel_rfl) (by kernel_rfl) (fun _ _ _ h => h) (Or.inl ⟨by rfl, ?hx70⟩) (by assumption) ?rx70
    case hx70 => (intro w hSw; (try dsimp only at hSw); go_simp; try (with_reducible rfl))
    try simp only [Act.put, List.setIfInBounds_toArray, List.set_cons_zero, List.set_cons_succ, List.getElem_toArray, List.getElem_cons_zero, List.getElem_cons_succ]
    refine wpAnyH_take (i := 2) (v := ?vx71) rfl (by kernel_rfl) (by kernel_rfl) (by kernel_rfl) (fun _ _ _ h => h) (Or.inl ⟨by rfl, ?hx71⟩) (by assumption) ?rx71
    case hx71 => (intro w hSw; (try dsimp only at hSw); go_simp; try (with_reducible rfl))
    try simp only [Act.put, List.setIfInBounds_toArray, List.set_cons_zero, List.set_cons_succ, List.getElem_toArray, List.getElem_cons_zero, List.getElem_cons_succ]
    refine wpAnyH_take (i := 3) (v := ?vx72) rfl (by kernel_rfl) (by kernel_rfl) (by kernel_rfl) (fun _ _ _ h => h) (Or.inl ⟨by rfl, ?hx72⟩) (by assumption) ?rx72
    case hx72 => (intro w hSw; (try dsimp only at hSw); go_simp; try (with_reducible rfl))
    try simp only [Act.put, List.setIfInBounds_toArray, List.set_cons_zero, List.set_cons_succ, List.getElem_toArray, List.getElem_cons_zero, List.getElem_cons_succ]
    refine wpAnyH_take (i := 4) (v := ?vx73) rfl (by kernel_rfl) (by kernel_rfl) (by kernel_rfl) (fun _ _ _ h => h) (Or.inl ⟨by rfl, ?hx73⟩) (by assumption) ?rx73
    case hx73 => (intro w hSw; (try dsimp only at hSw); go_simp; try (with_reducible rfl))
    try simp only [Act.put, List.setIfInBounds_toArray, List.set_cons_zero, List.set_cons_succ, List.getElem_toArray, List.getElem_cons_zero, List.getElem_cons_succ]
    refine wpAnyH_take (i := 5) (v := ?vx74) rfl (by kernel_rfl) (by kernel_rfl) (by kernel_rfl) (fun _ _ _ h => h) (Or.inl ⟨by rfl, ?hx74⟩) (by assumption) ?rx74
    case hx74 => (intro w hSw; (try dsimp only at hSw); go_simp; try (with_reducible rfl))
    try simp only [Act.put, List.setIfInBounds_toArray, List.set_cons_zero, List.set_cons_succ, List.getElem_toArray, List.getElem_cons_zero, List.getElem_cons_succ]
    refine wpAnyH_take (i := 6) (v := ?vx75) rfl (by kernel_rfl) (by kernel_rfl) (by kernel_rfl) (fun _ _ _ h => h) (Or.inl ⟨by rfl, ?hx75⟩) (by assumption) ?rx75
    case hx75 => (intro w hSw; (try dsimp only at hSw); go_simp; try (with_reducible rfl))
    try simp only [Act.put, List.setIfInBounds_toArray, List.set_cons_zero, List.set_cons_succ, List.getElem_toArray, List.getElem_cons_zero, List.getElem_cons_succ]
    refine wpAnyH_take (i := 7) (v := ?vx76) rfl (by kernel_rfl) (by kernel_rfl) (by kernel_rfl) (fun _ _ _ h => h) (Or.inl ⟨by rfl, ?hx76⟩) (by assumption) ?rx76
    case hx76 => (intro w hSw; (try dsimp only at hSw); go_simp; try (with_reducible rfl))
    try simp only [Act.put, List.setIfInBounds_toArray, List.set_cons_zero, List.set_cons_succ, List.getElem_toArray, List.getElem_cons_zero, List.getElem_cons_succ]
    refine wpAnyH_take (i := 8) (v := ?vx77) rfl (by kernel_rfl) (by kernel_rfl) (by kernel_rfl) (fun _ _ _ h => h) (Or.inl ⟨by rfl, ?hx77⟩) (by assumption) ?rx77
    case hx77 => (intro w hSw; (try dsimp only at hSw); go_simp; try (with_reducible rfl))
    try simp only [Act.put, List.setIfInBounds_toArray, List.set_cons_zero, List.set_cons_succ, List.getElem_toArray, List.getElem_cons_zero, List.getElem_cons_succ]
    refine wpAnyH_take (i := 9) (v := ?vx78) rfl (by kernel_rfl) (by kernel_rfl) (by kernel_rfl) (fun _ _ _ h => h) (Or.inl ⟨by rfl, ?hx78⟩) (by assumption) ?rx78
    case hx78 => (intro w hSw; (try dsimp only at hSw); go_simp; try (with_reducible rfl))
    try simp only [Act.put, List.setIfInBounds_toArray, List.set_cons_zero, List.set_cons_succ, List.getElem_toArray, List.getElem_cons_zero, List.getElem_cons_succ]
    refine wpAnyH_ready (rs := [10]) (by kernel_rfl) (by simp) ?_
    refine AllReadyH.cons rfl (fun K hK => ?_) AllReadyH.nil
    go_simp
    refine hK.out _ _ (KP.out _ (bl_alloc (bl_drew (Below.refl _ _)) _)) (fun hHeld1 => ?_)
    clear hK K hHeld
    try simp only [Act.put, List.setIfInBounds_toArray, List.set_cons_zero, List.set_cons_succ, List.getElem_toArray, List.getElem_cons_zero, List.getElem_cons_succ]
    refine wpAnyH_ready (rs := [11]) (by kernel_rfl) (by simp) ?_
    refine AllReadyH.cons rfl (fun K hK => ?_) AllReadyH.nil
    go_simp
    refine hK.out _ _ (KP.out _ (bl_drew (bl_alloc (Below.refl _ _) _))) (fun hHeld2 => ?_)
    clear hK K hHeld1
    try simp only [Act.put, List.setIfInBounds_toArray, List.set_cons_zero, List.set_cons_succ, List.getElem_toArray, List.getElem_cons_zero, List.getElem_cons_succ]
    refine wpAnyH_take (i := 12) (v := ?vx79) rfl (by kernel_rfl) (by kernel_rfl) (by kernel_rfl) (fun _ _ _ h => h) (Or.inl ⟨by rfl, ?hx79⟩) (by assumption) ?rx79
    case hx79 => (intro w hSw; (try dsimp only at hSw); go_simp; try (with_reducible rfl))
    try simp only [Act.put, List.setIfInBounds_toArray, List.set_cons_zero, List.set_cons_succ, List.getElem_toArray, List.getElem_cons_zero, List.getElem_cons_succ]
    refine wpAnyH_done (by kernel_rfl) ?_ _
    refine NoPanic.normal ?_
    clear hHeld2
    go_wp2_with fail
    exact bodyPost_end (v := .tuple #[]) (by simp [results, Tryz.results32, go_sem]) rfl ⟨rfl, by rw [forgR_no (fun ⟨a, ha, e, _⟩ => Hno.out a ha e)]; exact HD.out.keep (by repeat (first | exact Below.refl _ _ | with_reducible refine bl_drew ?_ | refine bl_alloc ?_ _)), Ex.of_below (by repeat (first | exact Below.refl _ _ | with_reducible refine bl_drew ?_ | refine bl_alloc ?_ _))⟩
end Go.Proofs.YtiogkdafmgdbgaaGreat
/- MateRunsOk: the program's side. -/
namespace Go.Proofs.YtiogkdafmgdbgaaGreat
open Go.RowKit
set_option linter.unusedVariables false

theorem implRunOk_q (c h : ByteArray) (v p s d g a b i u clock : Int) (w : World) (hc : c.size ≤ maxLen) (hh : h.size ≤ maxLen) (q : Bool) (hq : runB c h v p s d g a b i u clock = q) :
    Calls Tryz.prog 103 #[.agg #[.string c, .int .i64 v, .string h, .int .i64 p, .int .i64 s, .int .i64 d, .int .i64 g, .int .i64 a, .int .i64 b, .int .i64 i, .int .i64 u], .int .i64 clock] w fun e w' => e = .returned (.bool q) ∧ Below w.heap.size w w' := by
  rw [← hq]; exact implRunOk_any c h v p s d g a b i u clock w hc hh
theorem runOf_b (c h : ByteArray) (v p s d g a b i u : Int) (w : World) :
    Calls Tryz.prog 102 #[.agg #[.string c, .int .i64 v, .string h, .int .i64 p, .int .i64 s, .int .i64 d, .int .i64 g, .int .i64 a, .int .i64 b, .int .i64 i, .int .i64 u]] w fun e w' => e = .returned (.agg #[.string c, .int .i64 v, .string h, .int .i64 p, .int .i64 s, .int .i64 d, .int .i64 g, .int .i64 a, .int .i64 b, .int .i64 i, .int .i64 u]) ∧ Below w.heap.size w w' := by
  refine (runOf_any c h v p s d g a b i u w).mono ?_
  rintro e w' ⟨rfl, rfl⟩
  exact ⟨rfl, by repeat (first | exact Below.refl _ _ | refine bl_alloc ?_ _)⟩
theorem closK {w w' : World} {bk : Nat} {clock : Int} {r : RunD} (hc : w.cell? ⟨bk, 0, none⟩ = some (.int .i64 clock)) (lk : bk < w.heap.size) (hb : Below (w.alloc (.cells #[.string r.c, .int .i64 r.v, .string r.h, .int .i64 r.p, .int .i64 r.s, .int .i64 r.d, .int .i64 r.g, .int .i64 r.a, .int .i64 r.b, .int .i64 r.i, .int .i64 r.u] 59)).heap.size (w.alloc (.cells #[.string r.c, .int .i64 r.v, .string r.h, .int .i64 r.p, .int .i64 r.s, .int .i64 r.d, .int .i64 r.g, .int .i64 r.a, .int .i64 r.b, .int .i64 r.i, .int .i64 r.u] 59)) w') :
    Below (w.alloc (.cells #[.string r.c, .int .i64 r.v, .string r.h, .int .i64 r.p, .int .i64 r.s, .int .i64 r.d, .int .i64 r.g, .int .i64 r.a, .int .i64 r.b, .int .i64 r.i, .int .i64 r.u] 59)).heap.size (w.alloc (.cells #[.string r.c, .int .i64 r.v, .string r.h, .int .i64 r.p, .int .i64 r.s, .int .i64 r.d, .int .i64 r.g, .int .i64 r.a, .int .i64 r.b, .int .i64 r.i, .int .i64 r.u] 59)) w' ∧ (w'.cell? ⟨w.heap.size, 0, none⟩ = some (.string r.c) ∧ w'.cell? ⟨w.heap.size, 1, none⟩ = some (.int .i64 r.v) ∧ w'.cell? ⟨w.heap.size, 2, none⟩ = some (.string r.h) ∧ w'.cell? ⟨w.heap.size, 3, none⟩ = some (.int .i64 r.p) ∧ w'.cell? ⟨w.heap.size, 4, none⟩ = some (.int .i64 r.s) ∧ w'.cell? ⟨w.heap.size, 5, none⟩ = some (.int .i64 r.d) ∧ w'.cell? ⟨w.heap.size, 6, none⟩ = some (.int .i64 r.g) ∧ w'.cell? ⟨w.heap.size, 7, none⟩ = some (.int .i64 r.a) ∧ w'.cell? ⟨w.heap.size, 8, none⟩ = some (.int .i64 r.b) ∧ w'.cell? ⟨w.heap.size, 9, none⟩ = some (.int .i64 r.i) ∧ w'.cell? ⟨w.heap.size, 10, none⟩ = some (.int .i64 r.u)) ∧ w'.cell? ⟨bk, 0, none⟩ = some (.int .i64 clock) := by
  have hk := box_keep hb
  refine ⟨hb, ⟨by rw [hk 0]; simp [go_sem], by rw [hk 1]; simp [go_sem], by rw [hk 2]; simp [go_sem], by rw [hk 3]; simp [go_sem], by rw [hk 4]; simp [go_sem], by rw [hk 5]; simp [go_sem], by rw [hk 6]; simp [go_sem], by rw [hk 7]; simp [go_sem], by rw [hk 8]; simp [go_sem], by rw [hk 9]; simp [go_sem], by rw [hk 10]; simp [go_sem]⟩, ?_⟩
  rw [hb.cell (p := ⟨bk, 0, none⟩) (by simp; omega), World.cell?_alloc_past _ _ _ lk]; exact hc

set_option maxRecDepth 4000 in
set_option maxHeartbeats 1000000 in
theorem closOk (r : RunD) (clock : Int) (bk : Nat) (w : World) (hc : w.cell? ⟨bk, 0, none⟩ = some (.int .i64 clock)) (lk : bk < w.heap.size) (hf : r.fits) :
    Calls Tryz.prog 101 #[.agg #[.string r.c, .int .i64 r.v, .string r.h, .int .i64 r.p, .int .i64 r.s, .int .i64 r.d, .int .i64 r.g, .int .i64 r.a, .int .i64 r.b, .int .i64 r.i, .int .i64 r.u], .pointer (some ⟨bk, 0, none⟩)] w fun e w' => e = .returned (.bool (r.ok clock)) ∧ Below w.heap.size w w' := by
  obtain ⟨q, hq⟩ : ∃ q, r.ok clock = q := ⟨_, rfl⟩
  rw [hq]
  have Hq : Hid (runB r.c r.h r.v r.p r.s r.d r.g r.a r.b r.i r.u clock = q) := hq
  have Hc : Hid _ := hc
  clear hq hc
  go_enter Tryz.func101, Tryz.ntmps101
  go_wp2_with fail
  go_region_held3 (fun w' => Below (w.alloc (.cells #[.string r.c, .int .i64 r.v, .string r.h, .int .i64 r.p, .int .i64 r.s, .int .i64 r.d, .int .i64 r.g, .int .i64 r.a, .int .i64 r.b, .int .i64 r.i, .int .i64 r.u] 59)).heap.size (w.alloc (.cells #[.string r.c, .int .i64 r.v, .string r.h, .int .i64 r.p, .int .i64 r.s, .int .i64 r.d, .int .i64 r.g, .int .i64 r.a, .int .i64 r.b, .int .i64 r.i, .int .i64 r.u] 59)) w' ∧ (w'.cell? ⟨w.heap.size, 0, none⟩ = some (.string r.c) ∧ w'.cell? ⟨w.heap.size, 1, none⟩ = some (.int .i64 r.v) ∧ w'.cell? ⟨w.heap.size, 2, none⟩ = some (.string r.h) ∧ w'.cell? ⟨w.heap.size, 3, none⟩ = some (.int .i64 r.p) ∧ w'.cell? ⟨w.heap.size, 4, none⟩ = some (.int .i64 r.s) ∧ w'.cell? ⟨w.heap.size, 5, none⟩ = some (.int .i64 r.d) ∧ w'.cell? ⟨w.heap.size, 6, none⟩ = some (.int .i64 r.g) ∧ w'.cell? ⟨w.heap.size, 7, none⟩ = some (.int .i64 r.a) ∧ w'.cell? ⟨w.heap.size, 8, none⟩ = some (.int .i64 r.b) ∧ w'.cell? ⟨w.heap.size, 9, none⟩ = some (.int .i64 r.i) ∧ w'.cell? ⟨w.heap.size, 10, none⟩ = some (.int .i64 r.u)) ∧ w'.cell? ⟨bk, 0, none⟩ = some (.int .i64 clock))
    (first | exact closK Hc.out lk (bl_drew (Below.refl _ _)) | exact closK Hc.out lk (bl_trans (bl_drew (Below.refl _ _)) hx) | exact closK Hc.out lk (bl_trans (bl_trans (bl_drew (Below.refl _ _)) hx) hy))
    (first | (go_at_call 102; refine (runOf_b r.c r.h r.v r.p r.s r.d r.g r.a r.b r.i r.u _).mono ?_; rintro e w' ⟨rfl, hx⟩) | (go_at_call 103; refine (implRunOk_q r.c r.h r.v r.p r.s r.d r.g r.a r.b r.i r.u clock _ hf.1 hf.2.1 q Hq.out).mono ?_; rintro e w'' ⟨rfl, hy⟩))
  have y1 := bl_trans (bl_trans (bl_drew (Below.refl _ (w.alloc (.cells #[.string r.c, .int .i64 r.v, .string r.h, .int .i64 r.p, .int .i64 r.s, .int .i64 r.d, .int .i64 r.g, .int .i64 r.a, .int .i64 r.b, .int .i64 r.i, .int .i64 r.u] 59)))) hx) hy
  have Hb1 : Hid _ := bl_trans (bl_alloc (Below.refl _ w) _) y1
  clear hx hy y1
  go_wp2
  go_ret
  exact ⟨rfl, Hb1.out⟩

theorem allOk_iff (clock : Int) (rs : List RunD) : AllOk clock rs rs.length ↔ (AscN rs rs.length ∧ ∀ r ∈ rs, r.ok clock = true) := by
  constructor
  · intro h
    refine ⟨fun j q r hj hq hr => ?_, fun r hr => ?_⟩
    · have := h (j + 1) r hj hr
      simp only [stepOk, hq, Bool.and_eq_true] at this
      exact this.2
    · obtain ⟨j, hj⟩ := List.getElem?_of_mem hr
      have := h j r (List.getElem?_eq_some_iff.1 hj).1 hj
      simp only [stepOk, Bool.and_eq_true] at this
      exact this.1
  · rintro ⟨h1, h2⟩ j r hj hr
    simp only [stepOk, Bool.and_eq_true]
    refine ⟨h2 r (List.mem_of_getElem? hr), ?_⟩
    cases j with
    | zero => rfl
    | succ i =>
      obtain ⟨q, hq⟩ : ∃ q, rs[i]? = some q := ⟨rs[i], List.getElem?_eq_getElem (by omega)⟩
      simp only [hq]
      exact h1 i q r hj hq hr

def SaysR (q : Bool) (clock : Int) (rs : List RunD) : Prop := q = true ↔ rs.length ≤ 20 ∧ (AscN rs rs.length ∧ ∀ r ∈ rs, r.ok clock = true)

set_option maxRecDepth 4000 in
set_option maxHeartbeats 1000000 in
theorem implRunsOk_s (b off cap : Nat) (rs : List RunD) (clock : Int) (w : World) (hR : RowsAt w b off rs) (l1 : b < w.heap.size) (hfit : ∀ r ∈ rs, r.fits) (hl : rs.length ≤ 1048576) :
    Calls Tryz.prog 82 #[.slice (some ⟨b, off, none⟩) rs.length cap, .int .i64 clock] w fun e w' => (∃ q : Bool, e = .returned (.bool q) ∧ SaysR q clock rs) ∧ Below w.heap.size w w' := by
  by_cases h20 : rs.length ≤ 20
  · have hi20 : (rs.length : Int) ≤ 20 := by omega
    go_enter Tryz.func82, Tryz.ntmps82
    go_wp2_with fail
    have hb0 : Below w.heap.size w (w.alloc (.cells #[.int .i64 clock] 3)) := bl_alloc (Below.refl _ _) _
    refine (ascends b off cap rs _ (hR.keep l1 hb0) (by simp; omega) hl).mono ?_
    rintro e w1 ⟨⟨q1, rfl, h1⟩, b1⟩
    have B1 := bl_trans hb0 b1
    have H0 : Hid _ := h1
    clear h1
    cases q1
    · clear hb0 b1
      go_wp2
      go_ret
      exact ⟨⟨false, rfl, ⟨fun h => (by cases h), fun h => by have := H0.out.2 h.2.1; cases this⟩⟩, B1⟩
    · have H1 : Hid _ := H0.out.1 rfl
      have hck : w1.cell? ⟨w.heap.size, 0, none⟩ = some (.int .i64 clock) := by rw [box_keep b1 0]; simp [go_sem]
      have lck : w.heap.size < w1.heap.size := boxlt b1
      have Hck : Hid _ := hck
      clear hck hb0 b1
      go_wp2_with fail
      refine (allOk w.heap.size (fun r => r.ok clock) b off cap rs w1 (hR.keep l1 B1) (Nat.lt_of_lt_of_le l1 B1.size) hl (fun r hr x hx => closOk r clock w.heap.size x ((hx.cell (p := ⟨w.heap.size, 0, none⟩) lck).trans Hck.out) (Nat.lt_of_lt_of_le lck hx.size) (hfit r hr))).mono ?_
      rintro e w2 ⟨⟨q2, rfl, h2⟩, b2⟩
      have B2 := bl_trans B1 b2
      clear b2
      go_wp2
      go_ret
      exact ⟨⟨q2, rfl, ⟨fun h => ⟨h20, H1.out, h2.1 h⟩, fun h => h2.2 h.2.2⟩⟩, B2⟩
  · have hi20 : (20 : Int) < (rs.length : Int) := by omega
    have H20 : Hid _ := h20
    clear h20
    go_enter Tryz.func82, Tryz.ntmps82
    go_wp2
    go_ret
    exact ⟨Or.inl ⟨rfl, ⟨fun h => (by cases h), fun h => absurd h.1 H20.out⟩⟩, bl_alloc (Below.refl _ _) _⟩
theorem implRunsOk (b off cap : Nat) (rs : List RunD) (clock : Int) (w : World) (hR : RowsAt w b off rs) (l1 : b < w.heap.size) (hfit : ∀ r ∈ rs, r.fits) (hl : rs.length ≤ 1048576) :
    Calls Tryz.prog 82 #[.slice (some ⟨b, off, none⟩) rs.length cap, .int .i64 clock] w fun e w' => (∃ q : Bool, e = .returned (.bool q) ∧ (q = true ↔ rs.length ≤ 20 ∧ AllOk clock rs rs.length)) ∧ Below w.heap.size w w' := by
  refine (implRunsOk_s b off cap rs clock w hR l1 hfit hl).mono ?_
  rintro e w' ⟨⟨q, rfl, h⟩, hb⟩
  exact ⟨⟨q, rfl, by rw [allOk_iff]; exact h⟩, hb⟩
end Go.Proofs.YtiogkdafmgdbgaaGreat
/- Asks that are ok: the program's side. -/
namespace Go.Proofs.YtiogkdafmgdbgaaGreat.A
open Go.RowKit
set_option linter.unusedVariables false

set_option maxHeartbeats 1000000 in
theorem askOk_any (r : AskD) (clock : Int) (w : World) (hf1 : r.h.size ≤ maxLen) (hf2 : r.c.size ≤ maxLen) :
    Calls Tryz.prog 106 #[.agg #[.string r.h, .string r.c, .int .i64 r.f, .int .i64 r.t], .int .i64 clock] w fun e w' => e = .returned (.bool (askB clock r)) ∧ Below w.heap.size w w' := by
  cases q1 : holdB r.h
  · go_enter Tryz.func106, Tryz.ntmps106
    go_wp2_with (first | (go_at_call 120; refine (implHold_any r.h _ hf1).mono ?_; rintro e w' ⟨rfl, rfl⟩) | (go_at_call 81; refine (implName_any r.c _ hf2).mono ?_; rintro e w' ⟨rfl, rfl⟩) | (go_at_call 70; refine (within_any _ _ _ _).mono ?_; rintro e w' ⟨rfl, rfl⟩))
    go_ret
    exact ⟨ret_b (by simp [askB, *]), bl_alloc (Below.refl _ _) _⟩
  cases q2 : nameB r.c
  · go_enter Tryz.func106, Tryz.ntmps106
    go_wp2_with (first | (go_at_call 120; refine (implHold_any r.h _ hf1).mono ?_; rintro e w' ⟨rfl, rfl⟩) | (go_at_call 81; refine (implName_any r.c _ hf2).mono ?_; rintro e w' ⟨rfl, rfl⟩) | (go_at_call 70; refine (within_any _ _ _ _).mono ?_; rintro e w' ⟨rfl, rfl⟩))
    go_ret
    exact ⟨ret_b (by simp [askB, *]), bl_alloc (Below.refl _ _) _⟩
  cases q4 : inB r.f 0 r.t
  · go_enter Tryz.func106, Tryz.ntmps106
    go_wp2_with (first | (go_at_call 120; refine (implHold_any r.h _ hf1).mono ?_; rintro e w' ⟨rfl, rfl⟩) | (go_at_call 81; refine (implName_any r.c _ hf2).mono ?_; rintro e w' ⟨rfl, rfl⟩) | (go_at_call 70; refine (within_any _ _ _ _).mono ?_; rintro e w' ⟨rfl, rfl⟩))
    go_ret
    exact ⟨ret_b (by simp [askB, *]), bl_alloc (Below.refl _ _) _⟩
  cases q3 : inB r.t 0 clock
  · go_enter Tryz.func106, Tryz.ntmps106
    go_wp2_with (first | (go_at_call 120; refine (implHold_any r.h _ hf1).mono ?_; rintro e w' ⟨rfl, rfl⟩) | (go_at_call 81; refine (implName_any r.c _ hf2).mono ?_; rintro e w' ⟨rfl, rfl⟩) | (go_at_call 70; refine (within_any _ _ _ _).mono ?_; rintro e w' ⟨rfl, rfl⟩))
    go_ret
    exact ⟨ret_b (by simp [askB, *]), bl_alloc (Below.refl _ _) _⟩
  · go_enter Tryz.func106, Tryz.ntmps106
    go_wp2_with (first | (go_at_call 120; refine (implHold_any r.h _ hf1).mono ?_; rintro e w' ⟨rfl, rfl⟩) | (go_at_call 81; refine (implName_any r.c _ hf2).mono ?_; rintro e w' ⟨rfl, rfl⟩) | (go_at_call 70; refine (within_any _ _ _ _).mono ?_; rintro e w' ⟨rfl, rfl⟩))
    go_ret
    exact ⟨ret_b (by simp [askB, *]), bl_alloc (Below.refl _ _) _⟩
theorem closAsk (r : AskD) (clock : Int) (bk : Nat) (w : World) (hc : w.cell? ⟨bk, 0, none⟩ = some (.int .i64 clock)) (lk : bk < w.heap.size) (hf : r.fits) :
    Calls Tryz.prog 105 #[.agg #[.string r.h, .string r.c, .int .i64 r.f, .int .i64 r.t], .pointer (some ⟨bk, 0, none⟩)] w fun e w' => e = .returned (.bool (askB clock r)) ∧ Below w.heap.size w w' := by
  go_enter Tryz.func105, Tryz.ntmps105
  go_wp2_with (go_at_call 106; refine (askOk_any r clock _ hf.1 hf.2).mono ?_; rintro e w' ⟨rfl, hx⟩)
  go_ret
  exact ⟨rfl, bl_trans (bl_alloc (Below.refl _ _) _) hx⟩

set_option maxRecDepth 4000 in
set_option maxHeartbeats 1000000 in
theorem implAsksOk (b off cap : Nat) (rs : List AskD) (clock : Int) (w : World) (hR : RowsAt w b off rs) (l1 : b < w.heap.size) (hfit : ∀ r ∈ rs, r.fits) (hl : rs.length ≤ 1048576) :
    Calls Tryz.prog 83 #[.slice (some ⟨b, off, none⟩) rs.length cap, .int .i64 clock] w fun e w' => (∃ q : Bool, e = .returned (.bool q) ∧ SaysA q clock rs) ∧ Below w.heap.size w w' := by
  by_cases h40 : rs.length ≤ 40
  · have hi40 : (rs.length : Int) ≤ 40 := by omega
    go_enter Tryz.func83, Tryz.ntmps83
    go_wp2_with fail
    have hb0 : Below w.heap.size w (w.alloc (.cells #[.int .i64 clock] 3)) := bl_alloc (Below.refl _ _) _
    refine (ascends b off cap rs _ (hR.keep l1 hb0) (by simp; omega) hl).mono ?_
    rintro e w1 ⟨⟨q1, rfl, h1⟩, b1⟩
    have B1 := bl_trans hb0 b1
    have H0 : Hid _ := h1
    clear h1
    cases q1
    · clear hb0 b1
      go_wp2
      go_ret
      exact ⟨⟨false, rfl, ⟨fun h => (by cases h), fun h => by have := H0.out.2 h.2.1; cases this⟩⟩, B1⟩
    · have H1 : Hid _ := H0.out.1 rfl
      have hck : w1.cell? ⟨w.heap.size, 0, none⟩ = some (.int .i64 clock) := by rw [box_keep b1 0]; simp [go_sem]
      have lck : w.heap.size < w1.heap.size := by have := b1.size; simp at this; omega
      have Hck : Hid _ := hck
      clear hck hb0 b1
      go_wp2_with fail
      refine (allOk w.heap.size (askB clock) b off cap rs w1 (hR.keep l1 B1) (Nat.lt_of_lt_of_le l1 B1.size) hl (fun r hr x hx => closAsk r clock w.heap.size x ((hx.cell (p := ⟨w.heap.size, 0, none⟩) lck).trans Hck.out) (Nat.lt_of_lt_of_le lck hx.size) (hfit r hr))).mono ?_
      rintro e w2 ⟨⟨q2, rfl, h2⟩, b2⟩
      have B2 := bl_trans B1 b2
      have H2 : Hid _ := h2
      clear b2 h2
      go_wp2
      go_ret
      exact ⟨⟨q2, rfl, ⟨fun h => ⟨h40, H1.out, H2.out.1 h⟩, fun h => H2.out.2 h.2.2⟩⟩, B2⟩
  · have hi40 : (40 : Int) < (rs.length : Int) := by omega
    have H40 : Hid _ := h40
    clear h40
    go_enter Tryz.func83, Tryz.ntmps83
    go_wp2
    go_ret
    first
    | exact ⟨Or.inl ⟨rfl, ⟨fun h => (by cases h), fun h => absurd h.1 H40.out⟩⟩, bl_alloc (Below.refl _ _) _⟩
    | exact ⟨⟨false, rfl, ⟨fun h => (by cases h), fun h => absurd h.1 H40.out⟩⟩, bl_alloc (Below.refl _ _) _⟩
end Go.Proofs.YtiogkdafmgdbgaaGreat.A
/- MateValid's checks: the program's side. -/
namespace Go.Proofs.YtiogkdafmgdbgaaGreat
open Go.RowKit
set_option linter.unusedVariables false

def SaysP (q : Bool) (m : MateD) : Prop := q = true ↔ partsB m = true
theorem down_or {m : MateD} (h : m.up = true ∨ DownSay m) (hu : m.up = false) : DownSay m := by
  rcases h with h' | h'
  · rw [hu] at h'; cases h'
  · exact h'
theorem implAlive_b (r : RunD) (w : World) : Calls Tryz.prog 88 #[.agg #[.string r.c, .int .i64 r.v, .string r.h, .int .i64 r.p, .int .i64 r.s, .int .i64 r.d, .int .i64 r.g, .int .i64 r.a, .int .i64 r.b, .int .i64 r.i, .int .i64 r.u]] w fun e w' => e = .returned (.bool (aliveB r.a)) ∧ Below w.heap.size w w' := by
  go_enter Tryz.func88, Tryz.ntmps88
  go_wp2_with (first | (go_at_call 107; refine (alive_any r.a _).mono ?_; rintro e w' ⟨rfl, rfl⟩) | (go_at_call 102; refine (runOf_any r.c r.h r.v r.p r.s r.d r.g r.a r.b r.i r.u _).mono ?_; rintro e w' ⟨rfl, rfl⟩))
  go_ret
  exact ⟨rfl, by repeat (first | exact Below.refl _ _ | refine bl_alloc ?_ _)⟩
theorem holds_b (r : RunD) (w : World) : Calls Tryz.prog 89 #[.agg #[.string r.c, .int .i64 r.v, .string r.h, .int .i64 r.p, .int .i64 r.s, .int .i64 r.d, .int .i64 r.g, .int .i64 r.a, .int .i64 r.b, .int .i64 r.i, .int .i64 r.u]] w fun e w' => e = .returned (.bool (!r.h.toList.isEmpty)) ∧ Below w.heap.size w w' := by
  cases he : r.h.toList.isEmpty
  · go_enter Tryz.func89, Tryz.ntmps89
    go_wp2
    go_ret
    exact ⟨rfl, by repeat (first | exact Below.refl _ _ | refine bl_alloc ?_ _)⟩
  · go_enter Tryz.func89, Tryz.ntmps89
    go_wp2
    go_ret
    exact ⟨rfl, by repeat (first | exact Below.refl _ _ | refine bl_alloc ?_ _)⟩
theorem closDown (r : RunD) (w : World) : Calls Tryz.prog 87 #[.agg #[.string r.c, .int .i64 r.v, .string r.h, .int .i64 r.p, .int .i64 r.s, .int .i64 r.d, .int .i64 r.g, .int .i64 r.a, .int .i64 r.b, .int .i64 r.i, .int .i64 r.u]] w fun e w' => e = .returned (.bool (heldB r)) ∧ Below w.heap.size w w' := by
  cases ha : aliveB r.a
  · have Hh : Hid (heldB r = !r.h.toList.isEmpty) := by show heldB r = _; simp [heldB, ha]
    go_enter Tryz.func87, Tryz.ntmps87
    go_wp2_with fail
    refine (implAlive_b r _).mono ?_
    rintro e w1 ⟨rfl, c1⟩
    have k1 := box_keep c1
    have C1 : Hid _ := c1
    clear c1
    go_wp2_with fail
    refine (holds_b r _).mono ?_
    rintro e w2 ⟨rfl, c2⟩
    have C2 : Hid _ := bl_trans C1.out c2
    clear c2
    go_wp2
    go_ret
    exact ⟨by rw [Hh.out]; rfl, bl_trans (bl_alloc (Below.refl _ _) _) C2.out⟩
  · have Hh : Hid (heldB r = true) := by show heldB r = _; simp [heldB, ha]
    go_enter Tryz.func87, Tryz.ntmps87
    go_wp2_with fail
    refine (implAlive_b r _).mono ?_
    rintro e w1 ⟨rfl, c1⟩
    have C1 : Hid _ := c1
    clear c1
    go_wp2
    go_ret
    exact ⟨by rw [Hh.out]; rfl, bl_trans (bl_alloc (Below.refl _ _) _) C1.out⟩

set_option maxRecDepth 4000 in
set_option maxHeartbeats 2000000 in
theorem partsOk_any (m : MateD) (b1 b2 b3 b4 : Nat) (w : World) (hL : Lists w m b1 b2 b3 b4) (hf : m.fits) :
    Calls Tryz.prog 55 #[.agg #[.string m.nm, .bool m.up, .int .i64 m.ck, .bool m.kn, .int .i64 m.se, .slice (some ⟨b1, 0, none⟩) m.ws.length m.ws.length, .slice (some ⟨b2, 0, none⟩) m.rs.length m.rs.length, .slice (some ⟨b3, 0, none⟩) m.qs.length m.qs.length, .slice (some ⟨b4, 0, none⟩) m.gs.length m.gs.length]] w fun e w' => (∃ q : Bool, e = .returned (.bool q) ∧ SaysP q m) ∧ Below w.heap.size w w' := by
  have Hb0 : Hid (Below w.heap.size w (w.alloc (.cells #[.string m.nm, .bool m.up, .int .i64 m.ck, .bool m.kn, .int .i64 m.se, .slice (some ⟨b1, 0, none⟩) m.ws.length m.ws.length, .slice (some ⟨b2, 0, none⟩) m.rs.length m.rs.length, .slice (some ⟨b3, 0, none⟩) m.qs.length m.qs.length, .slice (some ⟨b4, 0, none⟩) m.gs.length m.gs.length] 35))) := bl_alloc (Below.refl _ _) _
  have HL : Hid (Lists (w.alloc (.cells #[.string m.nm, .bool m.up, .int .i64 m.ck, .bool m.kn, .int .i64 m.se, .slice (some ⟨b1, 0, none⟩) m.ws.length m.ws.length, .slice (some ⟨b2, 0, none⟩) m.rs.length m.rs.length, .slice (some ⟨b3, 0, none⟩) m.qs.length m.qs.length, .slice (some ⟨b4, 0, none⟩) m.gs.length m.gs.length] 35)) m b1 b2 b3 b4) := hL.keep Hb0.out
  cases qn : nameB m.nm
  · go_enter Tryz.func55, Tryz.ntmps55
    go_wp2_with (first | (go_at_call 81; refine (implName_any m.nm _ hf.n).mono ?_; rintro e w' ⟨rfl, rfl⟩) | (go_at_call 70; refine (within_any _ _ _ _).mono ?_; rintro e w' ⟨rfl, rfl⟩))
    go_ret
    exact ⟨⟨false, rfl, by unfold SaysP; simp [partsB, qn]⟩, Hb0.out⟩
  cases qc : inB m.ck 0 1000000
  · go_enter Tryz.func55, Tryz.ntmps55
    go_wp2_with (first | (go_at_call 81; refine (implName_any m.nm _ hf.n).mono ?_; rintro e w' ⟨rfl, rfl⟩) | (go_at_call 70; refine (within_any _ _ _ _).mono ?_; rintro e w' ⟨rfl, rfl⟩))
    go_ret
    exact ⟨⟨false, rfl, by unfold SaysP; simp [partsB, qc]⟩, Hb0.out⟩
  cases qs : inB m.se 0 1000000
  · go_enter Tryz.func55, Tryz.ntmps55
    go_wp2_with (first | (go_at_call 81; refine (implName_any m.nm _ hf.n).mono ?_; rintro e w' ⟨rfl, rfl⟩) | (go_at_call 70; refine (within_any _ _ _ _).mono ?_; rintro e w' ⟨rfl, rfl⟩))
    go_ret
    exact ⟨⟨false, rfl, by unfold SaysP; simp [partsB, qs]⟩, Hb0.out⟩
  go_enter Tryz.func55, Tryz.ntmps55
  go_wp2_with (first | (go_at_call 81; refine (implName_any m.nm _ hf.n).mono ?_; rintro e w' ⟨rfl, rfl⟩) | (go_at_call 70; refine (within_any _ _ _ _).mono ?_; rintro e w' ⟨rfl, rfl⟩))
  go_ret
  exact ⟨⟨true, rfl, by unfold SaysP; simp [partsB, qn, qc, qs]⟩, Hb0.out⟩

set_option maxRecDepth 4000 in
set_option maxHeartbeats 2000000 in
theorem wantsHeard_any (m : MateD) (b1 b2 b3 b4 : Nat) (w : World) (hL : Lists w m b1 b2 b3 b4) (hf : m.fits) :
    Calls Tryz.prog 56 #[.agg #[.string m.nm, .bool m.up, .int .i64 m.ck, .bool m.kn, .int .i64 m.se, .slice (some ⟨b1, 0, none⟩) m.ws.length m.ws.length, .slice (some ⟨b2, 0, none⟩) m.rs.length m.rs.length, .slice (some ⟨b3, 0, none⟩) m.qs.length m.qs.length, .slice (some ⟨b4, 0, none⟩) m.gs.length m.gs.length]] w fun e w' => (∃ q : Bool, e = .returned (.bool q) ∧ (q = true ↔ WantsSay m ∧ (m.kn = true ∨ m.ws.length = 0))) ∧ Below w.heap.size w w' := by
  have Hb0 : Hid (Below w.heap.size w (w.alloc (.cells #[.string m.nm, .bool m.up, .int .i64 m.ck, .bool m.kn, .int .i64 m.se, .slice (some ⟨b1, 0, none⟩) m.ws.length m.ws.length, .slice (some ⟨b2, 0, none⟩) m.rs.length m.rs.length, .slice (some ⟨b3, 0, none⟩) m.qs.length m.qs.length, .slice (some ⟨b4, 0, none⟩) m.gs.length m.gs.length] 35))) := bl_alloc (Below.refl _ _) _
  have HL : Hid (Lists (w.alloc (.cells #[.string m.nm, .bool m.up, .int .i64 m.ck, .bool m.kn, .int .i64 m.se, .slice (some ⟨b1, 0, none⟩) m.ws.length m.ws.length, .slice (some ⟨b2, 0, none⟩) m.rs.length m.rs.length, .slice (some ⟨b3, 0, none⟩) m.qs.length m.qs.length, .slice (some ⟨b4, 0, none⟩) m.gs.length m.gs.length] 35)) m b1 b2 b3 b4) := hL.keep Hb0.out
  go_enter Tryz.func56, Tryz.ntmps56
  go_wp2_with fail
  refine (W.implWantsOk b1 0 m.ws _ HL.out.r1 HL.out.l1 hf.f1 hf.k1).mono ?_
  rintro e w1 ⟨⟨q1, rfl, h1⟩, c1⟩
  have H1 : Hid _ := h1
  have k1 := box_keep c1
  have C1 : Hid _ := bl_trans Hb0.out c1
  clear h1 c1
  cases q1
  · go_wp2
    go_ret
    exact ⟨⟨false, rfl, ⟨fun h => (by cases h), fun h => by have := H1.out.2 h.1; cases this⟩⟩, C1.out⟩
  have G1 : Hid (WantsSay m) := H1.out.1 rfl
  clear H1
  cases hk : m.kn
  · by_cases hz : m.ws.length = 0
    · have hz' : ((m.ws.length : Int) == 0) = true := by simp [hz]
      have Hz : Hid _ := hz
      clear hz
      go_wp2
      go_ret
      exact ⟨⟨true, rfl, ⟨fun _ => ⟨G1.out, Or.inr Hz.out⟩, fun _ => rfl⟩⟩, C1.out⟩
    · have hz' : ((m.ws.length : Int) == 0) = false := beq_false_of_ne (by omega)
      have Hz : Hid _ := hz
      clear hz
      go_wp2
      go_ret
      exact ⟨⟨false, rfl, ⟨fun h => (by cases h), fun h => by
        rcases h.2 with h' | h'
        · rw [hk] at h'; cases h'
        · exact absurd h' Hz.out⟩⟩, C1.out⟩
  · go_wp2
    go_ret
    exact ⟨⟨true, rfl, ⟨fun _ => ⟨G1.out, Or.inl hk⟩, fun _ => rfl⟩⟩, C1.out⟩

set_option maxRecDepth 4000 in
set_option maxHeartbeats 2000000 in
theorem runsOkNow_any (m : MateD) (b1 b2 b3 b4 : Nat) (w : World) (hL : Lists w m b1 b2 b3 b4) (hf : m.fits) :
    Calls Tryz.prog 57 #[.agg #[.string m.nm, .bool m.up, .int .i64 m.ck, .bool m.kn, .int .i64 m.se, .slice (some ⟨b1, 0, none⟩) m.ws.length m.ws.length, .slice (some ⟨b2, 0, none⟩) m.rs.length m.rs.length, .slice (some ⟨b3, 0, none⟩) m.qs.length m.qs.length, .slice (some ⟨b4, 0, none⟩) m.gs.length m.gs.length]] w fun e w' => (∃ q : Bool, e = .returned (.bool q) ∧ (q = true ↔ RunsSay m)) ∧ Below w.heap.size w w' := by
  have Hb0 : Hid (Below w.heap.size w (w.alloc (.cells #[.string m.nm, .bool m.up, .int .i64 m.ck, .bool m.kn, .int .i64 m.se, .slice (some ⟨b1, 0, none⟩) m.ws.length m.ws.length, .slice (some ⟨b2, 0, none⟩) m.rs.length m.rs.length, .slice (some ⟨b3, 0, none⟩) m.qs.length m.qs.length, .slice (some ⟨b4, 0, none⟩) m.gs.length m.gs.length] 35))) := bl_alloc (Below.refl _ _) _
  have HL : Hid (Lists (w.alloc (.cells #[.string m.nm, .bool m.up, .int .i64 m.ck, .bool m.kn, .int .i64 m.se, .slice (some ⟨b1, 0, none⟩) m.ws.length m.ws.length, .slice (some ⟨b2, 0, none⟩) m.rs.length m.rs.length, .slice (some ⟨b3, 0, none⟩) m.qs.length m.qs.length, .slice (some ⟨b4, 0, none⟩) m.gs.length m.gs.length] 35)) m b1 b2 b3 b4) := hL.keep Hb0.out
  go_enter Tryz.func57, Tryz.ntmps57
  go_wp2_with fail
  refine (implRunsOk b2 0 _ m.rs m.ck _ HL.out.r2 HL.out.l2 hf.f2 hf.k2).mono ?_
  rintro e w1 ⟨⟨q1, rfl, h1⟩, c1⟩
  have H1 : Hid _ := h1
  have C1 : Hid _ := bl_trans Hb0.out c1
  clear h1 c1
  go_wp2
  go_ret
  exact ⟨⟨q1, rfl, H1.out⟩, C1.out⟩

set_option maxRecDepth 4000 in
set_option maxHeartbeats 2000000 in
theorem asksOk_any (m : MateD) (b1 b2 b3 b4 : Nat) (w : World) (hL : Lists w m b1 b2 b3 b4) (hf : m.fits) :
    Calls Tryz.prog 58 #[.agg #[.string m.nm, .bool m.up, .int .i64 m.ck, .bool m.kn, .int .i64 m.se, .slice (some ⟨b1, 0, none⟩) m.ws.length m.ws.length, .slice (some ⟨b2, 0, none⟩) m.rs.length m.rs.length, .slice (some ⟨b3, 0, none⟩) m.qs.length m.qs.length, .slice (some ⟨b4, 0, none⟩) m.gs.length m.gs.length]] w fun e w' => (∃ q : Bool, e = .returned (.bool q) ∧ (q = true ↔ AskSay m.ck m.qs ∧ AskSay m.ck m.gs)) ∧ Below w.heap.size w w' := by
  have Hb0 : Hid (Below w.heap.size w (w.alloc (.cells #[.string m.nm, .bool m.up, .int .i64 m.ck, .bool m.kn, .int .i64 m.se, .slice (some ⟨b1, 0, none⟩) m.ws.length m.ws.length, .slice (some ⟨b2, 0, none⟩) m.rs.length m.rs.length, .slice (some ⟨b3, 0, none⟩) m.qs.length m.qs.length, .slice (some ⟨b4, 0, none⟩) m.gs.length m.gs.length] 35))) := bl_alloc (Below.refl _ _) _
  have HL : Hid (Lists (w.alloc (.cells #[.string m.nm, .bool m.up, .int .i64 m.ck, .bool m.kn, .int .i64 m.se, .slice (some ⟨b1, 0, none⟩) m.ws.length m.ws.length, .slice (some ⟨b2, 0, none⟩) m.rs.length m.rs.length, .slice (some ⟨b3, 0, none⟩) m.qs.length m.qs.length, .slice (some ⟨b4, 0, none⟩) m.gs.length m.gs.length] 35)) m b1 b2 b3 b4) := hL.keep Hb0.out
  go_enter Tryz.func58, Tryz.ntmps58
  go_wp2_with fail
  refine (A.implAsksOk b3 0 _ m.qs m.ck _ HL.out.r3 HL.out.l3 hf.f3 hf.k3).mono ?_
  rintro e w1 ⟨⟨q1, rfl, h1⟩, c1⟩
  have H1 : Hid _ := h1
  have k1 := box_keep c1
  have HL1 : Hid _ := HL.out.keep c1
  have C1 : Hid _ := bl_trans Hb0.out c1
  clear h1 c1
  cases q1
  · go_wp2
    go_ret
    exact ⟨⟨false, rfl, ⟨fun h => (by cases h), fun h => by have := H1.out.2 h.1; cases this⟩⟩, C1.out⟩
  have G1 : Hid (AskSay m.ck m.qs) := H1.out.1 rfl
  clear H1
  go_wp2_with fail
  refine (A.implAsksOk b4 0 _ m.gs m.ck _ HL1.out.r4 HL1.out.l4 hf.f4 hf.k4).mono ?_
  rintro e w2 ⟨⟨q2, rfl, h2⟩, c2⟩
  have H2 : Hid _ := h2
  have C2 : Hid _ := bl_trans C1.out c2
  clear h2 c2
  go_wp2
  go_ret
  exact ⟨⟨q2, rfl, ⟨fun h => ⟨G1.out, H2.out.1 h⟩, fun h => H2.out.2 h.2⟩⟩, C2.out⟩

set_option maxRecDepth 4000 in
set_option maxHeartbeats 2000000 in
theorem downOk_any (m : MateD) (b1 b2 b3 b4 : Nat) (w : World) (hL : Lists w m b1 b2 b3 b4) (hf : m.fits) :
    Calls Tryz.prog 60 #[.agg #[.string m.nm, .bool m.up, .int .i64 m.ck, .bool m.kn, .int .i64 m.se, .slice (some ⟨b1, 0, none⟩) m.ws.length m.ws.length, .slice (some ⟨b2, 0, none⟩) m.rs.length m.rs.length, .slice (some ⟨b3, 0, none⟩) m.qs.length m.qs.length, .slice (some ⟨b4, 0, none⟩) m.gs.length m.gs.length]] w fun e w' => (∃ q : Bool, e = .returned (.bool q) ∧ (q = true ↔ m.up = true ∨ DownSay m)) ∧ Below w.heap.size w w' := by
  have Hb0 : Hid (Below w.heap.size w (w.alloc (.cells #[.string m.nm, .bool m.up, .int .i64 m.ck, .bool m.kn, .int .i64 m.se, .slice (some ⟨b1, 0, none⟩) m.ws.length m.ws.length, .slice (some ⟨b2, 0, none⟩) m.rs.length m.rs.length, .slice (some ⟨b3, 0, none⟩) m.qs.length m.qs.length, .slice (some ⟨b4, 0, none⟩) m.gs.length m.gs.length] 35))) := bl_alloc (Below.refl _ _) _
  have HL : Hid (Lists (w.alloc (.cells #[.string m.nm, .bool m.up, .int .i64 m.ck, .bool m.kn, .int .i64 m.se, .slice (some ⟨b1, 0, none⟩) m.ws.length m.ws.length, .slice (some ⟨b2, 0, none⟩) m.rs.length m.rs.length, .slice (some ⟨b3, 0, none⟩) m.qs.length m.qs.length, .slice (some ⟨b4, 0, none⟩) m.gs.length m.gs.length] 35)) m b1 b2 b3 b4) := hL.keep Hb0.out
  obtain ⟨u, hu⟩ : ∃ u, m.up = u := ⟨_, rfl⟩
  cases u
  · obtain ⟨kk, hk⟩ : ∃ kk, m.kn = kk := ⟨_, rfl⟩
    cases kk
    · by_cases hse : m.se = 0
      · have hs' : (m.se == 0) = true := by simp [hse]
        have Hse : Hid _ := hse
        clear hse
        have k1 := hf.k1
        have k3 := hf.k3
        have k4 := hf.k4
        by_cases hz : m.ws.length + m.qs.length + m.gs.length = 0
        · have hz' : ((m.ws.length : Int) + (m.qs.length : Int) + (m.gs.length : Int) == 0) = true := by
            have : (m.ws.length : Int) + (m.qs.length : Int) + (m.gs.length : Int) = 0 := by omega
            simpa using this
          have Hz : Hid _ := hz
          clear hz
          go_enter Tryz.func60, Tryz.ntmps60
          go_wp2_with fail
          refine (allDown heldB b2 0 _ m.rs _ (hL.keep (bl_alloc (Below.refl _ _) _)).r2 (hL.keep (bl_alloc (Below.refl _ _) _)).l2 hf.k2 (fun r hr x hx => closDown r x)).mono ?_
          rintro e w1 ⟨⟨q1, rfl, h1⟩, c1⟩
          have H1 : Hid _ := h1
          have C1 : Hid _ := bl_trans (bl_alloc (Below.refl _ _) _) c1
          clear h1 c1
          go_wp2
          go_ret
          exact ⟨⟨q1, rfl, ⟨fun h => Or.inr ⟨hk, Hse.out, Hz.out, H1.out.1 h⟩, fun h => H1.out.2 (down_or h hu).2.2.2⟩⟩, C1.out⟩
        · have hz' : ((m.ws.length : Int) + (m.qs.length : Int) + (m.gs.length : Int) == 0) = false := beq_false_of_ne (by omega)
          have Hz : Hid _ := hz
          clear hz
          go_enter Tryz.func60, Tryz.ntmps60
          go_wp2
          go_ret
          exact ⟨⟨false, rfl, ⟨fun h => (by cases h), fun h => absurd (down_or h hu).2.2.1 Hz.out⟩⟩, bl_alloc (Below.refl _ _) _⟩
      · have hs' : (m.se == 0) = false := by simp [hse]
        have Hse : Hid _ := hse
        clear hse
        go_enter Tryz.func60, Tryz.ntmps60
        go_wp2
        go_ret
        exact ⟨⟨false, rfl, ⟨fun h => (by cases h), fun h => absurd (down_or h hu).2.1 Hse.out⟩⟩, bl_alloc (Below.refl _ _) _⟩
    · go_enter Tryz.func60, Tryz.ntmps60
      go_wp2
      go_ret
      exact ⟨⟨false, rfl, ⟨fun h => (by cases h), fun h => by have := (down_or h hu).1; rw [hk] at this; cases this⟩⟩, bl_alloc (Below.refl _ _) _⟩
  · go_enter Tryz.func60, Tryz.ntmps60
    go_wp2
    go_ret
    exact ⟨⟨true, rfl, ⟨fun _ => Or.inl hu, fun _ => rfl⟩⟩, bl_alloc (Below.refl _ _) _⟩
end Go.Proofs.YtiogkdafmgdbgaaGreat
