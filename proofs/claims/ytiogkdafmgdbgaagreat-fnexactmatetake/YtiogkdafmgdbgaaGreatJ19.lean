import Derived.Test.YtiogkdafmgdbgaaGreatJ12
import Derived.Test.YtiogkdafmgdbgaaGreatJ18
import Derived.Deep.DeepCutAuto
/- FnExactMateTake: the law's walk. -/
namespace Go.Proofs.YtiogkdafmgdbgaaGreat
open Go.RowKit
set_option linter.unusedVariables false

theorem if_wanted {c : Bool} {p q : Prop} (h : c = true) (hp : p) : if c = true then p else q := by rw [if_pos h]; exact hp
theorem bx_there {x : World} {B : Nat} {X : Array Value} (h : Bx x B X) : x.there B 0 X.size := fun j hj => by
  rw [Nat.zero_add]
  exact ⟨by rw [h.b j, Array.getElem?_eq_getElem hj]; rfl, h.c j⟩
theorem lx_put {x : World} {B : Nat} {X : Array Value} {l : List Value} (h : Bx x B X) (hl : l.length = X.size) : Lx (x.setCells B 0 l) B l.toArray := by
  have ht := bx_there h
  refine ⟨fun k => ?_, Nat.lt_of_lt_of_le h.l ((Ex.refl B x).cells l 0).size⟩
  by_cases hk : k < l.length
  · have := World.cell?_setCells_in B l 0 x (fun i hi => (ht i (by omega)).1) k hk
    rw [Nat.zero_add] at this
    rw [this]
    simp [hk]
  · rw [World.cell?_setCells_out B l 0 x ⟨B, k, none⟩ (fun _ _ => Or.inr (by show 0 + l.length ≤ k; omega)), h.b k, Array.getElem?_eq_none (by omega)]
    simp [hk]
theorem lx_new1 (w : World) (O P : Array Value) (t s : TypeId) : Lx ((w.alloc (.cells O t)).alloc (.cells P s)) (w.heap.size + 1) P := by
  have := Lx.new (w.alloc (.cells O t)) P s
  simpa using this
theorem kAB {X y : World} {m : MateD} {p : ParcelD} {v1 : Value} {v2 : Value} {v3 : Value} {v4 : Value} {v5 : Value}  {B0 B1 : Nat} (h0 : Lx X B0 #[.string m.nm, .bool m.up, .int .i64 m.ck, .bool m.kn, .int .i64 m.se, v1, v2, v3, v4]) (h1 : Lx X B1 #[.int .i64 p.k, .string p.b, .int .i64 p.s, v5, .string p.h, .string p.c, .int .i64 p.t]) (hb : Below X.heap.size X y) :
    Below X.heap.size X y ∧ (y.cell? ⟨B0, 0, none⟩ = some (.string m.nm) ∧ y.cell? ⟨B0, 1, none⟩ = some (.bool m.up) ∧ y.cell? ⟨B0, 2, none⟩ = some (.int .i64 m.ck) ∧ y.cell? ⟨B0, 3, none⟩ = some (.bool m.kn) ∧ y.cell? ⟨B0, 4, none⟩ = some (.int .i64 m.se) ∧ y.cell? ⟨B0, 5, none⟩ = some (v1) ∧ y.cell? ⟨B0, 6, none⟩ = some (v2) ∧ y.cell? ⟨B0, 7, none⟩ = some (v3) ∧ y.cell? ⟨B0, 8, none⟩ = some (v4) ∧ y.cell? ⟨B1, 0, none⟩ = some (.int .i64 p.k) ∧ y.cell? ⟨B1, 1, none⟩ = some (.string p.b) ∧ y.cell? ⟨B1, 2, none⟩ = some (.int .i64 p.s) ∧ y.cell? ⟨B1, 3, none⟩ = some (v5) ∧ y.cell? ⟨B1, 4, none⟩ = some (.string p.h) ∧ y.cell? ⟨B1, 5, none⟩ = some (.string p.c) ∧ y.cell? ⟨B1, 6, none⟩ = some (.int .i64 p.t)) :=
  ⟨hb, ((h0.keep hb).c 0), ((h0.keep hb).c 1), ((h0.keep hb).c 2), ((h0.keep hb).c 3), ((h0.keep hb).c 4), ((h0.keep hb).c 5), ((h0.keep hb).c 6), ((h0.keep hb).c 7), ((h0.keep hb).c 8), ((h1.keep hb).c 0), ((h1.keep hb).c 1), ((h1.keep hb).c 2), ((h1.keep hb).c 3), ((h1.keep hb).c 4), ((h1.keep hb).c 5), ((h1.keep hb).c 6)⟩
theorem kAY {X y : World} {m : MateD} {v1 : Value} {v2 : Value} {v3 : Value} {v4 : Value} {e1 : Nat} {e2 : Nat} {e3 : Nat} {e4 : Nat}  {B0 B1 : Nat} (h0 : Lx X B0 #[.string m.nm, .bool m.up, .int .i64 m.ck, .bool m.kn, .int .i64 m.se, v1, v2, v3, v4]) (h1 : Lx X B1 #[.string m.nm, .bool m.up, .int .i64 m.ck, .bool m.kn, .int .i64 m.se, .slice (some ⟨e1, 0, none⟩) m.ws.length m.ws.length, .slice (some ⟨e2, 0, none⟩) m.rs.length m.rs.length, .slice (some ⟨e3, 0, none⟩) m.qs.length m.qs.length, .slice (some ⟨e4, 0, none⟩) m.gs.length m.gs.length]) (hb : Below X.heap.size X y) :
    Below X.heap.size X y ∧ (y.cell? ⟨B0, 0, none⟩ = some (.string m.nm) ∧ y.cell? ⟨B0, 1, none⟩ = some (.bool m.up) ∧ y.cell? ⟨B0, 2, none⟩ = some (.int .i64 m.ck) ∧ y.cell? ⟨B0, 3, none⟩ = some (.bool m.kn) ∧ y.cell? ⟨B0, 4, none⟩ = some (.int .i64 m.se) ∧ y.cell? ⟨B0, 5, none⟩ = some (v1) ∧ y.cell? ⟨B0, 6, none⟩ = some (v2) ∧ y.cell? ⟨B0, 7, none⟩ = some (v3) ∧ y.cell? ⟨B0, 8, none⟩ = some (v4) ∧ y.cell? ⟨B1, 0, none⟩ = some (.string m.nm) ∧ y.cell? ⟨B1, 1, none⟩ = some (.bool m.up) ∧ y.cell? ⟨B1, 2, none⟩ = some (.int .i64 m.ck) ∧ y.cell? ⟨B1, 3, none⟩ = some (.bool m.kn) ∧ y.cell? ⟨B1, 4, none⟩ = some (.int .i64 m.se) ∧ y.cell? ⟨B1, 5, none⟩ = some (.slice (some ⟨e1, 0, none⟩) m.ws.length m.ws.length) ∧ y.cell? ⟨B1, 6, none⟩ = some (.slice (some ⟨e2, 0, none⟩) m.rs.length m.rs.length) ∧ y.cell? ⟨B1, 7, none⟩ = some (.slice (some ⟨e3, 0, none⟩) m.qs.length m.qs.length) ∧ y.cell? ⟨B1, 8, none⟩ = some (.slice (some ⟨e4, 0, none⟩) m.gs.length m.gs.length)) :=
  ⟨hb, ((h0.keep hb).c 0), ((h0.keep hb).c 1), ((h0.keep hb).c 2), ((h0.keep hb).c 3), ((h0.keep hb).c 4), ((h0.keep hb).c 5), ((h0.keep hb).c 6), ((h0.keep hb).c 7), ((h0.keep hb).c 8), ((h1.keep hb).c 0), ((h1.keep hb).c 1), ((h1.keep hb).c 2), ((h1.keep hb).c 3), ((h1.keep hb).c 4), ((h1.keep hb).c 5), ((h1.keep hb).c 6), ((h1.keep hb).c 7), ((h1.keep hb).c 8)⟩
theorem kBQ {X y : World} {p : ParcelD} {v5 : Value} {e5 : Nat}  {B0 B1 : Nat} (h0 : Lx X B0 #[.int .i64 p.k, .string p.b, .int .i64 p.s, v5, .string p.h, .string p.c, .int .i64 p.t]) (h1 : Lx X B1 #[.int .i64 p.k, .string p.b, .int .i64 p.s, .slice (some ⟨e5, 0, none⟩) p.ws.length p.ws.length, .string p.h, .string p.c, .int .i64 p.t]) (hb : Below X.heap.size X y) :
    Below X.heap.size X y ∧ (y.cell? ⟨B0, 0, none⟩ = some (.int .i64 p.k) ∧ y.cell? ⟨B0, 1, none⟩ = some (.string p.b) ∧ y.cell? ⟨B0, 2, none⟩ = some (.int .i64 p.s) ∧ y.cell? ⟨B0, 3, none⟩ = some (v5) ∧ y.cell? ⟨B0, 4, none⟩ = some (.string p.h) ∧ y.cell? ⟨B0, 5, none⟩ = some (.string p.c) ∧ y.cell? ⟨B0, 6, none⟩ = some (.int .i64 p.t) ∧ y.cell? ⟨B1, 0, none⟩ = some (.int .i64 p.k) ∧ y.cell? ⟨B1, 1, none⟩ = some (.string p.b) ∧ y.cell? ⟨B1, 2, none⟩ = some (.int .i64 p.s) ∧ y.cell? ⟨B1, 3, none⟩ = some (.slice (some ⟨e5, 0, none⟩) p.ws.length p.ws.length) ∧ y.cell? ⟨B1, 4, none⟩ = some (.string p.h) ∧ y.cell? ⟨B1, 5, none⟩ = some (.string p.c) ∧ y.cell? ⟨B1, 6, none⟩ = some (.int .i64 p.t)) :=
  ⟨hb, ((h0.keep hb).c 0), ((h0.keep hb).c 1), ((h0.keep hb).c 2), ((h0.keep hb).c 3), ((h0.keep hb).c 4), ((h0.keep hb).c 5), ((h0.keep hb).c 6), ((h1.keep hb).c 0), ((h1.keep hb).c 1), ((h1.keep hb).c 2), ((h1.keep hb).c 3), ((h1.keep hb).c 4), ((h1.keep hb).c 5), ((h1.keep hb).c 6)⟩

theorem lens_take {m r : MateD} {p : ParcelD} (h : Takes m p r) (hl : Lens m) (hp : p.ws.length ≤ 1048576) : Lens r := by
  rcases h with ⟨-, rfl⟩ | ⟨-, rfl⟩
  · unfold tookD
    split
    · split
      · split
        · exact ⟨hp, hl.k2, hl.k3, hl.k4⟩
        · exact hl
      · split
        · exact ⟨hl.k1, by show (prolR _ _ _).length ≤ _; rw [prol_len]; exact hl.k2, hl.k3, hl.k4⟩
        · split
          · exact ⟨hl.k1, hl.k2, hl.k3, Nat.le_trans (forg_sub _ _ _).length_le hl.k4⟩
          · exact hl
    · exact hl
  · exact ⟨by simp [zeroD], by simp [zeroD], by simp [zeroD], by simp [zeroD]⟩

set_option maxRecDepth 4000 in
set_option maxHeartbeats 8000000 in
theorem lawTake (m : MateD) (p : ParcelD) (v1 v2 v3 v4 v5 : Value) (w : World) (i1 : W.In w v1 m.ws) (i2 : In w v2 m.rs) (i3 : A.In w v3 m.qs) (i4 : A.In w v4 m.gs) (i5 : W.In w v5 p.ws) (hn : m.nm.size ≤ maxLen) (hb : p.b.size ≤ maxLen) (hh : p.h.size ≤ maxLen) (hc : p.c.size ≤ maxLen) :
    Calls Tryz.prog 3 #[.agg #[.string m.nm, .bool m.up, .int .i64 m.ck, .bool m.kn, .int .i64 m.se, v1, v2, v3, v4], .agg #[.int .i64 p.k, .string p.b, .int .i64 p.s, v5, .string p.h, .string p.c, .int .i64 p.t]] w fun e w' => e = .returned (.bool true) ∧ Below w.heap.size w w' := by
  have hinfo : (Tryz.prog.info? 35).map (·.size) = some 9 := by kernel_rfl
  go_enter Tryz.func3, Tryz.ntmps3
  go_wp2_with fail
  have C0 : Hid (Below w.heap.size w ((w.alloc (.cells #[.string m.nm, .bool m.up, .int .i64 m.ck, .bool m.kn, .int .i64 m.se, v1, v2, v3, v4] 26)).alloc (.cells #[.int .i64 p.k, .string p.b, .int .i64 p.s, v5, .string p.h, .string p.c, .int .i64 p.t] 28))) := bl_alloc (bl_alloc (Below.refl _ _) _) _
  have A0 : Hid (Lx ((w.alloc (.cells #[.string m.nm, .bool m.up, .int .i64 m.ck, .bool m.kn, .int .i64 m.se, v1, v2, v3, v4] 26)).alloc (.cells #[.int .i64 p.k, .string p.b, .int .i64 p.s, v5, .string p.h, .string p.c, .int .i64 p.t] 28)) w.heap.size #[.string m.nm, .bool m.up, .int .i64 m.ck, .bool m.kn, .int .i64 m.se, v1, v2, v3, v4]) := (Lx.new _ _ _).keep (bl_alloc (Below.refl _ _) _)
  have B0 : Hid (Lx ((w.alloc (.cells #[.string m.nm, .bool m.up, .int .i64 m.ck, .bool m.kn, .int .i64 m.se, v1, v2, v3, v4] 26)).alloc (.cells #[.int .i64 p.k, .string p.b, .int .i64 p.s, v5, .string p.h, .string p.c, .int .i64 p.t] 28)) (w.heap.size + 1) #[.int .i64 p.k, .string p.b, .int .i64 p.s, v5, .string p.h, .string p.c, .int .i64 p.t]) := lx_new1 _ _ _ _ _
  refine (szMate_le m v1 v2 v3 v4 _ (i1.keep C0.out) (i2.keep C0.out) (i3.keep C0.out) (i4.keep C0.out) hn).mono ?_
  rintro e w1 ⟨hx, c⟩
  have C1 : Hid (Below w.heap.size w w1) := bl_trans C0.out c
  have A1 : Hid (Lx w1 w.heap.size #[.string m.nm, .bool m.up, .int .i64 m.ck, .bool m.kn, .int .i64 m.se, v1, v2, v3, v4]) := (A0.out).keep c
  have B1 : Hid (Lx w1 (w.heap.size + 1) #[.int .i64 p.k, .string p.b, .int .i64 p.s, v5, .string p.h, .string p.c, .int .i64 p.t]) := (B0.out).keep c
  clear C0 A0 B0
  clear c
  have ka := A1.out.c
  have kb := B1.out.c
  rcases hx with rfl | ⟨x, rfl, x0, x1, l1, l2, l3, l4⟩
  · go_wp2
    go_ret
    exact ⟨rfl, C1.out⟩
  have hf : m.fits := ⟨hn, i1.fits, i2.fits, i3.fits, i4.fits, l1, l2, l3, l4⟩
  have Hl : Hid (Lens m) := ⟨l1, l2, l3, l4⟩
  go_wp2_with fail
  refine (szParcel_any p v5 x _ (i5.keep C1.out) x0 x1 hb hh hc).mono ?_
  rintro e w2 ⟨hx, c⟩
  clear ka kb
  have C2 : Hid (Below w.heap.size w w2) := bl_trans C1.out c
  have A2 : Hid (Lx w2 w.heap.size #[.string m.nm, .bool m.up, .int .i64 m.ck, .bool m.kn, .int .i64 m.se, v1, v2, v3, v4]) := (A1.out).keep c
  have B2 : Hid (Lx w2 (w.heap.size + 1) #[.int .i64 p.k, .string p.b, .int .i64 p.s, v5, .string p.h, .string p.c, .int .i64 p.t]) := (B1.out).keep c
  clear C1 A1 B1
  clear c
  have ka := A2.out.c
  have kb := B2.out.c
  rcases hx with rfl | ⟨x', rfl, y0, l5⟩
  · go_wp2
    go_ret
    exact ⟨rfl, C2.out⟩
  have hp : p.fits := ⟨hb, hh, hc, i5.fits, l5⟩
  go_wp2_with fail
  clear ka kb
  go_cut [6] (fun v wx => ∃ c r a1 p1 a2 p2 a3 p3 a4 p4, v = .pointer (some ⟨c, 0, none⟩) ∧ Takes m p r ∧ Lx wx c #[.string r.nm, .bool r.up, .int .i64 r.ck, .bool r.kn, .int .i64 r.se, .slice a1 r.ws.length p1, .slice a2 r.rs.length p2, .slice a3 r.qs.length p3, .slice a4 r.gs.length p4] ∧ SlM wx r (.slice a1 r.ws.length p1) (.slice a2 r.rs.length p2) (.slice a3 r.qs.length p3) (.slice a4 r.gs.length p4) w2.heap.size ∧ w2.heap.size ≤ c ∧ Below w2.heap.size w2 wx)
  case first =>
    refine wp_region_noPanic ?_
    refine wp_region_held_drew (S := (fun y => Below w2.heap.size w2 y ∧ (y.cell? ⟨w.heap.size, 0, none⟩ = some (.string m.nm) ∧ y.cell? ⟨w.heap.size, 1, none⟩ = some (.bool m.up) ∧ y.cell? ⟨w.heap.size, 2, none⟩ = some (.int .i64 m.ck) ∧ y.cell? ⟨w.heap.size, 3, none⟩ = some (.bool m.kn) ∧ y.cell? ⟨w.heap.size, 4, none⟩ = some (.int .i64 m.se) ∧ y.cell? ⟨w.heap.size, 5, none⟩ = some (v1) ∧ y.cell? ⟨w.heap.size, 6, none⟩ = some (v2) ∧ y.cell? ⟨w.heap.size, 7, none⟩ = some (v3) ∧ y.cell? ⟨w.heap.size, 8, none⟩ = some (v4) ∧ y.cell? ⟨w.heap.size + 1, 0, none⟩ = some (.int .i64 p.k) ∧ y.cell? ⟨w.heap.size + 1, 1, none⟩ = some (.string p.b) ∧ y.cell? ⟨w.heap.size + 1, 2, none⟩ = some (.int .i64 p.s) ∧ y.cell? ⟨w.heap.size + 1, 3, none⟩ = some (v5) ∧ y.cell? ⟨w.heap.size + 1, 4, none⟩ = some (.string p.h) ∧ y.cell? ⟨w.heap.size + 1, 5, none⟩ = some (.string p.c) ∧ y.cell? ⟨w.heap.size + 1, 6, none⟩ = some (.int .i64 p.t)))) (by kernel_rfl) (kAB A2.out B2.out (bl_drew (Below.refl _ _))) (fun hHeld => ?_)
    refine wpAnyH_take (i := 0) (v := ?vx1) rfl (by kernel_rfl) (by kernel_rfl) (by kernel_rfl) (fun _ _ _ h => h) (Or.inl ⟨by rfl, ?hx1⟩) (by assumption) ?rx1
    case hx1 => (intro w hSw; (try dsimp only at hSw); go_simp; try (with_reducible rfl))
    try simp only [Act.put, List.setIfInBounds_toArray, List.set_cons_zero, List.set_cons_succ, List.getElem_toArray, List.getElem_cons_zero]
    refine wpAnyH_take (i := 2) (v := ?vx2) rfl (by kernel_rfl) (by kernel_rfl) (by kernel_rfl) (fun _ _ _ h => h) (Or.inl ⟨by rfl, ?hx2⟩) (by assumption) ?rx2
    case hx2 => (intro w hSw; (try dsimp only at hSw); go_simp; try (with_reducible rfl))
    try simp only [Act.put, List.setIfInBounds_toArray, List.set_cons_zero, List.set_cons_succ, List.getElem_toArray, List.getElem_cons_zero, List.getElem_cons_succ]
    refine wpAnyH_ready (rs := [1, 5]) (by kernel_rfl) (by simp) ?_
    refine AllReadyH.cons rfl (fun K hK => ?_) (AllReadyH.cons rfl (fun K hK => ?_) AllReadyH.nil)
    · go_simp
      refine (toMate_sl m v1 v2 v3 v4 _ (i1.keep (bl_trans C2.out (bl_drew (Below.refl _ _)))) (i2.keep (bl_trans C2.out (bl_drew (Below.refl _ _)))) (i3.keep (bl_trans C2.out (bl_drew (Below.refl _ _)))) (i4.keep (bl_trans C2.out (bl_drew (Below.refl _ _)))) l1 l2 l3 l4).mono ?_
      rintro e y1 ⟨b1, b2, b3, b4, rfl, hL, d1⟩
      go_wp2_with fail
      refine hK.out _ _ (kAB A2.out B2.out (bl_trans (bl_drew (Below.refl _ _)) d1)) (fun hHeld1 => ?_)
      clear hK K hHeld
      try simp only [Act.put, List.setIfInBounds_toArray, List.set_cons_zero, List.set_cons_succ, List.getElem_toArray, List.getElem_cons_zero, List.getElem_cons_succ]
      refine wpAnyH_ready (rs := [3, 5]) (by kernel_rfl) (by simp) ?_
      refine AllReadyH.cons rfl (fun K hK => ?_) (AllReadyH.cons rfl (fun K hK => ?_) AllReadyH.nil)
      · go_simp
        refine (toParcel_sl p v5 _ (i5.keep (bl_trans C2.out (bl_trans (bl_drew (Below.refl _ _)) d1))) l5).mono ?_
        rintro e y2 ⟨b5, rfl, hP, d2⟩
        replace hL := hL.keep d2
        go_wp2_with fail
        refine hK.out _ _ (kAB A2.out B2.out (bl_trans (bl_trans (bl_drew (Below.refl _ _)) d1) d2)) (fun hHeld2 => ?_)
        clear hK K hHeld1
        try simp only [Act.put, List.setIfInBounds_toArray, List.set_cons_zero, List.set_cons_succ, List.getElem_toArray, List.getElem_cons_zero, List.getElem_cons_succ]
        refine wpAnyH_ready (rs := [4, 5]) (by kernel_rfl) (by simp) ?_
        refine AllReadyH.cons rfl (fun K hK => ?_) (AllReadyH.cons rfl (fun K hK => ?_) AllReadyH.nil)
        · go_simp
          refine (specTake m p b1 b2 b3 b4 b5 _ (lists_of hL) hf (W.Sl.at_ hP).1 (W.Sl.at_ hP).2 hp).mono ?_
          rintro e y3 ⟨⟨r, s1, s2, s3, s4, rfl, hr, R⟩, d3⟩
          obtain ⟨a1, p1, hs1⟩ := W.Sl.shape R.a1
          subst hs1
          obtain ⟨a2, p2, hs2⟩ := Sl.shape R.a2
          subst hs2
          obtain ⟨a3, p3, hs3⟩ := A.Sl.shape R.a3
          subst hs3
          obtain ⟨a4, p4, hs4⟩ := A.Sl.shape R.a4
          subst hs4
          replace hL := hL.keep d3
          replace hP := hP.keep d3
          have Lb : Hid (w2.heap.size ≤ y2.heap.size) := (bl_trans (bl_trans (bl_drew (Below.refl _ _)) d1) d2).size
          go_wp2_with fail
          refine hK.out _ _ (kAB A2.out B2.out (bl_trans (bl_trans (bl_trans (bl_drew (Below.refl _ _)) d1) d2) d3)) (fun hHeld3 => ?_)
          clear hK K hHeld2
          try simp only [Act.put, List.setIfInBounds_toArray, List.set_cons_zero, List.set_cons_succ, List.getElem_toArray, List.getElem_cons_zero, List.getElem_cons_succ]
          refine wpAnyH_ready (rs := [5]) (by kernel_rfl) (by simp) ?_
          refine AllReadyH.cons rfl (fun K hK => ?_) AllReadyH.nil
          go_simp
          have Th : Hid (Bx (y3.alloc (.cells #[.string { data := #[] }, .bool false, .int .i64 0, .bool false, .int .i64 0, .slice none 0 0, .slice none 0 0, .slice none 0 0, .slice none 0 0] 35)) y3.heap.size #[.string { data := #[] }, .bool false, .int .i64 0, .bool false, .int .i64 0, .slice none 0 0, .slice none 0 0, .slice none 0 0, .slice none 0 0]) := bx_new _ _ _
          have Zc : Hid (w2.heap.size ≤ y3.heap.size) := (bl_trans (bl_trans (bl_trans (bl_drew (Below.refl _ _)) d1) d2) d3).size
          have Lt : Hid (∀ j, ((Value.slice a1 r.ws.length p1).ownBlock = some j ∨ (Value.slice a2 r.rs.length p2).ownBlock = some j ∨ (Value.slice a3 r.qs.length p3).ownBlock = some j ∨ (Value.slice a4 r.gs.length p4).ownBlock = some j) → j < y3.heap.size) := SlM.lt R
          replace hL := hL.keep (bl_alloc (Below.refl _ _) (.cells #[.string { data := #[] }, .bool false, .int .i64 0, .bool false, .int .i64 0, .slice none 0 0, .slice none 0 0, .slice none 0 0, .slice none 0 0] 35))
          replace hP := hP.keep (bl_alloc (Below.refl _ _) (.cells #[.string { data := #[] }, .bool false, .int .i64 0, .bool false, .int .i64 0, .slice none 0 0, .slice none 0 0, .slice none 0 0, .slice none 0 0] 35))
          replace R := R.keep (bl_alloc (Below.refl _ _) (.cells #[.string { data := #[] }, .bool false, .int .i64 0, .bool false, .int .i64 0, .slice none 0 0, .slice none 0 0, .slice none 0 0, .slice none 0 0] 35))
          refine hK.out _ _ (kAB A2.out B2.out (bl_alloc (bl_trans (bl_trans (bl_trans (bl_drew (Below.refl _ _)) d1) d2) d3) _)) (fun hHeld4 => ?_)
          clear hK K hHeld3
          try simp only [Act.put, List.setIfInBounds_toArray, List.set_cons_zero, List.set_cons_succ, List.getElem_toArray, List.getElem_cons_zero, List.getElem_cons_succ]
          have ho := ones r R.a1 R.a2 R.a3 R.a4
          refine wpAnyH_ready (rs := [6]) (by kernel_rfl) (by simp) ?_
          refine AllReadyH.cons rfl (fun K hK => ?_) AllReadyH.nil
          refine if_wanted (by rfl) ?_
          refine wp_store_mid 35 _ _ (by rfl) y3.heap.size 0 #[.string r.nm, .bool r.up, .int .i64 r.ck, .bool r.kn, .int .i64 r.se, .slice a1 r.ws.length p1, .slice a2 r.rs.length p2, .slice a3 r.qs.length p3, .slice a4 r.gs.length p4] (by rfl) (by rfl) (by have h9 : World.there _ _ 0 9 := bx_there Th.out; exact h9) hinfo (by exact all_oneCell_toArray ho) ?_
          refine hK.out _ _ (kAB A2.out B2.out (Ex.mono (bl_alloc (bl_trans (bl_trans (bl_trans (bl_drew (Below.refl _ _)) d1) d2) d3) _) ((Ex.refl y3.heap.size _).cells [.string r.nm, .bool r.up, .int .i64 r.ck, .bool r.kn, .int .i64 r.se, .slice a1 r.ws.length p1, .slice a2 r.rs.length p2, .slice a3 r.qs.length p3, .slice a4 r.gs.length p4] 0) Zc.out)) (fun hLast => ?_)
          clear hK K hHeld4
          refine wpAnyH_done (by kernel_rfl) ?_ _
          refine NoPanic.normal ?_
          go_wp2_with fail
          go_meet
          exact ⟨y3.heap.size, r, a1, p1, a2, p2, a3, p3, a4, p4, rfl, hr, lx_put Th.out rfl, SlM.low (R.exlt Lt.out ((Ex.refl _ _).cells _ _)) Lb.out, Zc.out, (Ex.mono (bl_alloc (bl_trans (bl_trans (bl_trans (bl_drew (Below.refl _ _)) d1) d2) d3) _) ((Ex.refl y3.heap.size _).cells [.string r.nm, .bool r.up, .int .i64 r.ck, .bool r.kn, .int .i64 r.se, .slice a1 r.ws.length p1, .slice a2 r.rs.length p2, .slice a3 r.qs.length p3, .slice a4 r.gs.length p4] 0) Zc.out)⟩
        · go_simp
          have Th : Hid (Bx (y2.alloc (.cells #[.string { data := #[] }, .bool false, .int .i64 0, .bool false, .int .i64 0, .slice none 0 0, .slice none 0 0, .slice none 0 0, .slice none 0 0] 35)) y2.heap.size #[.string { data := #[] }, .bool false, .int .i64 0, .bool false, .int .i64 0, .slice none 0 0, .slice none 0 0, .slice none 0 0, .slice none 0 0]) := bx_new _ _ _
          have Zc : Hid (w2.heap.size ≤ y2.heap.size) := (bl_trans (bl_trans (bl_drew (Below.refl _ _)) d1) d2).size
          replace hL := hL.keep (bl_alloc (Below.refl _ _) (.cells #[.string { data := #[] }, .bool false, .int .i64 0, .bool false, .int .i64 0, .slice none 0 0, .slice none 0 0, .slice none 0 0, .slice none 0 0] 35))
          replace hP := hP.keep (bl_alloc (Below.refl _ _) (.cells #[.string { data := #[] }, .bool false, .int .i64 0, .bool false, .int .i64 0, .slice none 0 0, .slice none 0 0, .slice none 0 0, .slice none 0 0] 35))
          refine hK.out _ _ (kAB A2.out B2.out (bl_alloc (bl_trans (bl_trans (bl_drew (Below.refl _ _)) d1) d2) _)) (fun hHeld5 => ?_)
          clear hK K hHeld2
          try simp only [Act.put, List.setIfInBounds_toArray, List.set_cons_zero, List.set_cons_succ, List.getElem_toArray, List.getElem_cons_zero, List.getElem_cons_succ]
          refine wpAnyH_ready (rs := [4]) (by kernel_rfl) (by simp) ?_
          refine AllReadyH.cons rfl (fun K hK => ?_) AllReadyH.nil
          go_simp
          refine (specTake m p b1 b2 b3 b4 b5 _ (lists_of hL) hf (W.Sl.at_ hP).1 (W.Sl.at_ hP).2 hp).mono ?_
          rintro e y6 ⟨⟨r, s1, s2, s3, s4, rfl, hr, R⟩, d6⟩
          obtain ⟨a1, p1, hs1⟩ := W.Sl.shape R.a1
          subst hs1
          obtain ⟨a2, p2, hs2⟩ := Sl.shape R.a2
          subst hs2
          obtain ⟨a3, p3, hs3⟩ := A.Sl.shape R.a3
          subst hs3
          obtain ⟨a4, p4, hs4⟩ := A.Sl.shape R.a4
          subst hs4
          replace hL := hL.keep d6
          replace hP := hP.keep d6
          have Lb : Hid (w2.heap.size ≤ (y2.alloc (.cells #[.string { data := #[] }, .bool false, .int .i64 0, .bool false, .int .i64 0, .slice none 0 0, .slice none 0 0, .slice none 0 0, .slice none 0 0] 35)).heap.size) := (bl_alloc (bl_trans (bl_trans (bl_drew (Below.refl _ _)) d1) d2) _).size
          have Th6 : Hid (Bx y6 y2.heap.size #[.string { data := #[] }, .bool false, .int .i64 0, .bool false, .int .i64 0, .slice none 0 0, .slice none 0 0, .slice none 0 0, .slice none 0 0]) := Th.out.below d6
          have Lt : Hid (y2.heap.size < (y2.alloc (.cells #[.string { data := #[] }, .bool false, .int .i64 0, .bool false, .int .i64 0, .slice none 0 0, .slice none 0 0, .slice none 0 0, .slice none 0 0] 35)).heap.size) := Th.out.l
          clear Th
          have Th := Th6
          clear Th6
          go_wp2_with fail
          refine hK.out _ _ (kAB A2.out B2.out (bl_trans (bl_alloc (bl_trans (bl_trans (bl_drew (Below.refl _ _)) d1) d2) _) d6)) (fun hHeld6 => ?_)
          clear hK K hHeld5
          try simp only [Act.put, List.setIfInBounds_toArray, List.set_cons_zero, List.set_cons_succ, List.getElem_toArray, List.getElem_cons_zero, List.getElem_cons_succ]
          have ho := ones r R.a1 R.a2 R.a3 R.a4
          refine wpAnyH_ready (rs := [6]) (by kernel_rfl) (by simp) ?_
          refine AllReadyH.cons rfl (fun K hK => ?_) AllReadyH.nil
          refine if_wanted (by rfl) ?_
          refine wp_store_mid 35 _ _ (by rfl) y2.heap.size 0 #[.string r.nm, .bool r.up, .int .i64 r.ck, .bool r.kn, .int .i64 r.se, .slice a1 r.ws.length p1, .slice a2 r.rs.length p2, .slice a3 r.qs.length p3, .slice a4 r.gs.length p4] (by rfl) (by rfl) (by have h9 : World.there _ _ 0 9 := bx_there Th.out; exact h9) hinfo (by exact all_oneCell_toArray ho) ?_
          refine hK.out _ _ (kAB A2.out B2.out (Ex.mono (bl_trans (bl_alloc (bl_trans (bl_trans (bl_drew (Below.refl _ _)) d1) d2) _) d6) ((Ex.refl y2.heap.size _).cells [.string r.nm, .bool r.up, .int .i64 r.ck, .bool r.kn, .int .i64 r.se, .slice a1 r.ws.length p1, .slice a2 r.rs.length p2, .slice a3 r.qs.length p3, .slice a4 r.gs.length p4] 0) Zc.out)) (fun hLast => ?_)
          clear hK K hHeld6
          refine wpAnyH_done (by kernel_rfl) ?_ _
          refine NoPanic.normal ?_
          go_wp2_with fail
          go_meet
          exact ⟨y2.heap.size, r, a1, p1, a2, p2, a3, p3, a4, p4, rfl, hr, lx_put Th.out rfl, SlM.low (R.ex ((Ex.refl _ _).cells _ _) Lt.out) Lb.out, Zc.out, (Ex.mono (bl_trans (bl_alloc (bl_trans (bl_trans (bl_drew (Below.refl _ _)) d1) d2) _) d6) ((Ex.refl y2.heap.size _).cells [.string r.nm, .bool r.up, .int .i64 r.ck, .bool r.kn, .int .i64 r.se, .slice a1 r.ws.length p1, .slice a2 r.rs.length p2, .slice a3 r.qs.length p3, .slice a4 r.gs.length p4] 0) Zc.out)⟩
      · go_simp
        have Th : Hid (Bx (y1.alloc (.cells #[.string { data := #[] }, .bool false, .int .i64 0, .bool false, .int .i64 0, .slice none 0 0, .slice none 0 0, .slice none 0 0, .slice none 0 0] 35)) y1.heap.size #[.string { data := #[] }, .bool false, .int .i64 0, .bool false, .int .i64 0, .slice none 0 0, .slice none 0 0, .slice none 0 0, .slice none 0 0]) := bx_new _ _ _
        have Zc : Hid (w2.heap.size ≤ y1.heap.size) := (bl_trans (bl_drew (Below.refl _ _)) d1).size
        replace hL := hL.keep (bl_alloc (Below.refl _ _) (.cells #[.string { data := #[] }, .bool false, .int .i64 0, .bool false, .int .i64 0, .slice none 0 0, .slice none 0 0, .slice none 0 0, .slice none 0 0] 35))
        refine hK.out _ _ (kAB A2.out B2.out (bl_alloc (bl_trans (bl_drew (Below.refl _ _)) d1) _)) (fun hHeld7 => ?_)
        clear hK K hHeld1
        try simp only [Act.put, List.setIfInBounds_toArray, List.set_cons_zero, List.set_cons_succ, List.getElem_toArray, List.getElem_cons_zero, List.getElem_cons_succ]
        refine wpAnyH_ready (rs := [3]) (by kernel_rfl) (by simp) ?_
        refine AllReadyH.cons rfl (fun K hK => ?_) AllReadyH.nil
        go_simp
        refine (toParcel_sl p v5 _ (i5.keep (bl_trans C2.out (bl_alloc (bl_trans (bl_drew (Below.refl _ _)) d1) _))) l5).mono ?_
        rintro e y8 ⟨b5, rfl, hP, d8⟩
        replace hL := hL.keep d8
        have Th8 : Hid (Bx y8 y1.heap.size #[.string { data := #[] }, .bool false, .int .i64 0, .bool false, .int .i64 0, .slice none 0 0, .slice none 0 0, .slice none 0 0, .slice none 0 0]) := Th.out.below d8
        clear Th
        have Th := Th8
        clear Th8
        go_wp2_with fail
        refine hK.out _ _ (kAB A2.out B2.out (bl_trans (bl_alloc (bl_trans (bl_drew (Below.refl _ _)) d1) _) d8)) (fun hHeld8 => ?_)
        clear hK K hHeld7
        try simp only [Act.put, List.setIfInBounds_toArray, List.set_cons_zero, List.set_cons_succ, List.getElem_toArray, List.getElem_cons_zero, List.getElem_cons_succ]
        refine wpAnyH_ready (rs := [4]) (by kernel_rfl) (by simp) ?_
        refine AllReadyH.cons rfl (fun K hK => ?_) AllReadyH.nil
        go_simp
        refine (specTake m p b1 b2 b3 b4 b5 _ (lists_of hL) hf (W.Sl.at_ hP).1 (W.Sl.at_ hP).2 hp).mono ?_
        rintro e y9 ⟨⟨r, s1, s2, s3, s4, rfl, hr, R⟩, d9⟩
        obtain ⟨a1, p1, hs1⟩ := W.Sl.shape R.a1
        subst hs1
        obtain ⟨a2, p2, hs2⟩ := Sl.shape R.a2
        subst hs2
        obtain ⟨a3, p3, hs3⟩ := A.Sl.shape R.a3
        subst hs3
        obtain ⟨a4, p4, hs4⟩ := A.Sl.shape R.a4
        subst hs4
        replace hL := hL.keep d9
        replace hP := hP.keep d9
        have Lb : Hid (w2.heap.size ≤ y8.heap.size) := (bl_trans (bl_alloc (bl_trans (bl_drew (Below.refl _ _)) d1) _) d8).size
        have Th9 : Hid (Bx y9 y1.heap.size #[.string { data := #[] }, .bool false, .int .i64 0, .bool false, .int .i64 0, .slice none 0 0, .slice none 0 0, .slice none 0 0, .slice none 0 0]) := Th.out.below d9
        have Lt : Hid (y1.heap.size < y8.heap.size) := Th.out.l
        clear Th
        have Th := Th9
        clear Th9
        go_wp2_with fail
        refine hK.out _ _ (kAB A2.out B2.out (bl_trans (bl_trans (bl_alloc (bl_trans (bl_drew (Below.refl _ _)) d1) _) d8) d9)) (fun hHeld9 => ?_)
        clear hK K hHeld8
        try simp only [Act.put, List.setIfInBounds_toArray, List.set_cons_zero, List.set_cons_succ, List.getElem_toArray, List.getElem_cons_zero, List.getElem_cons_succ]
        have ho := ones r R.a1 R.a2 R.a3 R.a4
        refine wpAnyH_ready (rs := [6]) (by kernel_rfl) (by simp) ?_
        refine AllReadyH.cons rfl (fun K hK => ?_) AllReadyH.nil
        refine if_wanted (by rfl) ?_
        refine wp_store_mid 35 _ _ (by rfl) y1.heap.size 0 #[.string r.nm, .bool r.up, .int .i64 r.ck, .bool r.kn, .int .i64 r.se, .slice a1 r.ws.length p1, .slice a2 r.rs.length p2, .slice a3 r.qs.length p3, .slice a4 r.gs.length p4] (by rfl) (by rfl) (by have h9 : World.there _ _ 0 9 := bx_there Th.out; exact h9) hinfo (by exact all_oneCell_toArray ho) ?_
        refine hK.out _ _ (kAB A2.out B2.out (Ex.mono (bl_trans (bl_trans (bl_alloc (bl_trans (bl_drew (Below.refl _ _)) d1) _) d8) d9) ((Ex.refl y1.heap.size _).cells [.string r.nm, .bool r.up, .int .i64 r.ck, .bool r.kn, .int .i64 r.se, .slice a1 r.ws.length p1, .slice a2 r.rs.length p2, .slice a3 r.qs.length p3, .slice a4 r.gs.length p4] 0) Zc.out)) (fun hLast => ?_)
        clear hK K hHeld9
        refine wpAnyH_done (by kernel_rfl) ?_ _
        refine NoPanic.normal ?_
        go_wp2_with fail
        go_meet
        exact ⟨y1.heap.size, r, a1, p1, a2, p2, a3, p3, a4, p4, rfl, hr, lx_put Th.out rfl, SlM.low (R.ex ((Ex.refl _ _).cells _ _) Lt.out) Lb.out, Zc.out, (Ex.mono (bl_trans (bl_trans (bl_alloc (bl_trans (bl_drew (Below.refl _ _)) d1) _) d8) d9) ((Ex.refl y1.heap.size _).cells [.string r.nm, .bool r.up, .int .i64 r.ck, .bool r.kn, .int .i64 r.se, .slice a1 r.ws.length p1, .slice a2 r.rs.length p2, .slice a3 r.qs.length p3, .slice a4 r.gs.length p4] 0) Zc.out)⟩
    · go_simp
      have Th : Hid (Bx (w2.alloc (.cells #[.string { data := #[] }, .bool false, .int .i64 0, .bool false, .int .i64 0, .slice none 0 0, .slice none 0 0, .slice none 0 0, .slice none 0 0] 35)).drew w2.heap.size #[.string { data := #[] }, .bool false, .int .i64 0, .bool false, .int .i64 0, .slice none 0 0, .slice none 0 0, .slice none 0 0, .slice none 0 0]) := (bx_new w2 _ _).below (bl_drew (Below.refl _ _))
      have Zc : Hid (w2.heap.size ≤ w2.heap.size) := (bl_drew (Below.refl _ _)).size
      refine hK.out _ _ (kAB A2.out B2.out (bl_drew (bl_alloc (Below.refl _ _) _))) (fun hHeld10 => ?_)
      clear hK K hHeld
      try simp only [Act.put, List.setIfInBounds_toArray, List.set_cons_zero, List.set_cons_succ, List.getElem_toArray, List.getElem_cons_zero, List.getElem_cons_succ]
      refine wpAnyH_ready (rs := [1]) (by kernel_rfl) (by simp) ?_
      refine AllReadyH.cons rfl (fun K hK => ?_) AllReadyH.nil
      go_simp
      refine (toMate_sl m v1 v2 v3 v4 _ (i1.keep (bl_trans C2.out (bl_drew (bl_alloc (Below.refl _ _) _)))) (i2.keep (bl_trans C2.out (bl_drew (bl_alloc (Below.refl _ _) _)))) (i3.keep (bl_trans C2.out (bl_drew (bl_alloc (Below.refl _ _) _)))) (i4.keep (bl_trans C2.out (bl_drew (bl_alloc (Below.refl _ _) _)))) l1 l2 l3 l4).mono ?_
      rintro e y11 ⟨b1, b2, b3, b4, rfl, hL, d11⟩
      have Th11 : Hid (Bx y11 w2.heap.size #[.string { data := #[] }, .bool false, .int .i64 0, .bool false, .int .i64 0, .slice none 0 0, .slice none 0 0, .slice none 0 0, .slice none 0 0]) := Th.out.below d11
      clear Th
      have Th := Th11
      clear Th11
      go_wp2_with fail
      refine hK.out _ _ (kAB A2.out B2.out (bl_trans (bl_drew (bl_alloc (Below.refl _ _) _)) d11)) (fun hHeld11 => ?_)
      clear hK K hHeld10
      try simp only [Act.put, List.setIfInBounds_toArray, List.set_cons_zero, List.set_cons_succ, List.getElem_toArray, List.getElem_cons_zero, List.getElem_cons_succ]
      refine wpAnyH_ready (rs := [3]) (by kernel_rfl) (by simp) ?_
      refine AllReadyH.cons rfl (fun K hK => ?_) AllReadyH.nil
      go_simp
      refine (toParcel_sl p v5 _ (i5.keep (bl_trans C2.out (bl_trans (bl_drew (bl_alloc (Below.refl _ _) _)) d11))) l5).mono ?_
      rintro e y12 ⟨b5, rfl, hP, d12⟩
      replace hL := hL.keep d12
      have Th12 : Hid (Bx y12 w2.heap.size #[.string { data := #[] }, .bool false, .int .i64 0, .bool false, .int .i64 0, .slice none 0 0, .slice none 0 0, .slice none 0 0, .slice none 0 0]) := Th.out.below d12
      clear Th
      have Th := Th12
      clear Th12
      go_wp2_with fail
      refine hK.out _ _ (kAB A2.out B2.out (bl_trans (bl_trans (bl_drew (bl_alloc (Below.refl _ _) _)) d11) d12)) (fun hHeld12 => ?_)
      clear hK K hHeld11
      try simp only [Act.put, List.setIfInBounds_toArray, List.set_cons_zero, List.set_cons_succ, List.getElem_toArray, List.getElem_cons_zero, List.getElem_cons_succ]
      refine wpAnyH_ready (rs := [4]) (by kernel_rfl) (by simp) ?_
      refine AllReadyH.cons rfl (fun K hK => ?_) AllReadyH.nil
      go_simp
      refine (specTake m p b1 b2 b3 b4 b5 _ (lists_of hL) hf (W.Sl.at_ hP).1 (W.Sl.at_ hP).2 hp).mono ?_
      rintro e y13 ⟨⟨r, s1, s2, s3, s4, rfl, hr, R⟩, d13⟩
      obtain ⟨a1, p1, hs1⟩ := W.Sl.shape R.a1
      subst hs1
      obtain ⟨a2, p2, hs2⟩ := Sl.shape R.a2
      subst hs2
      obtain ⟨a3, p3, hs3⟩ := A.Sl.shape R.a3
      subst hs3
      obtain ⟨a4, p4, hs4⟩ := A.Sl.shape R.a4
      subst hs4
      replace hL := hL.keep d13
      replace hP := hP.keep d13
      have Lb : Hid (w2.heap.size ≤ y12.heap.size) := (bl_trans (bl_trans (bl_drew (bl_alloc (Below.refl _ _) _)) d11) d12).size
      have Th13 : Hid (Bx y13 w2.heap.size #[.string { data := #[] }, .bool false, .int .i64 0, .bool false, .int .i64 0, .slice none 0 0, .slice none 0 0, .slice none 0 0, .slice none 0 0]) := Th.out.below d13
      have Lt : Hid (w2.heap.size < y12.heap.size) := Th.out.l
      clear Th
      have Th := Th13
      clear Th13
      go_wp2_with fail
      refine hK.out _ _ (kAB A2.out B2.out (bl_trans (bl_trans (bl_trans (bl_drew (bl_alloc (Below.refl _ _) _)) d11) d12) d13)) (fun hHeld13 => ?_)
      clear hK K hHeld12
      try simp only [Act.put, List.setIfInBounds_toArray, List.set_cons_zero, List.set_cons_succ, List.getElem_toArray, List.getElem_cons_zero, List.getElem_cons_succ]
      have ho := ones r R.a1 R.a2 R.a3 R.a4
      refine wpAnyH_ready (rs := [6]) (by kernel_rfl) (by simp) ?_
      refine AllReadyH.cons rfl (fun K hK => ?_) AllReadyH.nil
      refine if_wanted (by rfl) ?_
      refine wp_store_mid 35 _ _ (by rfl) w2.heap.size 0 #[.string r.nm, .bool r.up, .int .i64 r.ck, .bool r.kn, .int .i64 r.se, .slice a1 r.ws.length p1, .slice a2 r.rs.length p2, .slice a3 r.qs.length p3, .slice a4 r.gs.length p4] (by rfl) (by rfl) (by have h9 : World.there _ _ 0 9 := bx_there Th.out; exact h9) hinfo (by exact all_oneCell_toArray ho) ?_
      refine hK.out _ _ (kAB A2.out B2.out (Ex.mono (bl_trans (bl_trans (bl_trans (bl_drew (bl_alloc (Below.refl _ _) _)) d11) d12) d13) ((Ex.refl w2.heap.size _).cells [.string r.nm, .bool r.up, .int .i64 r.ck, .bool r.kn, .int .i64 r.se, .slice a1 r.ws.length p1, .slice a2 r.rs.length p2, .slice a3 r.qs.length p3, .slice a4 r.gs.length p4] 0) Zc.out)) (fun hLast => ?_)
      clear hK K hHeld13
      refine wpAnyH_done (by kernel_rfl) ?_ _
      refine NoPanic.normal ?_
      go_wp2_with fail
      go_meet
      exact ⟨w2.heap.size, r, a1, p1, a2, p2, a3, p3, a4, p4, rfl, hr, lx_put Th.out rfl, SlM.low (R.ex ((Ex.refl _ _).cells _ _) Lt.out) Lb.out, Zc.out, (Ex.mono (bl_trans (bl_trans (bl_trans (bl_drew (bl_alloc (Below.refl _ _) _)) d11) d12) d13) ((Ex.refl w2.heap.size _).cells [.string r.nm, .bool r.up, .int .i64 r.ck, .bool r.kn, .int .i64 r.se, .slice a1 r.ws.length p1, .slice a2 r.rs.length p2, .slice a3 r.qs.length p3, .slice a4 r.gs.length p4] 0) Zc.out)⟩
  case rest =>
    obtain ⟨wa, rfl⟩ : ∃ wa : World, wa = wc := ⟨_, rfl⟩
    obtain ⟨c0, r, a1, p1, a2, p2, a3, p3, a4, p4, rfl, hr, hW, hV, hc0, cc⟩ := hcut
    have Hr : Hid (Takes m p r) := hr
    have Lr : Hid (Lens r) := lens_take hr Hl.out l5
    have V0 : Hid (∀ j, ((Value.slice a1 r.ws.length p1).ownBlock = some j ∨ (Value.slice a2 r.rs.length p2).ownBlock = some j ∨ (Value.slice a3 r.qs.length p3).ownBlock = some j ∨ (Value.slice a4 r.gs.length p4).ownBlock = some j) → j < wa.heap.size) := SlM.lt hV
    have C3 : Hid (Below w.heap.size w wa) := bl_trans C2.out cc
    have A3 : Hid (Lx wa w.heap.size #[.string m.nm, .bool m.up, .int .i64 m.ck, .bool m.kn, .int .i64 m.se, v1, v2, v3, v4]) := (A2.out).keep cc
    have B3 : Hid (Lx wa (w.heap.size + 1) #[.int .i64 p.k, .string p.b, .int .i64 p.s, v5, .string p.h, .string p.c, .int .i64 p.t]) := (B2.out).keep cc
    clear C2 A2 B2
    have V3 : Hid (SlM wa r (.slice a1 r.ws.length p1) (.slice a2 r.rs.length p2) (.slice a3 r.qs.length p3) (.slice a4 r.gs.length p4) w2.heap.size) := hV
    have W3 : Hid (Lx wa c0 #[.string r.nm, .bool r.up, .int .i64 r.ck, .bool r.kn, .int .i64 r.se, .slice a1 r.ws.length p1, .slice a2 r.rs.length p2, .slice a3 r.qs.length p3, .slice a4 r.gs.length p4]) := hW
    have N0 : Hid (w.heap.size + 1 < wa.heap.size ∧ c0 < wa.heap.size) := ⟨B3.out.l, W3.out.l⟩
    clear cc hr hW hV hc0
    have ka := A3.out.c
    go_wp2_with fail
    refine (toMate_sl m v1 v2 v3 v4 _ (i1.keep C3.out) (i2.keep C3.out) (i3.keep C3.out) (i4.keep C3.out) l1 l2 l3 l4).mono ?_
    rintro e w6 ⟨e1, e2, e3, e4, rfl, hL4, c⟩
    clear ka
    have C4 : Hid (Below w.heap.size w w6) := bl_trans C3.out c
    have A4 : Hid (Lx w6 w.heap.size #[.string m.nm, .bool m.up, .int .i64 m.ck, .bool m.kn, .int .i64 m.se, v1, v2, v3, v4]) := (A3.out).keep c
    have B4 : Hid (Lx w6 (w.heap.size + 1) #[.int .i64 p.k, .string p.b, .int .i64 p.s, v5, .string p.h, .string p.c, .int .i64 p.t]) := (B3.out).keep c
    have V4 : Hid (SlM w6 r (.slice a1 r.ws.length p1) (.slice a2 r.rs.length p2) (.slice a3 r.qs.length p3) (.slice a4 r.gs.length p4) w2.heap.size) := (V3.out).keep c
    have W4 : Hid (Lx w6 c0 #[.string r.nm, .bool r.up, .int .i64 r.ck, .bool r.kn, .int .i64 r.se, .slice a1 r.ws.length p1, .slice a2 r.rs.length p2, .slice a3 r.qs.length p3, .slice a4 r.gs.length p4]) := (W3.out).keep c
    clear C3 A3 B3 V3 W3
    have X4 : Hid (SlM w6 m (.slice (some ⟨e1, 0, none⟩) m.ws.length m.ws.length) (.slice (some ⟨e2, 0, none⟩) m.rs.length m.rs.length) (.slice (some ⟨e3, 0, none⟩) m.qs.length m.qs.length) (.slice (some ⟨e4, 0, none⟩) m.gs.length m.gs.length) wa.heap.size) := hL4
    have X0 : Hid (∀ j, ((Value.slice (some ⟨e1, 0, none⟩) m.ws.length m.ws.length).ownBlock = some j ∨ (Value.slice (some ⟨e2, 0, none⟩) m.rs.length m.rs.length).ownBlock = some j ∨ (Value.slice (some ⟨e3, 0, none⟩) m.qs.length m.qs.length).ownBlock = some j ∨ (Value.slice (some ⟨e4, 0, none⟩) m.gs.length m.gs.length).ownBlock = some j) → wa.heap.size ≤ j ∧ j < w6.heap.size) := fun j hj => ⟨SlM.ge hL4 j hj, SlM.lt hL4 j hj⟩
    have N1 : Hid (wa.heap.size ≤ w6.heap.size) := c.size
    clear c hL4
    have C5 : Hid (Below w.heap.size w (w6.alloc (.cells #[.string m.nm, .bool m.up, .int .i64 m.ck, .bool m.kn, .int .i64 m.se, .slice (some ⟨e1, 0, none⟩) m.ws.length m.ws.length, .slice (some ⟨e2, 0, none⟩) m.rs.length m.rs.length, .slice (some ⟨e3, 0, none⟩) m.qs.length m.qs.length, .slice (some ⟨e4, 0, none⟩) m.gs.length m.gs.length] 35))) := bl_trans C4.out (bl_alloc (Below.refl _ _) _)
    have A5 : Hid (Lx (w6.alloc (.cells #[.string m.nm, .bool m.up, .int .i64 m.ck, .bool m.kn, .int .i64 m.se, .slice (some ⟨e1, 0, none⟩) m.ws.length m.ws.length, .slice (some ⟨e2, 0, none⟩) m.rs.length m.rs.length, .slice (some ⟨e3, 0, none⟩) m.qs.length m.qs.length, .slice (some ⟨e4, 0, none⟩) m.gs.length m.gs.length] 35)) w.heap.size #[.string m.nm, .bool m.up, .int .i64 m.ck, .bool m.kn, .int .i64 m.se, v1, v2, v3, v4]) := (A4.out).keep (bl_alloc (Below.refl _ _) _)
    have B5 : Hid (Lx (w6.alloc (.cells #[.string m.nm, .bool m.up, .int .i64 m.ck, .bool m.kn, .int .i64 m.se, .slice (some ⟨e1, 0, none⟩) m.ws.length m.ws.length, .slice (some ⟨e2, 0, none⟩) m.rs.length m.rs.length, .slice (some ⟨e3, 0, none⟩) m.qs.length m.qs.length, .slice (some ⟨e4, 0, none⟩) m.gs.length m.gs.length] 35)) (w.heap.size + 1) #[.int .i64 p.k, .string p.b, .int .i64 p.s, v5, .string p.h, .string p.c, .int .i64 p.t]) := (B4.out).keep (bl_alloc (Below.refl _ _) _)
    have V5 : Hid (SlM (w6.alloc (.cells #[.string m.nm, .bool m.up, .int .i64 m.ck, .bool m.kn, .int .i64 m.se, .slice (some ⟨e1, 0, none⟩) m.ws.length m.ws.length, .slice (some ⟨e2, 0, none⟩) m.rs.length m.rs.length, .slice (some ⟨e3, 0, none⟩) m.qs.length m.qs.length, .slice (some ⟨e4, 0, none⟩) m.gs.length m.gs.length] 35)) r (.slice a1 r.ws.length p1) (.slice a2 r.rs.length p2) (.slice a3 r.qs.length p3) (.slice a4 r.gs.length p4) w2.heap.size) := (V4.out).keep (bl_alloc (Below.refl _ _) _)
    have W5 : Hid (Lx (w6.alloc (.cells #[.string m.nm, .bool m.up, .int .i64 m.ck, .bool m.kn, .int .i64 m.se, .slice (some ⟨e1, 0, none⟩) m.ws.length m.ws.length, .slice (some ⟨e2, 0, none⟩) m.rs.length m.rs.length, .slice (some ⟨e3, 0, none⟩) m.qs.length m.qs.length, .slice (some ⟨e4, 0, none⟩) m.gs.length m.gs.length] 35)) c0 #[.string r.nm, .bool r.up, .int .i64 r.ck, .bool r.kn, .int .i64 r.se, .slice a1 r.ws.length p1, .slice a2 r.rs.length p2, .slice a3 r.qs.length p3, .slice a4 r.gs.length p4]) := (W4.out).keep (bl_alloc (Below.refl _ _) _)
    have X5 : Hid (SlM (w6.alloc (.cells #[.string m.nm, .bool m.up, .int .i64 m.ck, .bool m.kn, .int .i64 m.se, .slice (some ⟨e1, 0, none⟩) m.ws.length m.ws.length, .slice (some ⟨e2, 0, none⟩) m.rs.length m.rs.length, .slice (some ⟨e3, 0, none⟩) m.qs.length m.qs.length, .slice (some ⟨e4, 0, none⟩) m.gs.length m.gs.length] 35)) m (.slice (some ⟨e1, 0, none⟩) m.ws.length m.ws.length) (.slice (some ⟨e2, 0, none⟩) m.rs.length m.rs.length) (.slice (some ⟨e3, 0, none⟩) m.qs.length m.qs.length) (.slice (some ⟨e4, 0, none⟩) m.gs.length m.gs.length) wa.heap.size) := (X4.out).keep (bl_alloc (Below.refl _ _) _)
    clear C4 A4 B4 V4 W4 X4
    have Y5 : Hid (Lx (w6.alloc (.cells #[.string m.nm, .bool m.up, .int .i64 m.ck, .bool m.kn, .int .i64 m.se, .slice (some ⟨e1, 0, none⟩) m.ws.length m.ws.length, .slice (some ⟨e2, 0, none⟩) m.rs.length m.rs.length, .slice (some ⟨e3, 0, none⟩) m.qs.length m.qs.length, .slice (some ⟨e4, 0, none⟩) m.gs.length m.gs.length] 35)) w6.heap.size #[.string m.nm, .bool m.up, .int .i64 m.ck, .bool m.kn, .int .i64 m.se, .slice (some ⟨e1, 0, none⟩) m.ws.length m.ws.length, .slice (some ⟨e2, 0, none⟩) m.rs.length m.rs.length, .slice (some ⟨e3, 0, none⟩) m.qs.length m.qs.length, .slice (some ⟨e4, 0, none⟩) m.gs.length m.gs.length]) := Lx.new _ _ _
    have kb := B5.out.c
    go_wp2_with fail
    refine (toParcel_sl p v5 _ (i5.keep C5.out) l5).mono ?_
    rintro e w7 ⟨e5, rfl, hP, c⟩
    clear kb
    have N2 : Hid (w6.heap.size + 1 ≤ w7.heap.size) := by have h := c.size; simp only [World.size_alloc] at h; exact h
    have C6 : Hid (Below w.heap.size w w7) := bl_trans C5.out c
    have A6 : Hid (Lx w7 w.heap.size #[.string m.nm, .bool m.up, .int .i64 m.ck, .bool m.kn, .int .i64 m.se, v1, v2, v3, v4]) := (A5.out).keep c
    have B6 : Hid (Lx w7 (w.heap.size + 1) #[.int .i64 p.k, .string p.b, .int .i64 p.s, v5, .string p.h, .string p.c, .int .i64 p.t]) := (B5.out).keep c
    have V6 : Hid (SlM w7 r (.slice a1 r.ws.length p1) (.slice a2 r.rs.length p2) (.slice a3 r.qs.length p3) (.slice a4 r.gs.length p4) w2.heap.size) := (V5.out).keep c
    have W6 : Hid (Lx w7 c0 #[.string r.nm, .bool r.up, .int .i64 r.ck, .bool r.kn, .int .i64 r.se, .slice a1 r.ws.length p1, .slice a2 r.rs.length p2, .slice a3 r.qs.length p3, .slice a4 r.gs.length p4]) := (W5.out).keep c
    have X6 : Hid (SlM w7 m (.slice (some ⟨e1, 0, none⟩) m.ws.length m.ws.length) (.slice (some ⟨e2, 0, none⟩) m.rs.length m.rs.length) (.slice (some ⟨e3, 0, none⟩) m.qs.length m.qs.length) (.slice (some ⟨e4, 0, none⟩) m.gs.length m.gs.length) wa.heap.size) := (X5.out).keep c
    have Y6 : Hid (Lx w7 w6.heap.size #[.string m.nm, .bool m.up, .int .i64 m.ck, .bool m.kn, .int .i64 m.se, .slice (some ⟨e1, 0, none⟩) m.ws.length m.ws.length, .slice (some ⟨e2, 0, none⟩) m.rs.length m.rs.length, .slice (some ⟨e3, 0, none⟩) m.qs.length m.qs.length, .slice (some ⟨e4, 0, none⟩) m.gs.length m.gs.length]) := (Y5.out).keep c
    clear C5 A5 B5 V5 W5 X5 Y5
    have P6 : Hid (W.Sl w7 (.slice (some ⟨e5, 0, none⟩) p.ws.length p.ws.length) p.ws (w6.alloc (.cells #[.string m.nm, .bool m.up, .int .i64 m.ck, .bool m.kn, .int .i64 m.se, .slice (some ⟨e1, 0, none⟩) m.ws.length m.ws.length, .slice (some ⟨e2, 0, none⟩) m.rs.length m.rs.length, .slice (some ⟨e3, 0, none⟩) m.qs.length m.qs.length, .slice (some ⟨e4, 0, none⟩) m.gs.length m.gs.length] 35)).heap.size) := hP
    have P0 : Hid (∀ j, (Value.slice (some ⟨e5, 0, none⟩) p.ws.length p.ws.length).ownBlock = some j → w6.heap.size + 1 ≤ j ∧ j < w7.heap.size) := fun j hj => by have := W.Sl.lt hP j hj; simpa using this
    clear c hP
    have C7 : Hid (Below w.heap.size w (w7.alloc (.cells #[.int .i64 p.k, .string p.b, .int .i64 p.s, .slice (some ⟨e5, 0, none⟩) p.ws.length p.ws.length, .string p.h, .string p.c, .int .i64 p.t] 39))) := bl_trans C6.out (bl_alloc (Below.refl _ _) _)
    have A7 : Hid (Lx (w7.alloc (.cells #[.int .i64 p.k, .string p.b, .int .i64 p.s, .slice (some ⟨e5, 0, none⟩) p.ws.length p.ws.length, .string p.h, .string p.c, .int .i64 p.t] 39)) w.heap.size #[.string m.nm, .bool m.up, .int .i64 m.ck, .bool m.kn, .int .i64 m.se, v1, v2, v3, v4]) := (A6.out).keep (bl_alloc (Below.refl _ _) _)
    have B7 : Hid (Lx (w7.alloc (.cells #[.int .i64 p.k, .string p.b, .int .i64 p.s, .slice (some ⟨e5, 0, none⟩) p.ws.length p.ws.length, .string p.h, .string p.c, .int .i64 p.t] 39)) (w.heap.size + 1) #[.int .i64 p.k, .string p.b, .int .i64 p.s, v5, .string p.h, .string p.c, .int .i64 p.t]) := (B6.out).keep (bl_alloc (Below.refl _ _) _)
    have V7 : Hid (SlM (w7.alloc (.cells #[.int .i64 p.k, .string p.b, .int .i64 p.s, .slice (some ⟨e5, 0, none⟩) p.ws.length p.ws.length, .string p.h, .string p.c, .int .i64 p.t] 39)) r (.slice a1 r.ws.length p1) (.slice a2 r.rs.length p2) (.slice a3 r.qs.length p3) (.slice a4 r.gs.length p4) w2.heap.size) := (V6.out).keep (bl_alloc (Below.refl _ _) _)
    have W7 : Hid (Lx (w7.alloc (.cells #[.int .i64 p.k, .string p.b, .int .i64 p.s, .slice (some ⟨e5, 0, none⟩) p.ws.length p.ws.length, .string p.h, .string p.c, .int .i64 p.t] 39)) c0 #[.string r.nm, .bool r.up, .int .i64 r.ck, .bool r.kn, .int .i64 r.se, .slice a1 r.ws.length p1, .slice a2 r.rs.length p2, .slice a3 r.qs.length p3, .slice a4 r.gs.length p4]) := (W6.out).keep (bl_alloc (Below.refl _ _) _)
    have X7 : Hid (SlM (w7.alloc (.cells #[.int .i64 p.k, .string p.b, .int .i64 p.s, .slice (some ⟨e5, 0, none⟩) p.ws.length p.ws.length, .string p.h, .string p.c, .int .i64 p.t] 39)) m (.slice (some ⟨e1, 0, none⟩) m.ws.length m.ws.length) (.slice (some ⟨e2, 0, none⟩) m.rs.length m.rs.length) (.slice (some ⟨e3, 0, none⟩) m.qs.length m.qs.length) (.slice (some ⟨e4, 0, none⟩) m.gs.length m.gs.length) wa.heap.size) := (X6.out).keep (bl_alloc (Below.refl _ _) _)
    have Y7 : Hid (Lx (w7.alloc (.cells #[.int .i64 p.k, .string p.b, .int .i64 p.s, .slice (some ⟨e5, 0, none⟩) p.ws.length p.ws.length, .string p.h, .string p.c, .int .i64 p.t] 39)) w6.heap.size #[.string m.nm, .bool m.up, .int .i64 m.ck, .bool m.kn, .int .i64 m.se, .slice (some ⟨e1, 0, none⟩) m.ws.length m.ws.length, .slice (some ⟨e2, 0, none⟩) m.rs.length m.rs.length, .slice (some ⟨e3, 0, none⟩) m.qs.length m.qs.length, .slice (some ⟨e4, 0, none⟩) m.gs.length m.gs.length]) := (Y6.out).keep (bl_alloc (Below.refl _ _) _)
    have P7 : Hid (W.Sl (w7.alloc (.cells #[.int .i64 p.k, .string p.b, .int .i64 p.s, .slice (some ⟨e5, 0, none⟩) p.ws.length p.ws.length, .string p.h, .string p.c, .int .i64 p.t] 39)) (.slice (some ⟨e5, 0, none⟩) p.ws.length p.ws.length) p.ws (w6.alloc (.cells #[.string m.nm, .bool m.up, .int .i64 m.ck, .bool m.kn, .int .i64 m.se, .slice (some ⟨e1, 0, none⟩) m.ws.length m.ws.length, .slice (some ⟨e2, 0, none⟩) m.rs.length m.rs.length, .slice (some ⟨e3, 0, none⟩) m.qs.length m.qs.length, .slice (some ⟨e4, 0, none⟩) m.gs.length m.gs.length] 35)).heap.size) := (P6.out).keep (bl_alloc (Below.refl _ _) _)
    clear C6 A6 B6 V6 W6 X6 Y6 P6
    have Q7 : Hid (Lx (w7.alloc (.cells #[.int .i64 p.k, .string p.b, .int .i64 p.s, .slice (some ⟨e5, 0, none⟩) p.ws.length p.ws.length, .string p.h, .string p.c, .int .i64 p.t] 39)) w7.heap.size #[.int .i64 p.k, .string p.b, .int .i64 p.s, .slice (some ⟨e5, 0, none⟩) p.ws.length p.ws.length, .string p.h, .string p.c, .int .i64 p.t]) := Lx.new _ _ _
    have ky := Y7.out.c
    go_wp2_with fail
    refine (implTake m p e1 e2 e3 e4 e5 _ (lists_of X7.out) hf (W.Sl.at_ P7.out).1 (W.Sl.at_ P7.out).2 hp).mono ?_
    rintro e w8 ⟨⟨r', s1, s2, s3, s4, rfl, hr, R⟩, c⟩
    have hrr : r = r' := Takes.one Hr.out hr
    subst hrr
    obtain ⟨g1, q1, hs1⟩ := W.Sl.shape R.a1
    subst hs1
    obtain ⟨g2, q2, hs2⟩ := Sl.shape R.a2
    subst hs2
    obtain ⟨g3, q3, hs3⟩ := A.Sl.shape R.a3
    subst hs3
    obtain ⟨g4, q4, hs4⟩ := A.Sl.shape R.a4
    subst hs4
    clear ky
    have N3 : Hid (w7.heap.size + 1 ≤ w8.heap.size) := by have h := c.size; simp only [World.size_alloc] at h; exact h
    have C8 : Hid (Below w.heap.size w w8) := bl_trans C7.out c
    have A8 : Hid (Lx w8 w.heap.size #[.string m.nm, .bool m.up, .int .i64 m.ck, .bool m.kn, .int .i64 m.se, v1, v2, v3, v4]) := (A7.out).keep c
    have B8 : Hid (Lx w8 (w.heap.size + 1) #[.int .i64 p.k, .string p.b, .int .i64 p.s, v5, .string p.h, .string p.c, .int .i64 p.t]) := (B7.out).keep c
    have V8 : Hid (SlM w8 r (.slice a1 r.ws.length p1) (.slice a2 r.rs.length p2) (.slice a3 r.qs.length p3) (.slice a4 r.gs.length p4) w2.heap.size) := (V7.out).keep c
    have W8 : Hid (Lx w8 c0 #[.string r.nm, .bool r.up, .int .i64 r.ck, .bool r.kn, .int .i64 r.se, .slice a1 r.ws.length p1, .slice a2 r.rs.length p2, .slice a3 r.qs.length p3, .slice a4 r.gs.length p4]) := (W7.out).keep c
    have X8 : Hid (SlM w8 m (.slice (some ⟨e1, 0, none⟩) m.ws.length m.ws.length) (.slice (some ⟨e2, 0, none⟩) m.rs.length m.rs.length) (.slice (some ⟨e3, 0, none⟩) m.qs.length m.qs.length) (.slice (some ⟨e4, 0, none⟩) m.gs.length m.gs.length) wa.heap.size) := (X7.out).keep c
    have Y8 : Hid (Lx w8 w6.heap.size #[.string m.nm, .bool m.up, .int .i64 m.ck, .bool m.kn, .int .i64 m.se, .slice (some ⟨e1, 0, none⟩) m.ws.length m.ws.length, .slice (some ⟨e2, 0, none⟩) m.rs.length m.rs.length, .slice (some ⟨e3, 0, none⟩) m.qs.length m.qs.length, .slice (some ⟨e4, 0, none⟩) m.gs.length m.gs.length]) := (Y7.out).keep c
    have P8 : Hid (W.Sl w8 (.slice (some ⟨e5, 0, none⟩) p.ws.length p.ws.length) p.ws (w6.alloc (.cells #[.string m.nm, .bool m.up, .int .i64 m.ck, .bool m.kn, .int .i64 m.se, .slice (some ⟨e1, 0, none⟩) m.ws.length m.ws.length, .slice (some ⟨e2, 0, none⟩) m.rs.length m.rs.length, .slice (some ⟨e3, 0, none⟩) m.qs.length m.qs.length, .slice (some ⟨e4, 0, none⟩) m.gs.length m.gs.length] 35)).heap.size) := (P7.out).keep c
    have Q8 : Hid (Lx w8 w7.heap.size #[.int .i64 p.k, .string p.b, .int .i64 p.s, .slice (some ⟨e5, 0, none⟩) p.ws.length p.ws.length, .string p.h, .string p.c, .int .i64 p.t]) := (Q7.out).keep c
    clear C7 A7 B7 V7 W7 X7 Y7 P7 Q7
    have G8 : Hid (SlM w8 r (.slice g1 r.ws.length q1) (.slice g2 r.rs.length q2) (.slice g3 r.qs.length q3) (.slice g4 r.gs.length q4) (w7.heap.size + 1)) := by have h := R; simp only [World.size_alloc] at h; exact h
    have G0 : Hid (∀ j, ((Value.slice g1 r.ws.length q1).ownBlock = some j ∨ (Value.slice g2 r.rs.length q2).ownBlock = some j ∨ (Value.slice g3 r.qs.length q3).ownBlock = some j ∨ (Value.slice g4 r.gs.length q4).ownBlock = some j) → w7.heap.size + 1 ≤ j ∧ j < w8.heap.size) := fun j hj => ⟨by have := SlM.ge R j hj; simpa using this, SlM.lt R j hj⟩
    clear c R hr
    have C9 : Hid (Below w.heap.size w (w8.alloc (.cells #[.string r.nm, .bool r.up, .int .i64 r.ck, .bool r.kn, .int .i64 r.se, .slice g1 r.ws.length q1, .slice g2 r.rs.length q2, .slice g3 r.qs.length q3, .slice g4 r.gs.length q4] 35))) := bl_trans C8.out (bl_alloc (Below.refl _ _) _)
    have A9 : Hid (Lx (w8.alloc (.cells #[.string r.nm, .bool r.up, .int .i64 r.ck, .bool r.kn, .int .i64 r.se, .slice g1 r.ws.length q1, .slice g2 r.rs.length q2, .slice g3 r.qs.length q3, .slice g4 r.gs.length q4] 35)) w.heap.size #[.string m.nm, .bool m.up, .int .i64 m.ck, .bool m.kn, .int .i64 m.se, v1, v2, v3, v4]) := (A8.out).keep (bl_alloc (Below.refl _ _) _)
    have B9 : Hid (Lx (w8.alloc (.cells #[.string r.nm, .bool r.up, .int .i64 r.ck, .bool r.kn, .int .i64 r.se, .slice g1 r.ws.length q1, .slice g2 r.rs.length q2, .slice g3 r.qs.length q3, .slice g4 r.gs.length q4] 35)) (w.heap.size + 1) #[.int .i64 p.k, .string p.b, .int .i64 p.s, v5, .string p.h, .string p.c, .int .i64 p.t]) := (B8.out).keep (bl_alloc (Below.refl _ _) _)
    have V9 : Hid (SlM (w8.alloc (.cells #[.string r.nm, .bool r.up, .int .i64 r.ck, .bool r.kn, .int .i64 r.se, .slice g1 r.ws.length q1, .slice g2 r.rs.length q2, .slice g3 r.qs.length q3, .slice g4 r.gs.length q4] 35)) r (.slice a1 r.ws.length p1) (.slice a2 r.rs.length p2) (.slice a3 r.qs.length p3) (.slice a4 r.gs.length p4) w2.heap.size) := (V8.out).keep (bl_alloc (Below.refl _ _) _)
    have W9 : Hid (Lx (w8.alloc (.cells #[.string r.nm, .bool r.up, .int .i64 r.ck, .bool r.kn, .int .i64 r.se, .slice g1 r.ws.length q1, .slice g2 r.rs.length q2, .slice g3 r.qs.length q3, .slice g4 r.gs.length q4] 35)) c0 #[.string r.nm, .bool r.up, .int .i64 r.ck, .bool r.kn, .int .i64 r.se, .slice a1 r.ws.length p1, .slice a2 r.rs.length p2, .slice a3 r.qs.length p3, .slice a4 r.gs.length p4]) := (W8.out).keep (bl_alloc (Below.refl _ _) _)
    have X9 : Hid (SlM (w8.alloc (.cells #[.string r.nm, .bool r.up, .int .i64 r.ck, .bool r.kn, .int .i64 r.se, .slice g1 r.ws.length q1, .slice g2 r.rs.length q2, .slice g3 r.qs.length q3, .slice g4 r.gs.length q4] 35)) m (.slice (some ⟨e1, 0, none⟩) m.ws.length m.ws.length) (.slice (some ⟨e2, 0, none⟩) m.rs.length m.rs.length) (.slice (some ⟨e3, 0, none⟩) m.qs.length m.qs.length) (.slice (some ⟨e4, 0, none⟩) m.gs.length m.gs.length) wa.heap.size) := (X8.out).keep (bl_alloc (Below.refl _ _) _)
    have Y9 : Hid (Lx (w8.alloc (.cells #[.string r.nm, .bool r.up, .int .i64 r.ck, .bool r.kn, .int .i64 r.se, .slice g1 r.ws.length q1, .slice g2 r.rs.length q2, .slice g3 r.qs.length q3, .slice g4 r.gs.length q4] 35)) w6.heap.size #[.string m.nm, .bool m.up, .int .i64 m.ck, .bool m.kn, .int .i64 m.se, .slice (some ⟨e1, 0, none⟩) m.ws.length m.ws.length, .slice (some ⟨e2, 0, none⟩) m.rs.length m.rs.length, .slice (some ⟨e3, 0, none⟩) m.qs.length m.qs.length, .slice (some ⟨e4, 0, none⟩) m.gs.length m.gs.length]) := (Y8.out).keep (bl_alloc (Below.refl _ _) _)
    have P9 : Hid (W.Sl (w8.alloc (.cells #[.string r.nm, .bool r.up, .int .i64 r.ck, .bool r.kn, .int .i64 r.se, .slice g1 r.ws.length q1, .slice g2 r.rs.length q2, .slice g3 r.qs.length q3, .slice g4 r.gs.length q4] 35)) (.slice (some ⟨e5, 0, none⟩) p.ws.length p.ws.length) p.ws (w6.alloc (.cells #[.string m.nm, .bool m.up, .int .i64 m.ck, .bool m.kn, .int .i64 m.se, .slice (some ⟨e1, 0, none⟩) m.ws.length m.ws.length, .slice (some ⟨e2, 0, none⟩) m.rs.length m.rs.length, .slice (some ⟨e3, 0, none⟩) m.qs.length m.qs.length, .slice (some ⟨e4, 0, none⟩) m.gs.length m.gs.length] 35)).heap.size) := (P8.out).keep (bl_alloc (Below.refl _ _) _)
    have Q9 : Hid (Lx (w8.alloc (.cells #[.string r.nm, .bool r.up, .int .i64 r.ck, .bool r.kn, .int .i64 r.se, .slice g1 r.ws.length q1, .slice g2 r.rs.length q2, .slice g3 r.qs.length q3, .slice g4 r.gs.length q4] 35)) w7.heap.size #[.int .i64 p.k, .string p.b, .int .i64 p.s, .slice (some ⟨e5, 0, none⟩) p.ws.length p.ws.length, .string p.h, .string p.c, .int .i64 p.t]) := (Q8.out).keep (bl_alloc (Below.refl _ _) _)
    have G9 : Hid (SlM (w8.alloc (.cells #[.string r.nm, .bool r.up, .int .i64 r.ck, .bool r.kn, .int .i64 r.se, .slice g1 r.ws.length q1, .slice g2 r.rs.length q2, .slice g3 r.qs.length q3, .slice g4 r.gs.length q4] 35)) r (.slice g1 r.ws.length q1) (.slice g2 r.rs.length q2) (.slice g3 r.qs.length q3) (.slice g4 r.gs.length q4) (w7.heap.size + 1)) := (G8.out).keep (bl_alloc (Below.refl _ _) _)
    clear C8 A8 B8 V8 W8 X8 Y8 P8 Q8 G8
    have Z9 : Hid (Lx (w8.alloc (.cells #[.string r.nm, .bool r.up, .int .i64 r.ck, .bool r.kn, .int .i64 r.se, .slice g1 r.ws.length q1, .slice g2 r.rs.length q2, .slice g3 r.qs.length q3, .slice g4 r.gs.length q4] 35)) w8.heap.size #[.string r.nm, .bool r.up, .int .i64 r.ck, .bool r.kn, .int .i64 r.se, .slice g1 r.ws.length q1, .slice g2 r.rs.length q2, .slice g3 r.qs.length q3, .slice g4 r.gs.length q4]) := Lx.new _ _ _
    have N : Hid ((w.heap.size + 1 < wa.heap.size ∧ c0 < wa.heap.size) ∧ wa.heap.size ≤ w6.heap.size ∧ w6.heap.size + 1 ≤ w7.heap.size ∧ w7.heap.size + 1 ≤ w8.heap.size) := ⟨N0.out, N1.out, N2.out, N3.out⟩
    clear N0 N1 N2 N3
    have kw := W9.out.c
    have kz := Z9.out.c
    go_wp2_with fail
    refine (eqMate_sl r _ _ _ _ _ _ _ _ _ _ _ G9.out V9.out Lr.out).mono ?_
    rintro e w9 ⟨rfl, c⟩
    clear kw kz
    have C10 : Hid (Below w.heap.size w w9) := bl_trans C9.out c
    have A10 : Hid (Lx w9 w.heap.size #[.string m.nm, .bool m.up, .int .i64 m.ck, .bool m.kn, .int .i64 m.se, v1, v2, v3, v4]) := (A9.out).keep c
    have B10 : Hid (Lx w9 (w.heap.size + 1) #[.int .i64 p.k, .string p.b, .int .i64 p.s, v5, .string p.h, .string p.c, .int .i64 p.t]) := (B9.out).keep c
    have V10 : Hid (SlM w9 r (.slice a1 r.ws.length p1) (.slice a2 r.rs.length p2) (.slice a3 r.qs.length p3) (.slice a4 r.gs.length p4) w2.heap.size) := (V9.out).keep c
    have W10 : Hid (Lx w9 c0 #[.string r.nm, .bool r.up, .int .i64 r.ck, .bool r.kn, .int .i64 r.se, .slice a1 r.ws.length p1, .slice a2 r.rs.length p2, .slice a3 r.qs.length p3, .slice a4 r.gs.length p4]) := (W9.out).keep c
    have X10 : Hid (SlM w9 m (.slice (some ⟨e1, 0, none⟩) m.ws.length m.ws.length) (.slice (some ⟨e2, 0, none⟩) m.rs.length m.rs.length) (.slice (some ⟨e3, 0, none⟩) m.qs.length m.qs.length) (.slice (some ⟨e4, 0, none⟩) m.gs.length m.gs.length) wa.heap.size) := (X9.out).keep c
    have Y10 : Hid (Lx w9 w6.heap.size #[.string m.nm, .bool m.up, .int .i64 m.ck, .bool m.kn, .int .i64 m.se, .slice (some ⟨e1, 0, none⟩) m.ws.length m.ws.length, .slice (some ⟨e2, 0, none⟩) m.rs.length m.rs.length, .slice (some ⟨e3, 0, none⟩) m.qs.length m.qs.length, .slice (some ⟨e4, 0, none⟩) m.gs.length m.gs.length]) := (Y9.out).keep c
    have P10 : Hid (W.Sl w9 (.slice (some ⟨e5, 0, none⟩) p.ws.length p.ws.length) p.ws (w6.alloc (.cells #[.string m.nm, .bool m.up, .int .i64 m.ck, .bool m.kn, .int .i64 m.se, .slice (some ⟨e1, 0, none⟩) m.ws.length m.ws.length, .slice (some ⟨e2, 0, none⟩) m.rs.length m.rs.length, .slice (some ⟨e3, 0, none⟩) m.qs.length m.qs.length, .slice (some ⟨e4, 0, none⟩) m.gs.length m.gs.length] 35)).heap.size) := (P9.out).keep c
    have Q10 : Hid (Lx w9 w7.heap.size #[.int .i64 p.k, .string p.b, .int .i64 p.s, .slice (some ⟨e5, 0, none⟩) p.ws.length p.ws.length, .string p.h, .string p.c, .int .i64 p.t]) := (Q9.out).keep c
    have G10 : Hid (SlM w9 r (.slice g1 r.ws.length q1) (.slice g2 r.rs.length q2) (.slice g3 r.qs.length q3) (.slice g4 r.gs.length q4) (w7.heap.size + 1)) := (G9.out).keep c
    have Z10 : Hid (Lx w9 w8.heap.size #[.string r.nm, .bool r.up, .int .i64 r.ck, .bool r.kn, .int .i64 r.se, .slice g1 r.ws.length q1, .slice g2 r.rs.length q2, .slice g3 r.qs.length q3, .slice g4 r.gs.length q4]) := (Z9.out).keep c
    clear C9 A9 B9 V9 W9 X9 Y9 P9 Q9 G9 Z9
    clear c
    go_wp2_with fail
    refine wp_region_noPanic ?_
    refine wp_region_held_drew (S := (fun y => Below w9.heap.size w9 y ∧ (y.cell? ⟨w.heap.size, 0, none⟩ = some (.string m.nm) ∧ y.cell? ⟨w.heap.size, 1, none⟩ = some (.bool m.up) ∧ y.cell? ⟨w.heap.size, 2, none⟩ = some (.int .i64 m.ck) ∧ y.cell? ⟨w.heap.size, 3, none⟩ = some (.bool m.kn) ∧ y.cell? ⟨w.heap.size, 4, none⟩ = some (.int .i64 m.se) ∧ y.cell? ⟨w.heap.size, 5, none⟩ = some (v1) ∧ y.cell? ⟨w.heap.size, 6, none⟩ = some (v2) ∧ y.cell? ⟨w.heap.size, 7, none⟩ = some (v3) ∧ y.cell? ⟨w.heap.size, 8, none⟩ = some (v4) ∧ y.cell? ⟨w6.heap.size, 0, none⟩ = some (.string m.nm) ∧ y.cell? ⟨w6.heap.size, 1, none⟩ = some (.bool m.up) ∧ y.cell? ⟨w6.heap.size, 2, none⟩ = some (.int .i64 m.ck) ∧ y.cell? ⟨w6.heap.size, 3, none⟩ = some (.bool m.kn) ∧ y.cell? ⟨w6.heap.size, 4, none⟩ = some (.int .i64 m.se) ∧ y.cell? ⟨w6.heap.size, 5, none⟩ = some (.slice (some ⟨e1, 0, none⟩) m.ws.length m.ws.length) ∧ y.cell? ⟨w6.heap.size, 6, none⟩ = some (.slice (some ⟨e2, 0, none⟩) m.rs.length m.rs.length) ∧ y.cell? ⟨w6.heap.size, 7, none⟩ = some (.slice (some ⟨e3, 0, none⟩) m.qs.length m.qs.length) ∧ y.cell? ⟨w6.heap.size, 8, none⟩ = some (.slice (some ⟨e4, 0, none⟩) m.gs.length m.gs.length)))) (by kernel_rfl) (kAY A10.out Y10.out (bl_drew (Below.refl _ _))) (fun hHeld => ?_)
    refine wpAnyH_take (i := 0) (v := ?vx3) rfl (by kernel_rfl) (by kernel_rfl) (by kernel_rfl) (fun _ _ _ h => h) (Or.inl ⟨by rfl, ?hx3⟩) (by assumption) ?rx3
    case hx3 => (intro w hSw; (try dsimp only at hSw); go_simp; try (with_reducible rfl))
    try simp only [Act.put, List.setIfInBounds_toArray, List.set_cons_zero, List.set_cons_succ, List.getElem_toArray, List.getElem_cons_zero]
    refine wpAnyH_take (i := 1) (v := ?vx4) rfl (by kernel_rfl) (by kernel_rfl) (by kernel_rfl) (fun _ _ _ h => h) (Or.inl ⟨by rfl, ?hx4⟩) (by assumption) ?rx4
    case hx4 => (intro w hSw; (try dsimp only at hSw); go_simp; try (with_reducible rfl))
    try simp only [Act.put, List.setIfInBounds_toArray, List.set_cons_zero, List.set_cons_succ, List.getElem_toArray, List.getElem_cons_zero, List.getElem_cons_succ]
    refine wpAnyH_ready (rs := [2]) (by kernel_rfl) (by simp) ?_
    refine AllReadyH.cons rfl (fun K hK => ?_) AllReadyH.nil
    go_simp
    refine (toMate_sl m v1 v2 v3 v4 _ (i1.keep (bl_trans C10.out (bl_drew (Below.refl _ _)))) (i2.keep (bl_trans C10.out (bl_drew (Below.refl _ _)))) (i3.keep (bl_trans C10.out (bl_drew (Below.refl _ _)))) (i4.keep (bl_trans C10.out (bl_drew (Below.refl _ _)))) l1 l2 l3 l4).mono ?_
    rintro e z1 ⟨f1, f2, f3, f4, rfl, hL7, d1⟩
    go_wp2_with fail
    refine hK.out _ _ (kAY A10.out Y10.out (bl_trans (bl_drew (Below.refl _ _)) d1)) (fun hHeld1 => ?_)
    clear hK K hHeld
    try simp only [Act.put, List.setIfInBounds_toArray, List.set_cons_zero, List.set_cons_succ, List.getElem_toArray, List.getElem_cons_zero, List.getElem_cons_succ]
    refine wpAnyH_ready (rs := [3]) (by kernel_rfl) (by simp) ?_
    refine AllReadyH.cons rfl (fun K hK => ?_) AllReadyH.nil
    go_simp
    refine (eqMate_sl m _ _ _ _ _ _ _ _ _ _ _ (X10.out.keep (bl_trans (bl_drew (Below.refl _ _)) d1)) hL7 Hl.out).mono ?_
    rintro e w10 ⟨rfl, d2⟩
    go_wp2_with fail
    refine hK.out _ _ (kAY A10.out Y10.out (bl_trans (bl_trans (bl_drew (Below.refl _ _)) d1) d2)) (fun hHeld2 => ?_)
    clear hK K hHeld1
    try simp only [Act.put, List.setIfInBounds_toArray, List.set_cons_zero, List.set_cons_succ, List.getElem_toArray, List.getElem_cons_zero, List.getElem_cons_succ]
    refine wpAnyH_take (i := 4) (v := ?vx5) rfl (by kernel_rfl) (by kernel_rfl) (by kernel_rfl) (fun _ _ _ h => h) (Or.inl ⟨by rfl, ?hx5⟩) (by assumption) ?rx5
    case hx5 => (intro w hSw; (try dsimp only at hSw); go_simp; try (with_reducible rfl))
    try simp only [Act.put, List.setIfInBounds_toArray, List.set_cons_zero, List.set_cons_succ, List.getElem_toArray, List.getElem_cons_zero, List.getElem_cons_succ]
    refine wpAnyH_done (by kernel_rfl) ?_ _
    refine NoPanic.normal ?_
    have cc := bl_trans (bl_trans (bl_drew (Below.refl _ w9)) d1) d2
    clear d1 d2 hL7 hHeld2
    have C11 : Hid (Below w.heap.size w w10) := bl_trans C10.out cc
    have A11 : Hid (Lx w10 w.heap.size #[.string m.nm, .bool m.up, .int .i64 m.ck, .bool m.kn, .int .i64 m.se, v1, v2, v3, v4]) := (A10.out).keep cc
    have B11 : Hid (Lx w10 (w.heap.size + 1) #[.int .i64 p.k, .string p.b, .int .i64 p.s, v5, .string p.h, .string p.c, .int .i64 p.t]) := (B10.out).keep cc
    have V11 : Hid (SlM w10 r (.slice a1 r.ws.length p1) (.slice a2 r.rs.length p2) (.slice a3 r.qs.length p3) (.slice a4 r.gs.length p4) w2.heap.size) := (V10.out).keep cc
    have W11 : Hid (Lx w10 c0 #[.string r.nm, .bool r.up, .int .i64 r.ck, .bool r.kn, .int .i64 r.se, .slice a1 r.ws.length p1, .slice a2 r.rs.length p2, .slice a3 r.qs.length p3, .slice a4 r.gs.length p4]) := (W10.out).keep cc
    have X11 : Hid (SlM w10 m (.slice (some ⟨e1, 0, none⟩) m.ws.length m.ws.length) (.slice (some ⟨e2, 0, none⟩) m.rs.length m.rs.length) (.slice (some ⟨e3, 0, none⟩) m.qs.length m.qs.length) (.slice (some ⟨e4, 0, none⟩) m.gs.length m.gs.length) wa.heap.size) := (X10.out).keep cc
    have Y11 : Hid (Lx w10 w6.heap.size #[.string m.nm, .bool m.up, .int .i64 m.ck, .bool m.kn, .int .i64 m.se, .slice (some ⟨e1, 0, none⟩) m.ws.length m.ws.length, .slice (some ⟨e2, 0, none⟩) m.rs.length m.rs.length, .slice (some ⟨e3, 0, none⟩) m.qs.length m.qs.length, .slice (some ⟨e4, 0, none⟩) m.gs.length m.gs.length]) := (Y10.out).keep cc
    have P11 : Hid (W.Sl w10 (.slice (some ⟨e5, 0, none⟩) p.ws.length p.ws.length) p.ws (w6.alloc (.cells #[.string m.nm, .bool m.up, .int .i64 m.ck, .bool m.kn, .int .i64 m.se, .slice (some ⟨e1, 0, none⟩) m.ws.length m.ws.length, .slice (some ⟨e2, 0, none⟩) m.rs.length m.rs.length, .slice (some ⟨e3, 0, none⟩) m.qs.length m.qs.length, .slice (some ⟨e4, 0, none⟩) m.gs.length m.gs.length] 35)).heap.size) := (P10.out).keep cc
    have Q11 : Hid (Lx w10 w7.heap.size #[.int .i64 p.k, .string p.b, .int .i64 p.s, .slice (some ⟨e5, 0, none⟩) p.ws.length p.ws.length, .string p.h, .string p.c, .int .i64 p.t]) := (Q10.out).keep cc
    have G11 : Hid (SlM w10 r (.slice g1 r.ws.length q1) (.slice g2 r.rs.length q2) (.slice g3 r.qs.length q3) (.slice g4 r.gs.length q4) (w7.heap.size + 1)) := (G10.out).keep cc
    have Z11 : Hid (Lx w10 w8.heap.size #[.string r.nm, .bool r.up, .int .i64 r.ck, .bool r.kn, .int .i64 r.se, .slice g1 r.ws.length q1, .slice g2 r.rs.length q2, .slice g3 r.qs.length q3, .slice g4 r.gs.length q4]) := (Z10.out).keep cc
    clear C10 A10 B10 V10 W10 X10 Y10 P10 Q10 G10 Z10
    clear cc
    go_wp2_with fail
    refine wp_region_noPanic ?_
    refine wp_region_held_drew (S := (fun y => Below w10.heap.size w10 y ∧ (y.cell? ⟨w.heap.size + 1, 0, none⟩ = some (.int .i64 p.k) ∧ y.cell? ⟨w.heap.size + 1, 1, none⟩ = some (.string p.b) ∧ y.cell? ⟨w.heap.size + 1, 2, none⟩ = some (.int .i64 p.s) ∧ y.cell? ⟨w.heap.size + 1, 3, none⟩ = some (v5) ∧ y.cell? ⟨w.heap.size + 1, 4, none⟩ = some (.string p.h) ∧ y.cell? ⟨w.heap.size + 1, 5, none⟩ = some (.string p.c) ∧ y.cell? ⟨w.heap.size + 1, 6, none⟩ = some (.int .i64 p.t) ∧ y.cell? ⟨w7.heap.size, 0, none⟩ = some (.int .i64 p.k) ∧ y.cell? ⟨w7.heap.size, 1, none⟩ = some (.string p.b) ∧ y.cell? ⟨w7.heap.size, 2, none⟩ = some (.int .i64 p.s) ∧ y.cell? ⟨w7.heap.size, 3, none⟩ = some (.slice (some ⟨e5, 0, none⟩) p.ws.length p.ws.length) ∧ y.cell? ⟨w7.heap.size, 4, none⟩ = some (.string p.h) ∧ y.cell? ⟨w7.heap.size, 5, none⟩ = some (.string p.c) ∧ y.cell? ⟨w7.heap.size, 6, none⟩ = some (.int .i64 p.t)))) (by kernel_rfl) (kBQ B11.out Q11.out (bl_drew (Below.refl _ _))) (fun hHeld => ?_)
    refine wpAnyH_take (i := 0) (v := ?vx6) rfl (by kernel_rfl) (by kernel_rfl) (by kernel_rfl) (fun _ _ _ h => h) (Or.inl ⟨by rfl, ?hx6⟩) (by assumption) ?rx6
    case hx6 => (intro w hSw; (try dsimp only at hSw); go_simp; try (with_reducible rfl))
    try simp only [Act.put, List.setIfInBounds_toArray, List.set_cons_zero, List.set_cons_succ, List.getElem_toArray, List.getElem_cons_zero]
    refine wpAnyH_take (i := 1) (v := ?vx7) rfl (by kernel_rfl) (by kernel_rfl) (by kernel_rfl) (fun _ _ _ h => h) (Or.inl ⟨by rfl, ?hx7⟩) (by assumption) ?rx7
    case hx7 => (intro w hSw; (try dsimp only at hSw); go_simp; try (with_reducible rfl))
    try simp only [Act.put, List.setIfInBounds_toArray, List.set_cons_zero, List.set_cons_succ, List.getElem_toArray, List.getElem_cons_zero, List.getElem_cons_succ]
    refine wpAnyH_ready (rs := [2]) (by kernel_rfl) (by simp) ?_
    refine AllReadyH.cons rfl (fun K hK => ?_) AllReadyH.nil
    go_simp
    refine (toParcel_sl p v5 _ (i5.keep (bl_trans C11.out (bl_drew (Below.refl _ _)))) l5).mono ?_
    rintro e z2 ⟨f5, rfl, hP, d1⟩
    go_wp2_with fail
    refine hK.out _ _ (kBQ B11.out Q11.out (bl_trans (bl_drew (Below.refl _ _)) d1)) (fun hHeld1 => ?_)
    clear hK K hHeld
    try simp only [Act.put, List.setIfInBounds_toArray, List.set_cons_zero, List.set_cons_succ, List.getElem_toArray, List.getElem_cons_zero, List.getElem_cons_succ]
    refine wpAnyH_ready (rs := [3]) (by kernel_rfl) (by simp) ?_
    refine AllReadyH.cons rfl (fun K hK => ?_) AllReadyH.nil
    go_simp
    refine (eqParcel_sl p _ _ _ _ _ (P11.out.keep (bl_trans (bl_drew (Below.refl _ _)) d1)) hP l5).mono ?_
    rintro e w11 ⟨rfl, d2⟩
    go_wp2_with fail
    refine hK.out _ _ (kBQ B11.out Q11.out (bl_trans (bl_trans (bl_drew (Below.refl _ _)) d1) d2)) (fun hHeld2 => ?_)
    clear hK K hHeld1
    try simp only [Act.put, List.setIfInBounds_toArray, List.set_cons_zero, List.set_cons_succ, List.getElem_toArray, List.getElem_cons_zero, List.getElem_cons_succ]
    refine wpAnyH_take (i := 4) (v := ?vx8) rfl (by kernel_rfl) (by kernel_rfl) (by kernel_rfl) (fun _ _ _ h => h) (Or.inl ⟨by rfl, ?hx8⟩) (by assumption) ?rx8
    case hx8 => (intro w hSw; (try dsimp only at hSw); go_simp; try (with_reducible rfl))
    try simp only [Act.put, List.setIfInBounds_toArray, List.set_cons_zero, List.set_cons_succ, List.getElem_toArray, List.getElem_cons_zero, List.getElem_cons_succ]
    refine wpAnyH_done (by kernel_rfl) ?_ _
    refine NoPanic.normal ?_
    have cc := bl_trans (bl_trans (bl_drew (Below.refl _ w10)) d1) d2
    clear d1 d2 hP hHeld2
    have C12 : Hid (Below w.heap.size w w11) := bl_trans C11.out cc
    have A12 : Hid (Lx w11 w.heap.size #[.string m.nm, .bool m.up, .int .i64 m.ck, .bool m.kn, .int .i64 m.se, v1, v2, v3, v4]) := (A11.out).keep cc
    have B12 : Hid (Lx w11 (w.heap.size + 1) #[.int .i64 p.k, .string p.b, .int .i64 p.s, v5, .string p.h, .string p.c, .int .i64 p.t]) := (B11.out).keep cc
    have V12 : Hid (SlM w11 r (.slice a1 r.ws.length p1) (.slice a2 r.rs.length p2) (.slice a3 r.qs.length p3) (.slice a4 r.gs.length p4) w2.heap.size) := (V11.out).keep cc
    have W12 : Hid (Lx w11 c0 #[.string r.nm, .bool r.up, .int .i64 r.ck, .bool r.kn, .int .i64 r.se, .slice a1 r.ws.length p1, .slice a2 r.rs.length p2, .slice a3 r.qs.length p3, .slice a4 r.gs.length p4]) := (W11.out).keep cc
    have X12 : Hid (SlM w11 m (.slice (some ⟨e1, 0, none⟩) m.ws.length m.ws.length) (.slice (some ⟨e2, 0, none⟩) m.rs.length m.rs.length) (.slice (some ⟨e3, 0, none⟩) m.qs.length m.qs.length) (.slice (some ⟨e4, 0, none⟩) m.gs.length m.gs.length) wa.heap.size) := (X11.out).keep cc
    have Y12 : Hid (Lx w11 w6.heap.size #[.string m.nm, .bool m.up, .int .i64 m.ck, .bool m.kn, .int .i64 m.se, .slice (some ⟨e1, 0, none⟩) m.ws.length m.ws.length, .slice (some ⟨e2, 0, none⟩) m.rs.length m.rs.length, .slice (some ⟨e3, 0, none⟩) m.qs.length m.qs.length, .slice (some ⟨e4, 0, none⟩) m.gs.length m.gs.length]) := (Y11.out).keep cc
    have P12 : Hid (W.Sl w11 (.slice (some ⟨e5, 0, none⟩) p.ws.length p.ws.length) p.ws (w6.alloc (.cells #[.string m.nm, .bool m.up, .int .i64 m.ck, .bool m.kn, .int .i64 m.se, .slice (some ⟨e1, 0, none⟩) m.ws.length m.ws.length, .slice (some ⟨e2, 0, none⟩) m.rs.length m.rs.length, .slice (some ⟨e3, 0, none⟩) m.qs.length m.qs.length, .slice (some ⟨e4, 0, none⟩) m.gs.length m.gs.length] 35)).heap.size) := (P11.out).keep cc
    have Q12 : Hid (Lx w11 w7.heap.size #[.int .i64 p.k, .string p.b, .int .i64 p.s, .slice (some ⟨e5, 0, none⟩) p.ws.length p.ws.length, .string p.h, .string p.c, .int .i64 p.t]) := (Q11.out).keep cc
    have G12 : Hid (SlM w11 r (.slice g1 r.ws.length q1) (.slice g2 r.rs.length q2) (.slice g3 r.qs.length q3) (.slice g4 r.gs.length q4) (w7.heap.size + 1)) := (G11.out).keep cc
    have Z12 : Hid (Lx w11 w8.heap.size #[.string r.nm, .bool r.up, .int .i64 r.ck, .bool r.kn, .int .i64 r.se, .slice g1 r.ws.length q1, .slice g2 r.rs.length q2, .slice g3 r.qs.length q3, .slice g4 r.gs.length q4]) := (Z11.out).keep cc
    clear C11 A11 B11 V11 W11 X11 Y11 P11 Q11 G11 Z11
    clear cc
    have ky := Y12.out.c
    go_wp2_with fail
    refine (markMate_sl m _ _ _ _ _ 1 _ X12.out Hl.out (by omega) (by omega)).mono ?_
    rintro e w12 ⟨he, -, o⟩
    obtain ⟨kk, hkk⟩ : ∃ kk : Int, kk = 1 + 7 * (m.ws.length : Int) + 11 * (m.rs.length : Int) + 4 * (m.qs.length : Int) + 4 * (m.gs.length : Int) := ⟨_, rfl⟩
    rw [← hkk] at he
    subst he
    have kn : 0 ≤ kk := by omega
    have kn2 : kk ≤ 1000000000 := by omega
    clear hkk
    clear ky
    clear X12
    clear Y12
    have C13 : Hid (Below w.heap.size w w12) := bl_off C12.out o (fun j hp => by have h0 := N.out; have h1 := X0.out _ hp; omega)
    have A13 : Hid (Lx w12 w.heap.size #[.string m.nm, .bool m.up, .int .i64 m.ck, .bool m.kn, .int .i64 m.se, v1, v2, v3, v4]) := (A12.out).off o (fun hp => by have h0 := N.out; have h1 := X0.out _ hp; omega)
    have B13 : Hid (Lx w12 (w.heap.size + 1) #[.int .i64 p.k, .string p.b, .int .i64 p.s, v5, .string p.h, .string p.c, .int .i64 p.t]) := (B12.out).off o (fun hp => by have h0 := N.out; have h1 := X0.out _ hp; omega)
    have V13 : Hid (SlM w12 r (.slice a1 r.ws.length p1) (.slice a2 r.rs.length p2) (.slice a3 r.qs.length p3) (.slice a4 r.gs.length p4) w2.heap.size) := (V12.out).off o (fun j hj hp => by have h0 := N.out; have h1 := X0.out j hp; have h2 := V0.out j hj; omega)
    have W13 : Hid (Lx w12 c0 #[.string r.nm, .bool r.up, .int .i64 r.ck, .bool r.kn, .int .i64 r.se, .slice a1 r.ws.length p1, .slice a2 r.rs.length p2, .slice a3 r.qs.length p3, .slice a4 r.gs.length p4]) := (W12.out).off o (fun hp => by have h0 := N.out; have h1 := X0.out _ hp; omega)
    have P13 : Hid (W.Sl w12 (.slice (some ⟨e5, 0, none⟩) p.ws.length p.ws.length) p.ws (w6.alloc (.cells #[.string m.nm, .bool m.up, .int .i64 m.ck, .bool m.kn, .int .i64 m.se, .slice (some ⟨e1, 0, none⟩) m.ws.length m.ws.length, .slice (some ⟨e2, 0, none⟩) m.rs.length m.rs.length, .slice (some ⟨e3, 0, none⟩) m.qs.length m.qs.length, .slice (some ⟨e4, 0, none⟩) m.gs.length m.gs.length] 35)).heap.size) := W.Sl.off (P12.out) o (fun j hj hp => by have h0 := N.out; have h1 := X0.out j hp; have h2 := P0.out j hj; omega)
    have Q13 : Hid (Lx w12 w7.heap.size #[.int .i64 p.k, .string p.b, .int .i64 p.s, .slice (some ⟨e5, 0, none⟩) p.ws.length p.ws.length, .string p.h, .string p.c, .int .i64 p.t]) := (Q12.out).off o (fun hp => by have h0 := N.out; have h1 := X0.out _ hp; omega)
    have G13 : Hid (SlM w12 r (.slice g1 r.ws.length q1) (.slice g2 r.rs.length q2) (.slice g3 r.qs.length q3) (.slice g4 r.gs.length q4) (w7.heap.size + 1)) := (G12.out).off o (fun j hj hp => by have h0 := N.out; have h1 := X0.out j hp; have h2 := G0.out j hj; omega)
    have Z13 : Hid (Lx w12 w8.heap.size #[.string r.nm, .bool r.up, .int .i64 r.ck, .bool r.kn, .int .i64 r.se, .slice g1 r.ws.length q1, .slice g2 r.rs.length q2, .slice g3 r.qs.length q3, .slice g4 r.gs.length q4]) := (Z12.out).off o (fun hp => by have h0 := N.out; have h1 := X0.out _ hp; omega)
    clear C12 A12 B12 V12 W12 P12 Q12 G12 Z12
    clear o
    have kq := Q13.out.c
    go_wp2_with fail
    refine (markParcel_sl p _ _ kk _ P13.out l5 kn kn2).mono ?_
    rintro e w13 ⟨he, o⟩
    obtain ⟨kk', hkk⟩ : ∃ kk' : Int, kk' = kk + 7 * (p.ws.length : Int) := ⟨_, rfl⟩
    rw [← hkk] at he
    subst he
    have kn3 : 0 ≤ kk' := by omega
    clear hkk kn kn2
    clear kq
    clear P13
    clear Q13
    have C14 : Hid (Below w.heap.size w w13) := bl_off C13.out o (fun j hp => by have h0 := N.out; have h1 := P0.out _ hp; omega)
    have A14 : Hid (Lx w13 w.heap.size #[.string m.nm, .bool m.up, .int .i64 m.ck, .bool m.kn, .int .i64 m.se, v1, v2, v3, v4]) := (A13.out).off o (fun hp => by have h0 := N.out; have h1 := P0.out _ hp; omega)
    have B14 : Hid (Lx w13 (w.heap.size + 1) #[.int .i64 p.k, .string p.b, .int .i64 p.s, v5, .string p.h, .string p.c, .int .i64 p.t]) := (B13.out).off o (fun hp => by have h0 := N.out; have h1 := P0.out _ hp; omega)
    have V14 : Hid (SlM w13 r (.slice a1 r.ws.length p1) (.slice a2 r.rs.length p2) (.slice a3 r.qs.length p3) (.slice a4 r.gs.length p4) w2.heap.size) := (V13.out).off o (fun j hj hp => by have h0 := N.out; have h1 := P0.out j hp; have h2 := V0.out j hj; omega)
    have W14 : Hid (Lx w13 c0 #[.string r.nm, .bool r.up, .int .i64 r.ck, .bool r.kn, .int .i64 r.se, .slice a1 r.ws.length p1, .slice a2 r.rs.length p2, .slice a3 r.qs.length p3, .slice a4 r.gs.length p4]) := (W13.out).off o (fun hp => by have h0 := N.out; have h1 := P0.out _ hp; omega)
    have G14 : Hid (SlM w13 r (.slice g1 r.ws.length q1) (.slice g2 r.rs.length q2) (.slice g3 r.qs.length q3) (.slice g4 r.gs.length q4) (w7.heap.size + 1)) := (G13.out).off o (fun j hj hp => by have h0 := N.out; have h1 := P0.out j hp; have h2 := G0.out j hj; omega)
    have Z14 : Hid (Lx w13 w8.heap.size #[.string r.nm, .bool r.up, .int .i64 r.ck, .bool r.kn, .int .i64 r.se, .slice g1 r.ws.length q1, .slice g2 r.rs.length q2, .slice g3 r.qs.length q3, .slice g4 r.gs.length q4]) := (Z13.out).off o (fun hp => by have h0 := N.out; have h1 := P0.out _ hp; omega)
    clear C13 A13 B13 V13 W13 G13 Z13
    clear o
    have kw := W14.out.c
    have kz := Z14.out.c
    go_wp2_with fail
    refine (eqMate_sl r _ _ _ _ _ _ _ _ _ _ _ G14.out V14.out Lr.out).mono ?_
    rintro e w14 ⟨rfl, c⟩
    clear kw kz
    have C15 : Hid (Below w.heap.size w w14) := bl_trans C14.out c
    have A15 : Hid (Lx w14 w.heap.size #[.string m.nm, .bool m.up, .int .i64 m.ck, .bool m.kn, .int .i64 m.se, v1, v2, v3, v4]) := (A14.out).keep c
    have B15 : Hid (Lx w14 (w.heap.size + 1) #[.int .i64 p.k, .string p.b, .int .i64 p.s, v5, .string p.h, .string p.c, .int .i64 p.t]) := (B14.out).keep c
    have V15 : Hid (SlM w14 r (.slice a1 r.ws.length p1) (.slice a2 r.rs.length p2) (.slice a3 r.qs.length p3) (.slice a4 r.gs.length p4) w2.heap.size) := (V14.out).keep c
    have W15 : Hid (Lx w14 c0 #[.string r.nm, .bool r.up, .int .i64 r.ck, .bool r.kn, .int .i64 r.se, .slice a1 r.ws.length p1, .slice a2 r.rs.length p2, .slice a3 r.qs.length p3, .slice a4 r.gs.length p4]) := (W14.out).keep c
    have G15 : Hid (SlM w14 r (.slice g1 r.ws.length q1) (.slice g2 r.rs.length q2) (.slice g3 r.qs.length q3) (.slice g4 r.gs.length q4) (w7.heap.size + 1)) := (G14.out).keep c
    have Z15 : Hid (Lx w14 w8.heap.size #[.string r.nm, .bool r.up, .int .i64 r.ck, .bool r.kn, .int .i64 r.se, .slice g1 r.ws.length q1, .slice g2 r.rs.length q2, .slice g3 r.qs.length q3, .slice g4 r.gs.length q4]) := (Z14.out).keep c
    clear C14 A14 B14 V14 W14 G14 Z14
    clear c
    have kz := Z15.out.c
    go_wp2_with fail
    obtain ⟨mm, hmm⟩ : ∃ mm : Int, mm = 1 + 7 * (r.ws.length : Int) + 11 * (r.rs.length : Int) + 4 * (r.qs.length : Int) + 4 * (r.gs.length : Int) := ⟨_, rfl⟩
    have mn : 0 ≤ mm := by omega
    have Hm : Hid (mm = 1 + 7 * (r.ws.length : Int) + 11 * (r.rs.length : Int) + 4 * (r.qs.length : Int) + 4 * (r.gs.length : Int)) := hmm
    clear hmm
    refine (markMate_sl r _ _ _ _ _ 1 _ G15.out Lr.out (by omega) (by omega)).mono ?_
    rintro e w15 ⟨he, M, o⟩
    rw [← Hm.out] at he
    subst he
    clear kz
    clear G15
    have C16 : Hid (Below w.heap.size w w15) := bl_off C15.out o (fun j hp => by have h0 := N.out; have h1 := G0.out _ hp; omega)
    have A16 : Hid (Lx w15 w.heap.size #[.string m.nm, .bool m.up, .int .i64 m.ck, .bool m.kn, .int .i64 m.se, v1, v2, v3, v4]) := (A15.out).off o (fun hp => by have h0 := N.out; have h1 := G0.out _ hp; omega)
    have B16 : Hid (Lx w15 (w.heap.size + 1) #[.int .i64 p.k, .string p.b, .int .i64 p.s, v5, .string p.h, .string p.c, .int .i64 p.t]) := (B15.out).off o (fun hp => by have h0 := N.out; have h1 := G0.out _ hp; omega)
    have V16 : Hid (SlM w15 r (.slice a1 r.ws.length p1) (.slice a2 r.rs.length p2) (.slice a3 r.qs.length p3) (.slice a4 r.gs.length p4) w2.heap.size) := (V15.out).off o (fun j hj hp => by have h0 := N.out; have h1 := G0.out j hp; have h2 := V0.out j hj; omega)
    have W16 : Hid (Lx w15 c0 #[.string r.nm, .bool r.up, .int .i64 r.ck, .bool r.kn, .int .i64 r.se, .slice a1 r.ws.length p1, .slice a2 r.rs.length p2, .slice a3 r.qs.length p3, .slice a4 r.gs.length p4]) := (W15.out).off o (fun hp => by have h0 := N.out; have h1 := G0.out _ hp; omega)
    have Z16 : Hid (Lx w15 w8.heap.size #[.string r.nm, .bool r.up, .int .i64 r.ck, .bool r.kn, .int .i64 r.se, .slice g1 r.ws.length q1, .slice g2 r.rs.length q2, .slice g3 r.qs.length q3, .slice g4 r.gs.length q4]) := (Z15.out).off o (fun hp => by have h0 := N.out; have h1 := G0.out _ hp; omega)
    clear C15 A15 B15 V15 W15 Z15
    have M16 : Hid (SlM w15 (markM r 1) (.slice g1 r.ws.length q1) (.slice g2 r.rs.length q2) (.slice g3 r.qs.length q3) (.slice g4 r.gs.length q4) (w7.heap.size + 1)) := M
    clear o M
    have kz := Z16.out.c
    go_wp2_with fail
    refine (heldMate_sl r _ _ _ _ _ 1 _ M16.out Lr.out (by omega) (by omega)).mono ?_
    rintro e w16 ⟨he, c⟩
    rw [← Hm.out] at he
    subst he
    clear kz
    have C17 : Hid (Below w.heap.size w w16) := bl_trans C16.out c
    have A17 : Hid (Lx w16 w.heap.size #[.string m.nm, .bool m.up, .int .i64 m.ck, .bool m.kn, .int .i64 m.se, v1, v2, v3, v4]) := (A16.out).keep c
    have B17 : Hid (Lx w16 (w.heap.size + 1) #[.int .i64 p.k, .string p.b, .int .i64 p.s, v5, .string p.h, .string p.c, .int .i64 p.t]) := (B16.out).keep c
    have V17 : Hid (SlM w16 r (.slice a1 r.ws.length p1) (.slice a2 r.rs.length p2) (.slice a3 r.qs.length p3) (.slice a4 r.gs.length p4) w2.heap.size) := (V16.out).keep c
    have W17 : Hid (Lx w16 c0 #[.string r.nm, .bool r.up, .int .i64 r.ck, .bool r.kn, .int .i64 r.se, .slice a1 r.ws.length p1, .slice a2 r.rs.length p2, .slice a3 r.qs.length p3, .slice a4 r.gs.length p4]) := (W16.out).keep c
    have Z17 : Hid (Lx w16 w8.heap.size #[.string r.nm, .bool r.up, .int .i64 r.ck, .bool r.kn, .int .i64 r.se, .slice g1 r.ws.length q1, .slice g2 r.rs.length q2, .slice g3 r.qs.length q3, .slice g4 r.gs.length q4]) := (Z16.out).keep c
    have M17 : Hid (SlM w16 (markM r 1) (.slice g1 r.ws.length q1) (.slice g2 r.rs.length q2) (.slice g3 r.qs.length q3) (.slice g4 r.gs.length q4) (w7.heap.size + 1)) := (M16.out).keep c
    clear C16 A16 B16 V16 W16 Z16 M16
    clear c
    go_wp2_with fail
    go_cut [13] (fun v wx => ∃ c t1 u1 t2 u2 t3 u3 t4 u4, v = .pointer (some ⟨c, 0, none⟩) ∧ Lx wx c #[.string r.nm, .bool r.up, .int .i64 r.ck, .bool r.kn, .int .i64 r.se, .slice t1 r.ws.length u1, .slice t2 r.rs.length u2, .slice t3 r.qs.length u3, .slice t4 r.gs.length u4] ∧ SlM wx r (.slice t1 r.ws.length u1) (.slice t2 r.rs.length u2) (.slice t3 r.qs.length u3) (.slice t4 r.gs.length u4) w16.heap.size ∧ w16.heap.size ≤ c ∧ Below w16.heap.size w16 wx)
    case first =>
      refine wp_region_noPanic ?_
      refine wp_region_held_drew (S := (fun y => Below w16.heap.size w16 y ∧ (y.cell? ⟨w.heap.size, 0, none⟩ = some (.string m.nm) ∧ y.cell? ⟨w.heap.size, 1, none⟩ = some (.bool m.up) ∧ y.cell? ⟨w.heap.size, 2, none⟩ = some (.int .i64 m.ck) ∧ y.cell? ⟨w.heap.size, 3, none⟩ = some (.bool m.kn) ∧ y.cell? ⟨w.heap.size, 4, none⟩ = some (.int .i64 m.se) ∧ y.cell? ⟨w.heap.size, 5, none⟩ = some (v1) ∧ y.cell? ⟨w.heap.size, 6, none⟩ = some (v2) ∧ y.cell? ⟨w.heap.size, 7, none⟩ = some (v3) ∧ y.cell? ⟨w.heap.size, 8, none⟩ = some (v4) ∧ y.cell? ⟨w.heap.size + 1, 0, none⟩ = some (.int .i64 p.k) ∧ y.cell? ⟨w.heap.size + 1, 1, none⟩ = some (.string p.b) ∧ y.cell? ⟨w.heap.size + 1, 2, none⟩ = some (.int .i64 p.s) ∧ y.cell? ⟨w.heap.size + 1, 3, none⟩ = some (v5) ∧ y.cell? ⟨w.heap.size + 1, 4, none⟩ = some (.string p.h) ∧ y.cell? ⟨w.heap.size + 1, 5, none⟩ = some (.string p.c) ∧ y.cell? ⟨w.heap.size + 1, 6, none⟩ = some (.int .i64 p.t)))) (by kernel_rfl) (kAB A17.out B17.out (bl_drew (Below.refl _ _))) (fun hHeld => ?_)
      refine wpAnyH_take (i := 0) (v := ?vx9) rfl (by kernel_rfl) (by kernel_rfl) (by kernel_rfl) (fun _ _ _ h => h) (Or.inl ⟨by rfl, ?hx9⟩) (by assumption) ?rx9
      case hx9 => (intro w hSw; (try dsimp only at hSw); go_simp; try (with_reducible rfl))
      try simp only [Act.put, List.setIfInBounds_toArray, List.set_cons_zero, List.set_cons_succ, List.getElem_toArray, List.getElem_cons_zero]
      refine wpAnyH_take (i := 2) (v := ?vx10) rfl (by kernel_rfl) (by kernel_rfl) (by kernel_rfl) (fun _ _ _ h => h) (Or.inl ⟨by rfl, ?hx10⟩) (by assumption) ?rx10
      case hx10 => (intro w hSw; (try dsimp only at hSw); go_simp; try (with_reducible rfl))
      try simp only [Act.put, List.setIfInBounds_toArray, List.set_cons_zero, List.set_cons_succ, List.getElem_toArray, List.getElem_cons_zero, List.getElem_cons_succ]
      refine wpAnyH_ready (rs := [1, 5]) (by kernel_rfl) (by simp) ?_
      refine AllReadyH.cons rfl (fun K hK => ?_) (AllReadyH.cons rfl (fun K hK => ?_) AllReadyH.nil)
      · go_simp
        refine (toMate_sl m v1 v2 v3 v4 _ (i1.keep (bl_trans C17.out (bl_drew (Below.refl _ _)))) (i2.keep (bl_trans C17.out (bl_drew (Below.refl _ _)))) (i3.keep (bl_trans C17.out (bl_drew (Below.refl _ _)))) (i4.keep (bl_trans C17.out (bl_drew (Below.refl _ _)))) l1 l2 l3 l4).mono ?_
        rintro e y1 ⟨b1, b2, b3, b4, rfl, hL, d1⟩
        go_wp2_with fail
        refine hK.out _ _ (kAB A17.out B17.out (bl_trans (bl_drew (Below.refl _ _)) d1)) (fun hHeld1 => ?_)
        clear hK K hHeld
        try simp only [Act.put, List.setIfInBounds_toArray, List.set_cons_zero, List.set_cons_succ, List.getElem_toArray, List.getElem_cons_zero, List.getElem_cons_succ]
        refine wpAnyH_ready (rs := [3, 5]) (by kernel_rfl) (by simp) ?_
        refine AllReadyH.cons rfl (fun K hK => ?_) (AllReadyH.cons rfl (fun K hK => ?_) AllReadyH.nil)
        · go_simp
          refine (toParcel_sl p v5 _ (i5.keep (bl_trans C17.out (bl_trans (bl_drew (Below.refl _ _)) d1))) l5).mono ?_
          rintro e y2 ⟨b5, rfl, hP, d2⟩
          replace hL := hL.keep d2
          go_wp2_with fail
          refine hK.out _ _ (kAB A17.out B17.out (bl_trans (bl_trans (bl_drew (Below.refl _ _)) d1) d2)) (fun hHeld2 => ?_)
          clear hK K hHeld1
          try simp only [Act.put, List.setIfInBounds_toArray, List.set_cons_zero, List.set_cons_succ, List.getElem_toArray, List.getElem_cons_zero, List.getElem_cons_succ]
          refine wpAnyH_ready (rs := [4, 5]) (by kernel_rfl) (by simp) ?_
          refine AllReadyH.cons rfl (fun K hK => ?_) (AllReadyH.cons rfl (fun K hK => ?_) AllReadyH.nil)
          · go_simp
            refine (implTake m p b1 b2 b3 b4 b5 _ (lists_of hL) hf (W.Sl.at_ hP).1 (W.Sl.at_ hP).2 hp).mono ?_
            rintro e y3 ⟨⟨r', s1, s2, s3, s4, rfl, hr, R⟩, d3⟩
            have hrr : r = r' := Takes.one Hr.out hr
            subst hrr
            obtain ⟨t1, u1, hs1⟩ := W.Sl.shape R.a1
            subst hs1
            obtain ⟨t2, u2, hs2⟩ := Sl.shape R.a2
            subst hs2
            obtain ⟨t3, u3, hs3⟩ := A.Sl.shape R.a3
            subst hs3
            obtain ⟨t4, u4, hs4⟩ := A.Sl.shape R.a4
            subst hs4
            replace hL := hL.keep d3
            replace hP := hP.keep d3
            have Lb : Hid (w16.heap.size ≤ y2.heap.size) := (bl_trans (bl_trans (bl_drew (Below.refl _ _)) d1) d2).size
            go_wp2_with fail
            refine hK.out _ _ (kAB A17.out B17.out (bl_trans (bl_trans (bl_trans (bl_drew (Below.refl _ _)) d1) d2) d3)) (fun hHeld3 => ?_)
            clear hK K hHeld2
            try simp only [Act.put, List.setIfInBounds_toArray, List.set_cons_zero, List.set_cons_succ, List.getElem_toArray, List.getElem_cons_zero, List.getElem_cons_succ]
            refine wpAnyH_ready (rs := [5]) (by kernel_rfl) (by simp) ?_
            refine AllReadyH.cons rfl (fun K hK => ?_) AllReadyH.nil
            go_simp
            have Th : Hid (Bx (y3.alloc (.cells #[.string { data := #[] }, .bool false, .int .i64 0, .bool false, .int .i64 0, .slice none 0 0, .slice none 0 0, .slice none 0 0, .slice none 0 0] 35)) y3.heap.size #[.string { data := #[] }, .bool false, .int .i64 0, .bool false, .int .i64 0, .slice none 0 0, .slice none 0 0, .slice none 0 0, .slice none 0 0]) := bx_new _ _ _
            have Zc : Hid (w16.heap.size ≤ y3.heap.size) := (bl_trans (bl_trans (bl_trans (bl_drew (Below.refl _ _)) d1) d2) d3).size
            have Lt : Hid (∀ j, ((Value.slice t1 r.ws.length u1).ownBlock = some j ∨ (Value.slice t2 r.rs.length u2).ownBlock = some j ∨ (Value.slice t3 r.qs.length u3).ownBlock = some j ∨ (Value.slice t4 r.gs.length u4).ownBlock = some j) → j < y3.heap.size) := SlM.lt R
            replace hL := hL.keep (bl_alloc (Below.refl _ _) (.cells #[.string { data := #[] }, .bool false, .int .i64 0, .bool false, .int .i64 0, .slice none 0 0, .slice none 0 0, .slice none 0 0, .slice none 0 0] 35))
            replace hP := hP.keep (bl_alloc (Below.refl _ _) (.cells #[.string { data := #[] }, .bool false, .int .i64 0, .bool false, .int .i64 0, .slice none 0 0, .slice none 0 0, .slice none 0 0, .slice none 0 0] 35))
            replace R := R.keep (bl_alloc (Below.refl _ _) (.cells #[.string { data := #[] }, .bool false, .int .i64 0, .bool false, .int .i64 0, .slice none 0 0, .slice none 0 0, .slice none 0 0, .slice none 0 0] 35))
            refine hK.out _ _ (kAB A17.out B17.out (bl_alloc (bl_trans (bl_trans (bl_trans (bl_drew (Below.refl _ _)) d1) d2) d3) _)) (fun hHeld4 => ?_)
            clear hK K hHeld3
            try simp only [Act.put, List.setIfInBounds_toArray, List.set_cons_zero, List.set_cons_succ, List.getElem_toArray, List.getElem_cons_zero, List.getElem_cons_succ]
            have ho := ones r R.a1 R.a2 R.a3 R.a4
            refine wpAnyH_ready (rs := [6]) (by kernel_rfl) (by simp) ?_
            refine AllReadyH.cons rfl (fun K hK => ?_) AllReadyH.nil
            refine if_wanted (by rfl) ?_
            refine wp_store_mid 35 _ _ (by rfl) y3.heap.size 0 #[.string r.nm, .bool r.up, .int .i64 r.ck, .bool r.kn, .int .i64 r.se, .slice t1 r.ws.length u1, .slice t2 r.rs.length u2, .slice t3 r.qs.length u3, .slice t4 r.gs.length u4] (by rfl) (by rfl) (by have h9 : World.there _ _ 0 9 := bx_there Th.out; exact h9) hinfo (by exact all_oneCell_toArray ho) ?_
            refine hK.out _ _ (kAB A17.out B17.out (Ex.mono (bl_alloc (bl_trans (bl_trans (bl_trans (bl_drew (Below.refl _ _)) d1) d2) d3) _) ((Ex.refl y3.heap.size _).cells [.string r.nm, .bool r.up, .int .i64 r.ck, .bool r.kn, .int .i64 r.se, .slice t1 r.ws.length u1, .slice t2 r.rs.length u2, .slice t3 r.qs.length u3, .slice t4 r.gs.length u4] 0) Zc.out)) (fun hLast => ?_)
            clear hK K hHeld4
            refine wpAnyH_done (by kernel_rfl) ?_ _
            refine NoPanic.normal ?_
            go_wp2_with fail
            go_meet
            exact ⟨y3.heap.size, t1, u1, t2, u2, t3, u3, t4, u4, rfl, lx_put Th.out rfl, SlM.low (R.exlt Lt.out ((Ex.refl _ _).cells _ _)) Lb.out, Zc.out, (Ex.mono (bl_alloc (bl_trans (bl_trans (bl_trans (bl_drew (Below.refl _ _)) d1) d2) d3) _) ((Ex.refl y3.heap.size _).cells [.string r.nm, .bool r.up, .int .i64 r.ck, .bool r.kn, .int .i64 r.se, .slice t1 r.ws.length u1, .slice t2 r.rs.length u2, .slice t3 r.qs.length u3, .slice t4 r.gs.length u4] 0) Zc.out)⟩
          · go_simp
            have Th : Hid (Bx (y2.alloc (.cells #[.string { data := #[] }, .bool false, .int .i64 0, .bool false, .int .i64 0, .slice none 0 0, .slice none 0 0, .slice none 0 0, .slice none 0 0] 35)) y2.heap.size #[.string { data := #[] }, .bool false, .int .i64 0, .bool false, .int .i64 0, .slice none 0 0, .slice none 0 0, .slice none 0 0, .slice none 0 0]) := bx_new _ _ _
            have Zc : Hid (w16.heap.size ≤ y2.heap.size) := (bl_trans (bl_trans (bl_drew (Below.refl _ _)) d1) d2).size
            replace hL := hL.keep (bl_alloc (Below.refl _ _) (.cells #[.string { data := #[] }, .bool false, .int .i64 0, .bool false, .int .i64 0, .slice none 0 0, .slice none 0 0, .slice none 0 0, .slice none 0 0] 35))
            replace hP := hP.keep (bl_alloc (Below.refl _ _) (.cells #[.string { data := #[] }, .bool false, .int .i64 0, .bool false, .int .i64 0, .slice none 0 0, .slice none 0 0, .slice none 0 0, .slice none 0 0] 35))
            refine hK.out _ _ (kAB A17.out B17.out (bl_alloc (bl_trans (bl_trans (bl_drew (Below.refl _ _)) d1) d2) _)) (fun hHeld5 => ?_)
            clear hK K hHeld2
            try simp only [Act.put, List.setIfInBounds_toArray, List.set_cons_zero, List.set_cons_succ, List.getElem_toArray, List.getElem_cons_zero, List.getElem_cons_succ]
            refine wpAnyH_ready (rs := [4]) (by kernel_rfl) (by simp) ?_
            refine AllReadyH.cons rfl (fun K hK => ?_) AllReadyH.nil
            go_simp
            refine (implTake m p b1 b2 b3 b4 b5 _ (lists_of hL) hf (W.Sl.at_ hP).1 (W.Sl.at_ hP).2 hp).mono ?_
            rintro e y6 ⟨⟨r', s1, s2, s3, s4, rfl, hr, R⟩, d6⟩
            have hrr : r = r' := Takes.one Hr.out hr
            subst hrr
            obtain ⟨t1, u1, hs1⟩ := W.Sl.shape R.a1
            subst hs1
            obtain ⟨t2, u2, hs2⟩ := Sl.shape R.a2
            subst hs2
            obtain ⟨t3, u3, hs3⟩ := A.Sl.shape R.a3
            subst hs3
            obtain ⟨t4, u4, hs4⟩ := A.Sl.shape R.a4
            subst hs4
            replace hL := hL.keep d6
            replace hP := hP.keep d6
            have Lb : Hid (w16.heap.size ≤ (y2.alloc (.cells #[.string { data := #[] }, .bool false, .int .i64 0, .bool false, .int .i64 0, .slice none 0 0, .slice none 0 0, .slice none 0 0, .slice none 0 0] 35)).heap.size) := (bl_alloc (bl_trans (bl_trans (bl_drew (Below.refl _ _)) d1) d2) _).size
            have Th6 : Hid (Bx y6 y2.heap.size #[.string { data := #[] }, .bool false, .int .i64 0, .bool false, .int .i64 0, .slice none 0 0, .slice none 0 0, .slice none 0 0, .slice none 0 0]) := Th.out.below d6
            have Lt : Hid (y2.heap.size < (y2.alloc (.cells #[.string { data := #[] }, .bool false, .int .i64 0, .bool false, .int .i64 0, .slice none 0 0, .slice none 0 0, .slice none 0 0, .slice none 0 0] 35)).heap.size) := Th.out.l
            clear Th
            have Th := Th6
            clear Th6
            go_wp2_with fail
            refine hK.out _ _ (kAB A17.out B17.out (bl_trans (bl_alloc (bl_trans (bl_trans (bl_drew (Below.refl _ _)) d1) d2) _) d6)) (fun hHeld6 => ?_)
            clear hK K hHeld5
            try simp only [Act.put, List.setIfInBounds_toArray, List.set_cons_zero, List.set_cons_succ, List.getElem_toArray, List.getElem_cons_zero, List.getElem_cons_succ]
            have ho := ones r R.a1 R.a2 R.a3 R.a4
            refine wpAnyH_ready (rs := [6]) (by kernel_rfl) (by simp) ?_
            refine AllReadyH.cons rfl (fun K hK => ?_) AllReadyH.nil
            refine if_wanted (by rfl) ?_
            refine wp_store_mid 35 _ _ (by rfl) y2.heap.size 0 #[.string r.nm, .bool r.up, .int .i64 r.ck, .bool r.kn, .int .i64 r.se, .slice t1 r.ws.length u1, .slice t2 r.rs.length u2, .slice t3 r.qs.length u3, .slice t4 r.gs.length u4] (by rfl) (by rfl) (by have h9 : World.there _ _ 0 9 := bx_there Th.out; exact h9) hinfo (by exact all_oneCell_toArray ho) ?_
            refine hK.out _ _ (kAB A17.out B17.out (Ex.mono (bl_trans (bl_alloc (bl_trans (bl_trans (bl_drew (Below.refl _ _)) d1) d2) _) d6) ((Ex.refl y2.heap.size _).cells [.string r.nm, .bool r.up, .int .i64 r.ck, .bool r.kn, .int .i64 r.se, .slice t1 r.ws.length u1, .slice t2 r.rs.length u2, .slice t3 r.qs.length u3, .slice t4 r.gs.length u4] 0) Zc.out)) (fun hLast => ?_)
            clear hK K hHeld6
            refine wpAnyH_done (by kernel_rfl) ?_ _
            refine NoPanic.normal ?_
            go_wp2_with fail
            go_meet
            exact ⟨y2.heap.size, t1, u1, t2, u2, t3, u3, t4, u4, rfl, lx_put Th.out rfl, SlM.low (R.ex ((Ex.refl _ _).cells _ _) Lt.out) Lb.out, Zc.out, (Ex.mono (bl_trans (bl_alloc (bl_trans (bl_trans (bl_drew (Below.refl _ _)) d1) d2) _) d6) ((Ex.refl y2.heap.size _).cells [.string r.nm, .bool r.up, .int .i64 r.ck, .bool r.kn, .int .i64 r.se, .slice t1 r.ws.length u1, .slice t2 r.rs.length u2, .slice t3 r.qs.length u3, .slice t4 r.gs.length u4] 0) Zc.out)⟩
        · go_simp
          have Th : Hid (Bx (y1.alloc (.cells #[.string { data := #[] }, .bool false, .int .i64 0, .bool false, .int .i64 0, .slice none 0 0, .slice none 0 0, .slice none 0 0, .slice none 0 0] 35)) y1.heap.size #[.string { data := #[] }, .bool false, .int .i64 0, .bool false, .int .i64 0, .slice none 0 0, .slice none 0 0, .slice none 0 0, .slice none 0 0]) := bx_new _ _ _
          have Zc : Hid (w16.heap.size ≤ y1.heap.size) := (bl_trans (bl_drew (Below.refl _ _)) d1).size
          replace hL := hL.keep (bl_alloc (Below.refl _ _) (.cells #[.string { data := #[] }, .bool false, .int .i64 0, .bool false, .int .i64 0, .slice none 0 0, .slice none 0 0, .slice none 0 0, .slice none 0 0] 35))
          refine hK.out _ _ (kAB A17.out B17.out (bl_alloc (bl_trans (bl_drew (Below.refl _ _)) d1) _)) (fun hHeld7 => ?_)
          clear hK K hHeld1
          try simp only [Act.put, List.setIfInBounds_toArray, List.set_cons_zero, List.set_cons_succ, List.getElem_toArray, List.getElem_cons_zero, List.getElem_cons_succ]
          refine wpAnyH_ready (rs := [3]) (by kernel_rfl) (by simp) ?_
          refine AllReadyH.cons rfl (fun K hK => ?_) AllReadyH.nil
          go_simp
          refine (toParcel_sl p v5 _ (i5.keep (bl_trans C17.out (bl_alloc (bl_trans (bl_drew (Below.refl _ _)) d1) _))) l5).mono ?_
          rintro e y8 ⟨b5, rfl, hP, d8⟩
          replace hL := hL.keep d8
          have Th8 : Hid (Bx y8 y1.heap.size #[.string { data := #[] }, .bool false, .int .i64 0, .bool false, .int .i64 0, .slice none 0 0, .slice none 0 0, .slice none 0 0, .slice none 0 0]) := Th.out.below d8
          clear Th
          have Th := Th8
          clear Th8
          go_wp2_with fail
          refine hK.out _ _ (kAB A17.out B17.out (bl_trans (bl_alloc (bl_trans (bl_drew (Below.refl _ _)) d1) _) d8)) (fun hHeld8 => ?_)
          clear hK K hHeld7
          try simp only [Act.put, List.setIfInBounds_toArray, List.set_cons_zero, List.set_cons_succ, List.getElem_toArray, List.getElem_cons_zero, List.getElem_cons_succ]
          refine wpAnyH_ready (rs := [4]) (by kernel_rfl) (by simp) ?_
          refine AllReadyH.cons rfl (fun K hK => ?_) AllReadyH.nil
          go_simp
          refine (implTake m p b1 b2 b3 b4 b5 _ (lists_of hL) hf (W.Sl.at_ hP).1 (W.Sl.at_ hP).2 hp).mono ?_
          rintro e y9 ⟨⟨r', s1, s2, s3, s4, rfl, hr, R⟩, d9⟩
          have hrr : r = r' := Takes.one Hr.out hr
          subst hrr
          obtain ⟨t1, u1, hs1⟩ := W.Sl.shape R.a1
          subst hs1
          obtain ⟨t2, u2, hs2⟩ := Sl.shape R.a2
          subst hs2
          obtain ⟨t3, u3, hs3⟩ := A.Sl.shape R.a3
          subst hs3
          obtain ⟨t4, u4, hs4⟩ := A.Sl.shape R.a4
          subst hs4
          replace hL := hL.keep d9
          replace hP := hP.keep d9
          have Lb : Hid (w16.heap.size ≤ y8.heap.size) := (bl_trans (bl_alloc (bl_trans (bl_drew (Below.refl _ _)) d1) _) d8).size
          have Th9 : Hid (Bx y9 y1.heap.size #[.string { data := #[] }, .bool false, .int .i64 0, .bool false, .int .i64 0, .slice none 0 0, .slice none 0 0, .slice none 0 0, .slice none 0 0]) := Th.out.below d9
          have Lt : Hid (y1.heap.size < y8.heap.size) := Th.out.l
          clear Th
          have Th := Th9
          clear Th9
          go_wp2_with fail
          refine hK.out _ _ (kAB A17.out B17.out (bl_trans (bl_trans (bl_alloc (bl_trans (bl_drew (Below.refl _ _)) d1) _) d8) d9)) (fun hHeld9 => ?_)
          clear hK K hHeld8
          try simp only [Act.put, List.setIfInBounds_toArray, List.set_cons_zero, List.set_cons_succ, List.getElem_toArray, List.getElem_cons_zero, List.getElem_cons_succ]
          have ho := ones r R.a1 R.a2 R.a3 R.a4
          refine wpAnyH_ready (rs := [6]) (by kernel_rfl) (by simp) ?_
          refine AllReadyH.cons rfl (fun K hK => ?_) AllReadyH.nil
          refine if_wanted (by rfl) ?_
          refine wp_store_mid 35 _ _ (by rfl) y1.heap.size 0 #[.string r.nm, .bool r.up, .int .i64 r.ck, .bool r.kn, .int .i64 r.se, .slice t1 r.ws.length u1, .slice t2 r.rs.length u2, .slice t3 r.qs.length u3, .slice t4 r.gs.length u4] (by rfl) (by rfl) (by have h9 : World.there _ _ 0 9 := bx_there Th.out; exact h9) hinfo (by exact all_oneCell_toArray ho) ?_
          refine hK.out _ _ (kAB A17.out B17.out (Ex.mono (bl_trans (bl_trans (bl_alloc (bl_trans (bl_drew (Below.refl _ _)) d1) _) d8) d9) ((Ex.refl y1.heap.size _).cells [.string r.nm, .bool r.up, .int .i64 r.ck, .bool r.kn, .int .i64 r.se, .slice t1 r.ws.length u1, .slice t2 r.rs.length u2, .slice t3 r.qs.length u3, .slice t4 r.gs.length u4] 0) Zc.out)) (fun hLast => ?_)
          clear hK K hHeld9
          refine wpAnyH_done (by kernel_rfl) ?_ _
          refine NoPanic.normal ?_
          go_wp2_with fail
          go_meet
          exact ⟨y1.heap.size, t1, u1, t2, u2, t3, u3, t4, u4, rfl, lx_put Th.out rfl, SlM.low (R.ex ((Ex.refl _ _).cells _ _) Lt.out) Lb.out, Zc.out, (Ex.mono (bl_trans (bl_trans (bl_alloc (bl_trans (bl_drew (Below.refl _ _)) d1) _) d8) d9) ((Ex.refl y1.heap.size _).cells [.string r.nm, .bool r.up, .int .i64 r.ck, .bool r.kn, .int .i64 r.se, .slice t1 r.ws.length u1, .slice t2 r.rs.length u2, .slice t3 r.qs.length u3, .slice t4 r.gs.length u4] 0) Zc.out)⟩
      · go_simp
        have Th : Hid (Bx (w16.alloc (.cells #[.string { data := #[] }, .bool false, .int .i64 0, .bool false, .int .i64 0, .slice none 0 0, .slice none 0 0, .slice none 0 0, .slice none 0 0] 35)).drew w16.heap.size #[.string { data := #[] }, .bool false, .int .i64 0, .bool false, .int .i64 0, .slice none 0 0, .slice none 0 0, .slice none 0 0, .slice none 0 0]) := (bx_new w16 _ _).below (bl_drew (Below.refl _ _))
        have Zc : Hid (w16.heap.size ≤ w16.heap.size) := (bl_drew (Below.refl _ _)).size
        refine hK.out _ _ (kAB A17.out B17.out (bl_drew (bl_alloc (Below.refl _ _) _))) (fun hHeld10 => ?_)
        clear hK K hHeld
        try simp only [Act.put, List.setIfInBounds_toArray, List.set_cons_zero, List.set_cons_succ, List.getElem_toArray, List.getElem_cons_zero, List.getElem_cons_succ]
        refine wpAnyH_ready (rs := [1]) (by kernel_rfl) (by simp) ?_
        refine AllReadyH.cons rfl (fun K hK => ?_) AllReadyH.nil
        go_simp
        refine (toMate_sl m v1 v2 v3 v4 _ (i1.keep (bl_trans C17.out (bl_drew (bl_alloc (Below.refl _ _) _)))) (i2.keep (bl_trans C17.out (bl_drew (bl_alloc (Below.refl _ _) _)))) (i3.keep (bl_trans C17.out (bl_drew (bl_alloc (Below.refl _ _) _)))) (i4.keep (bl_trans C17.out (bl_drew (bl_alloc (Below.refl _ _) _)))) l1 l2 l3 l4).mono ?_
        rintro e y11 ⟨b1, b2, b3, b4, rfl, hL, d11⟩
        have Th11 : Hid (Bx y11 w16.heap.size #[.string { data := #[] }, .bool false, .int .i64 0, .bool false, .int .i64 0, .slice none 0 0, .slice none 0 0, .slice none 0 0, .slice none 0 0]) := Th.out.below d11
        clear Th
        have Th := Th11
        clear Th11
        go_wp2_with fail
        refine hK.out _ _ (kAB A17.out B17.out (bl_trans (bl_drew (bl_alloc (Below.refl _ _) _)) d11)) (fun hHeld11 => ?_)
        clear hK K hHeld10
        try simp only [Act.put, List.setIfInBounds_toArray, List.set_cons_zero, List.set_cons_succ, List.getElem_toArray, List.getElem_cons_zero, List.getElem_cons_succ]
        refine wpAnyH_ready (rs := [3]) (by kernel_rfl) (by simp) ?_
        refine AllReadyH.cons rfl (fun K hK => ?_) AllReadyH.nil
        go_simp
        refine (toParcel_sl p v5 _ (i5.keep (bl_trans C17.out (bl_trans (bl_drew (bl_alloc (Below.refl _ _) _)) d11))) l5).mono ?_
        rintro e y12 ⟨b5, rfl, hP, d12⟩
        replace hL := hL.keep d12
        have Th12 : Hid (Bx y12 w16.heap.size #[.string { data := #[] }, .bool false, .int .i64 0, .bool false, .int .i64 0, .slice none 0 0, .slice none 0 0, .slice none 0 0, .slice none 0 0]) := Th.out.below d12
        clear Th
        have Th := Th12
        clear Th12
        go_wp2_with fail
        refine hK.out _ _ (kAB A17.out B17.out (bl_trans (bl_trans (bl_drew (bl_alloc (Below.refl _ _) _)) d11) d12)) (fun hHeld12 => ?_)
        clear hK K hHeld11
        try simp only [Act.put, List.setIfInBounds_toArray, List.set_cons_zero, List.set_cons_succ, List.getElem_toArray, List.getElem_cons_zero, List.getElem_cons_succ]
        refine wpAnyH_ready (rs := [4]) (by kernel_rfl) (by simp) ?_
        refine AllReadyH.cons rfl (fun K hK => ?_) AllReadyH.nil
        go_simp
        refine (implTake m p b1 b2 b3 b4 b5 _ (lists_of hL) hf (W.Sl.at_ hP).1 (W.Sl.at_ hP).2 hp).mono ?_
        rintro e y13 ⟨⟨r', s1, s2, s3, s4, rfl, hr, R⟩, d13⟩
        have hrr : r = r' := Takes.one Hr.out hr
        subst hrr
        obtain ⟨t1, u1, hs1⟩ := W.Sl.shape R.a1
        subst hs1
        obtain ⟨t2, u2, hs2⟩ := Sl.shape R.a2
        subst hs2
        obtain ⟨t3, u3, hs3⟩ := A.Sl.shape R.a3
        subst hs3
        obtain ⟨t4, u4, hs4⟩ := A.Sl.shape R.a4
        subst hs4
        replace hL := hL.keep d13
        replace hP := hP.keep d13
        have Lb : Hid (w16.heap.size ≤ y12.heap.size) := (bl_trans (bl_trans (bl_drew (bl_alloc (Below.refl _ _) _)) d11) d12).size
        have Th13 : Hid (Bx y13 w16.heap.size #[.string { data := #[] }, .bool false, .int .i64 0, .bool false, .int .i64 0, .slice none 0 0, .slice none 0 0, .slice none 0 0, .slice none 0 0]) := Th.out.below d13
        have Lt : Hid (w16.heap.size < y12.heap.size) := Th.out.l
        clear Th
        have Th := Th13
        clear Th13
        go_wp2_with fail
        refine hK.out _ _ (kAB A17.out B17.out (bl_trans (bl_trans (bl_trans (bl_drew (bl_alloc (Below.refl _ _) _)) d11) d12) d13)) (fun hHeld13 => ?_)
        clear hK K hHeld12
        try simp only [Act.put, List.setIfInBounds_toArray, List.set_cons_zero, List.set_cons_succ, List.getElem_toArray, List.getElem_cons_zero, List.getElem_cons_succ]
        have ho := ones r R.a1 R.a2 R.a3 R.a4
        refine wpAnyH_ready (rs := [6]) (by kernel_rfl) (by simp) ?_
        refine AllReadyH.cons rfl (fun K hK => ?_) AllReadyH.nil
        refine if_wanted (by rfl) ?_
        refine wp_store_mid 35 _ _ (by rfl) w16.heap.size 0 #[.string r.nm, .bool r.up, .int .i64 r.ck, .bool r.kn, .int .i64 r.se, .slice t1 r.ws.length u1, .slice t2 r.rs.length u2, .slice t3 r.qs.length u3, .slice t4 r.gs.length u4] (by rfl) (by rfl) (by have h9 : World.there _ _ 0 9 := bx_there Th.out; exact h9) hinfo (by exact all_oneCell_toArray ho) ?_
        refine hK.out _ _ (kAB A17.out B17.out (Ex.mono (bl_trans (bl_trans (bl_trans (bl_drew (bl_alloc (Below.refl _ _) _)) d11) d12) d13) ((Ex.refl w16.heap.size _).cells [.string r.nm, .bool r.up, .int .i64 r.ck, .bool r.kn, .int .i64 r.se, .slice t1 r.ws.length u1, .slice t2 r.rs.length u2, .slice t3 r.qs.length u3, .slice t4 r.gs.length u4] 0) Zc.out)) (fun hLast => ?_)
        clear hK K hHeld13
        refine wpAnyH_done (by kernel_rfl) ?_ _
        refine NoPanic.normal ?_
        go_wp2_with fail
        go_meet
        exact ⟨w16.heap.size, t1, u1, t2, u2, t3, u3, t4, u4, rfl, lx_put Th.out rfl, SlM.low (R.ex ((Ex.refl _ _).cells _ _) Lt.out) Lb.out, Zc.out, (Ex.mono (bl_trans (bl_trans (bl_trans (bl_drew (bl_alloc (Below.refl _ _) _)) d11) d12) d13) ((Ex.refl w16.heap.size _).cells [.string r.nm, .bool r.up, .int .i64 r.ck, .bool r.kn, .int .i64 r.se, .slice t1 r.ws.length u1, .slice t2 r.rs.length u2, .slice t3 r.qs.length u3, .slice t4 r.gs.length u4] 0) Zc.out)⟩
    case rest =>
      obtain ⟨wb, rfl⟩ : ∃ wb : World, wb = wc := ⟨_, rfl⟩
      obtain ⟨c9, t1, u1, t2, u2, t3, u3, t4, u4, rfl, hW, hV, hc0, cc⟩ := hcut
      have C18 : Hid (Below w.heap.size w wb) := bl_trans C17.out cc
      have A18 : Hid (Lx wb w.heap.size #[.string m.nm, .bool m.up, .int .i64 m.ck, .bool m.kn, .int .i64 m.se, v1, v2, v3, v4]) := (A17.out).keep cc
      have B18 : Hid (Lx wb (w.heap.size + 1) #[.int .i64 p.k, .string p.b, .int .i64 p.s, v5, .string p.h, .string p.c, .int .i64 p.t]) := (B17.out).keep cc
      have V18 : Hid (SlM wb r (.slice a1 r.ws.length p1) (.slice a2 r.rs.length p2) (.slice a3 r.qs.length p3) (.slice a4 r.gs.length p4) w2.heap.size) := (V17.out).keep cc
      have W18 : Hid (Lx wb c0 #[.string r.nm, .bool r.up, .int .i64 r.ck, .bool r.kn, .int .i64 r.se, .slice a1 r.ws.length p1, .slice a2 r.rs.length p2, .slice a3 r.qs.length p3, .slice a4 r.gs.length p4]) := (W17.out).keep cc
      have Z18 : Hid (Lx wb w8.heap.size #[.string r.nm, .bool r.up, .int .i64 r.ck, .bool r.kn, .int .i64 r.se, .slice g1 r.ws.length q1, .slice g2 r.rs.length q2, .slice g3 r.qs.length q3, .slice g4 r.gs.length q4]) := (Z17.out).keep cc
      have M18 : Hid (SlM wb (markM r 1) (.slice g1 r.ws.length q1) (.slice g2 r.rs.length q2) (.slice g3 r.qs.length q3) (.slice g4 r.gs.length q4) (w7.heap.size + 1)) := (M17.out).keep cc
      clear C17 A17 B17 V17 W17 Z17 M17
      have H18 : Hid (SlM wb r (.slice t1 r.ws.length u1) (.slice t2 r.rs.length u2) (.slice t3 r.qs.length u3) (.slice t4 r.gs.length u4) w16.heap.size) := hV
      have I18 : Hid (Lx wb c9 #[.string r.nm, .bool r.up, .int .i64 r.ck, .bool r.kn, .int .i64 r.se, .slice t1 r.ws.length u1, .slice t2 r.rs.length u2, .slice t3 r.qs.length u3, .slice t4 r.gs.length u4]) := hW
      clear cc hW hV hc0
      have kw := W18.out.c
      have ki := I18.out.c
      go_wp2_with fail
      refine (eqMate_sl r _ _ _ _ _ _ _ _ _ _ _ H18.out V18.out Lr.out).mono ?_
      rintro e w20 ⟨rfl, c⟩
      clear kw ki
      have C19 : Hid (Below w.heap.size w w20) := bl_trans C18.out c
      have A19 : Hid (Lx w20 w.heap.size #[.string m.nm, .bool m.up, .int .i64 m.ck, .bool m.kn, .int .i64 m.se, v1, v2, v3, v4]) := (A18.out).keep c
      have B19 : Hid (Lx w20 (w.heap.size + 1) #[.int .i64 p.k, .string p.b, .int .i64 p.s, v5, .string p.h, .string p.c, .int .i64 p.t]) := (B18.out).keep c
      have V19 : Hid (SlM w20 r (.slice a1 r.ws.length p1) (.slice a2 r.rs.length p2) (.slice a3 r.qs.length p3) (.slice a4 r.gs.length p4) w2.heap.size) := (V18.out).keep c
      have W19 : Hid (Lx w20 c0 #[.string r.nm, .bool r.up, .int .i64 r.ck, .bool r.kn, .int .i64 r.se, .slice a1 r.ws.length p1, .slice a2 r.rs.length p2, .slice a3 r.qs.length p3, .slice a4 r.gs.length p4]) := (W18.out).keep c
      have Z19 : Hid (Lx w20 w8.heap.size #[.string r.nm, .bool r.up, .int .i64 r.ck, .bool r.kn, .int .i64 r.se, .slice g1 r.ws.length q1, .slice g2 r.rs.length q2, .slice g3 r.qs.length q3, .slice g4 r.gs.length q4]) := (Z18.out).keep c
      have M19 : Hid (SlM w20 (markM r 1) (.slice g1 r.ws.length q1) (.slice g2 r.rs.length q2) (.slice g3 r.qs.length q3) (.slice g4 r.gs.length q4) (w7.heap.size + 1)) := (M18.out).keep c
      have H19 : Hid (SlM w20 r (.slice t1 r.ws.length u1) (.slice t2 r.rs.length u2) (.slice t3 r.qs.length u3) (.slice t4 r.gs.length u4) w16.heap.size) := (H18.out).keep c
      have I19 : Hid (Lx w20 c9 #[.string r.nm, .bool r.up, .int .i64 r.ck, .bool r.kn, .int .i64 r.se, .slice t1 r.ws.length u1, .slice t2 r.rs.length u2, .slice t3 r.qs.length u3, .slice t4 r.gs.length u4]) := (I18.out).keep c
      clear C18 A18 B18 V18 W18 Z18 M18 H18 I18
      clear c
      have kz := Z19.out.c
      go_wp2_with fail
      refine (heldMate_sl r _ _ _ _ _ 1 _ M19.out Lr.out (by omega) (by omega)).mono ?_
      rintro e w21 ⟨he, c⟩
      rw [← Hm.out] at he
      subst he
      clear kz
      have C20 : Hid (Below w.heap.size w w21) := bl_trans C19.out c
      have A20 : Hid (Lx w21 w.heap.size #[.string m.nm, .bool m.up, .int .i64 m.ck, .bool m.kn, .int .i64 m.se, v1, v2, v3, v4]) := (A19.out).keep c
      have B20 : Hid (Lx w21 (w.heap.size + 1) #[.int .i64 p.k, .string p.b, .int .i64 p.s, v5, .string p.h, .string p.c, .int .i64 p.t]) := (B19.out).keep c
      have V20 : Hid (SlM w21 r (.slice a1 r.ws.length p1) (.slice a2 r.rs.length p2) (.slice a3 r.qs.length p3) (.slice a4 r.gs.length p4) w2.heap.size) := (V19.out).keep c
      have W20 : Hid (Lx w21 c0 #[.string r.nm, .bool r.up, .int .i64 r.ck, .bool r.kn, .int .i64 r.se, .slice a1 r.ws.length p1, .slice a2 r.rs.length p2, .slice a3 r.qs.length p3, .slice a4 r.gs.length p4]) := (W19.out).keep c
      have Z20 : Hid (Lx w21 w8.heap.size #[.string r.nm, .bool r.up, .int .i64 r.ck, .bool r.kn, .int .i64 r.se, .slice g1 r.ws.length q1, .slice g2 r.rs.length q2, .slice g3 r.qs.length q3, .slice g4 r.gs.length q4]) := (Z19.out).keep c
      have M20 : Hid (SlM w21 (markM r 1) (.slice g1 r.ws.length q1) (.slice g2 r.rs.length q2) (.slice g3 r.qs.length q3) (.slice g4 r.gs.length q4) (w7.heap.size + 1)) := (M19.out).keep c
      have H20 : Hid (SlM w21 r (.slice t1 r.ws.length u1) (.slice t2 r.rs.length u2) (.slice t3 r.qs.length u3) (.slice t4 r.gs.length u4) w16.heap.size) := (H19.out).keep c
      have I20 : Hid (Lx w21 c9 #[.string r.nm, .bool r.up, .int .i64 r.ck, .bool r.kn, .int .i64 r.se, .slice t1 r.ws.length u1, .slice t2 r.rs.length u2, .slice t3 r.qs.length u3, .slice t4 r.gs.length u4]) := (I19.out).keep c
      clear C19 A19 B19 V19 W19 Z19 M19 H19 I19
      clear c
      go_wp2
      go_ret
      exact ⟨rfl, C20.out⟩
end Go.Proofs.YtiogkdafmgdbgaaGreat
