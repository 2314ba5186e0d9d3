import Derived.Test.YtiogkdafmgdbgaaGreatJ11
import Derived.Test.YtiogkdafmgdbgaaGreatJ12
/- A mate on deck takes a lease, and the word that a hold is back. -/
namespace Go.Proofs.YtiogkdafmgdbgaaGreat
open Go.RowKit Go.Maps Go.WideMaps
set_option linter.unusedVariables false

/-- What a lease makes of a run. -/
def bump (h c : ByteArray) (t : Int) (r : RunD) : RunD := if r.h.toList = h.toList ∧ r.c.toList = c.toList ∧ r.u < t + 16 then { r with u := t + 16 } else r
def LeaseOk (qs : List A.AskD) (h c : ByteArray) (t : Int) : Prop := ∃ a ∈ qs, a.h = h ∧ a.c.toList = c.toList ∧ inB t a.f a.t = true
open Classical in
noncomputable def prolR (qs : List A.AskD) (p : ParcelD) (rs : List RunD) : List RunD := if LeaseOk qs p.h p.c p.t then rs.map (bump p.h p.c p.t) else rs
theorem prolR_no {qs : List A.AskD} {p : ParcelD} {rs : List RunD} (h : ¬ LeaseOk qs p.h p.c p.t) : prolR qs p rs = rs := if_neg h
theorem prolR_yes {qs : List A.AskD} {p : ParcelD} {rs : List RunD} (h : LeaseOk qs p.h p.c p.t) : prolR qs p rs = rs.map (bump p.h p.c p.t) := if_pos h
theorem bump_all {rs : List RunD} {h c : ByteArray} {t : Int} (hn : ∀ r ∈ rs, r.h.toList = h.toList → r.c.toList = c.toList → ¬ r.u < t + 16) : rs.map (bump h c t) = rs := by
  refine (List.map_congr_left (fun r hr => ?_)).trans (List.map_id _)
  unfold bump
  rw [if_neg (fun ⟨a, b, d⟩ => hn r hr a b d)]
  rfl
theorem lease_iff {qs : List A.AskD} {a : A.AskD} {c : ByteArray} {t : Int} (hs : A.Srt qs) (ha : a ∈ qs) : LeaseOk qs a.h c t ↔ a.c.toList = c.toList ∧ inB t a.f a.t = true := by
  constructor
  · rintro ⟨b, hb, e, h1, h2⟩
    have : b = a := Ord.same A.keyV hs hb ha (by show b.h.data.toList = a.h.data.toList; rw [e])
    subst this
    exact ⟨h1, h2⟩
  · exact fun h => ⟨a, ha, rfl, h.1, h.2⟩
theorem run_same {rs : List RunD} {q r : RunD} (hs : Srt rs) (hq : q ∈ rs) (hr : r ∈ rs) (e : q.c.toList = r.c.toList) : q = r :=
  Ord.same keyV hs hq hr (by show q.c.data.toList = r.c.data.toList; rw [← ByteArray.toList_eq, ← ByteArray.toList_eq]; exact e)
theorem bump_ins {rs : List RunD} {r : RunD} {h : ByteArray} {t : Int} (hs : Srt rs) (hr : r ∈ rs) (hh : r.h.toList = h.toList) (hu : r.u < t + 16) : Ord.ins keyV { r with u := t + 16 } rs = rs.map (bump h r.c t) := by
  rw [Ord.ins_map keyV (r := r) (r' := { r with u := t + 16 }) rfl hs hr]
  refine List.map_congr_left (fun q hq => ?_)
  by_cases e : keyV q = keyV r
  · have : q = r := Ord.same keyV hs hq hr e
    subst this
    rw [if_pos rfl]
    unfold bump
    rw [if_pos ⟨hh, rfl, hu⟩]
  · rw [if_neg e]
    unfold bump
    rw [if_neg (fun ⟨_, b, _⟩ => e (by show q.c.data.toList = r.c.data.toList; rw [← ByteArray.toList_eq, ← ByteArray.toList_eq]; exact b))]
theorem Ex.of_grown {x y : World} {k : Nat} (h : x.grownBy y (some k)) : Ex k x y := ⟨h.os, h.tape, h.output, h.size, fun i hi hne => h.block i hi (by simpa using hne)⟩

set_option maxRecDepth 4000 in
set_option maxHeartbeats 2000000 in
theorem prolong_any (m : MateD) (p : ParcelD) (x1 x2 x3 x4 : Option Addr) (t1 t2 t3 t4 c1 c2 c3 c4 : Nat) (d m1 m2 m3 m4 b5 : Nat) (w : World) (hD : Deck w d #[.string m.nm, .bool m.up, .int .i64 m.ck, .bool m.kn, .int .i64 m.se, .slice x1 t1 c1, .slice x2 t2 c2, .slice x3 t3 c3, .slice x4 t4 c4, .map (some m1), .map (some m2), .map (some m3), .map (some m4)] m1 m2 m3 m4 m.ws m.rs m.qs m.gs) (e1 : m1 < m2) (e2 : m2 < m3) (e3 : m3 < m4) (e4 : m4 < d) (hp : p.fits) (s2 : Srt m.rs) (s3 : A.Srt m.qs) (hv : ∀ a ∈ m.qs, 0 ≤ a.f ∧ a.t ≤ 1000000) (n2 : Nat) (a2 : n2 ≤ 1048576) (ho2 : w.ownsMap Tryz.prog 9 RV m2 n2 (dec m.rs)) :
    Calls Tryz.prog 31 #[.pointer (some ⟨d, 0, none⟩), .agg #[.int .i64 p.k, .string p.b, .int .i64 p.s, .slice (some ⟨b5, 0, none⟩) p.ws.length p.ws.length, .string p.h, .string p.c, .int .i64 p.t]] w fun e w' => e = .returned (.tuple #[]) ∧ Deck w' d #[.string m.nm, .bool m.up, .int .i64 m.ck, .bool m.kn, .int .i64 m.se, .slice x1 t1 c1, .slice x2 t2 c2, .slice x3 t3 c3, .slice x4 t4 c4, .map (some m1), .map (some m2), .map (some m3), .map (some m4)] m1 m2 m3 m4 m.ws (prolR m.qs p m.rs) m.qs m.gs ∧ Ex m2 w w' := by
  have HD : Hid (Deck w d #[.string m.nm, .bool m.up, .int .i64 m.ck, .bool m.kn, .int .i64 m.se, .slice x1 t1 c1, .slice x2 t2 c2, .slice x3 t3 c3, .slice x4 t4 c4, .map (some m1), .map (some m2), .map (some m3), .map (some m4)] m1 m2 m3 m4 m.ws m.rs m.qs m.gs) := hD
  have HP : Hid p.fits := hp
  have Hb0 : Hid (Below w.heap.size w (w.alloc (.cells #[.int .i64 p.k, .string p.b, .int .i64 p.s, .slice (some ⟨b5, 0, none⟩) p.ws.length p.ws.length, .string p.h, .string p.c, .int .i64 p.t] 39))) := bl_alloc (Below.refl _ _) _
  have D0 : Hid (Deck (w.alloc (.cells #[.int .i64 p.k, .string p.b, .int .i64 p.s, .slice (some ⟨b5, 0, none⟩) p.ws.length p.ws.length, .string p.h, .string p.c, .int .i64 p.t] 39)) d #[.string m.nm, .bool m.up, .int .i64 m.ck, .bool m.kn, .int .i64 m.se, .slice x1 t1 c1, .slice x2 t2 c2, .slice x3 t3 c3, .slice x4 t4 c4, .map (some m1), .map (some m2), .map (some m3), .map (some m4)] m1 m2 m3 m4 m.ws m.rs m.qs m.gs) := hD.keep Hb0.out
  have Hs2 : Hid (Srt m.rs) := s2
  have Hs3 : Hid (A.Srt m.qs) := s3
  have kc := hD.c
  have kf := hD.f
  have kl := hD.l
  have hph := hp.h
  have hpc := hp.c
  have HV : Hid _ := hv
  clear hD hp s2 s3 hv
  obtain ⟨n3, o3⟩ := D0.out.o3
  have O3 : Hid ((w.alloc (.cells #[.int .i64 p.k, .string p.b, .int .i64 p.s, .slice (some ⟨b5, 0, none⟩) p.ws.length p.ws.length, .string p.h, .string p.c, .int .i64 p.t] 39)).ownsMap Tryz.prog 9 A.RV m3 n3 (A.dec m.qs)) := o3
  have o2 := mapv_below ho2 Hb0.out
  have O2 : Hid ((w.alloc (.cells #[.int .i64 p.k, .string p.b, .int .i64 p.s, .slice (some ⟨b5, 0, none⟩) p.ws.length p.ws.length, .string p.h, .string p.c, .int .i64 p.t] 39)).ownsMap Tryz.prog 9 RV m2 n2 (dec m.rs)) := o2
  clear o3 o2 ho2
  have hask : (∃ a ∈ m.qs, a.h = p.h) ∨ (∀ a ∈ m.qs, a.h ≠ p.h) := by
    by_cases h : ∃ a ∈ m.qs, a.h = p.h
    · exact Or.inl h
    · exact Or.inr (fun a ha e => h ⟨a, ha, e⟩)
  rcases hask with ⟨a, ha, hah⟩ | hno
  · obtain ⟨pk, pb, ps, pw, ph, pc, pt⟩ := p
    simp only at *
    subst hah
    have Ha : Hid (a ∈ m.qs) := ha
    obtain ⟨hv0, hv1⟩ := HV.out a ha
    clear ha
    have KP : Hid (∀ y, Below (w.alloc (.cells #[.int .i64 pk, .string pb, .int .i64 ps, .slice (some ⟨b5, 0, none⟩) pw.length pw.length, .string a.h, .string pc, .int .i64 pt] 39)).heap.size (w.alloc (.cells #[.int .i64 pk, .string pb, .int .i64 ps, .slice (some ⟨b5, 0, none⟩) pw.length pw.length, .string a.h, .string pc, .int .i64 pt] 39)) y → Below (w.alloc (.cells #[.int .i64 pk, .string pb, .int .i64 ps, .slice (some ⟨b5, 0, none⟩) pw.length pw.length, .string a.h, .string pc, .int .i64 pt] 39)).heap.size (w.alloc (.cells #[.int .i64 pk, .string pb, .int .i64 ps, .slice (some ⟨b5, 0, none⟩) pw.length pw.length, .string a.h, .string pc, .int .i64 pt] 39)) y ∧ (y.cell? ⟨d, 11, none⟩ = some (.map (some m3)) ∧ y.cell? ⟨w.heap.size, 4, none⟩ = some (.string a.h) ∧ Sem.run Tryz.prog (Instr.lookup 100 (.map (some m3)) (.string a.h) true) y = .ok (.tuple #[.agg #[.string a.h, .string a.c, .int .i64 a.f, .int .i64 a.t], .bool true]) y)) := fun y hb => by
      have Dy := D0.out.keep hb
      refine ⟨hb, Dy.c 11, ?_, A.lookV_yes m3 n3 m.qs (A.mapv_below O3.out hb) Hs3.out a Ha.out hph⟩
      rw [box_keep hb 4]; simp [go_sem]
    go_enter Tryz.func31, Tryz.ntmps31
    go_wp2_with fail
    refine wp_region_noPanic ?_
    refine wp_region_held_drew (S := (fun y => Below (w.alloc (.cells #[.int .i64 pk, .string pb, .int .i64 ps, .slice (some ⟨b5, 0, none⟩) pw.length pw.length, .string a.h, .string pc, .int .i64 pt] 39)).heap.size (w.alloc (.cells #[.int .i64 pk, .string pb, .int .i64 ps, .slice (some ⟨b5, 0, none⟩) pw.length pw.length, .string a.h, .string pc, .int .i64 pt] 39)) y ∧ (y.cell? ⟨d, 11, none⟩ = some (.map (some m3)) ∧ y.cell? ⟨w.heap.size, 4, none⟩ = some (.string a.h) ∧ Sem.run Tryz.prog (Instr.lookup 100 (.map (some m3)) (.string a.h) true) y = .ok (.tuple #[.agg #[.string a.h, .string a.c, .int .i64 a.f, .int .i64 a.t], .bool true]) y))) (by kernel_rfl) (KP.out _ (bl_drew (Below.refl _ _))) (fun hHeld => ?_)
    refine wpAnyH_take (i := 0) (v := ?vx1) rfl (by kernel_rfl) (by kernel_rfl) (by kernel_rfl) (fun _ _ _ h => h) (Or.inl ⟨by rfl, ?hx1⟩) (by assumption) ?rx1
    case hx1 => (intro w hSw; (try dsimp only at hSw); go_simp; try (with_reducible rfl))
    try simp only [Act.put, List.setIfInBounds_toArray, List.set_cons_zero, List.set_cons_succ, List.getElem_toArray, List.getElem_cons_zero]
    refine wpAnyH_take (i := 1) (v := ?vx2) rfl (by kernel_rfl) (by kernel_rfl) (by kernel_rfl) (fun _ _ _ h => h) (Or.inl ⟨by rfl, ?hx2⟩) (by assumption) ?rx2
    case hx2 => (intro w hSw; (try dsimp only at hSw); go_simp; try (with_reducible rfl))
    try simp only [Act.put, List.setIfInBounds_toArray, List.set_cons_zero, List.set_cons_succ, List.getElem_toArray, List.getElem_cons_zero, List.getElem_cons_succ]
    refine wpAnyH_take (i := 2) (v := ?vx3) rfl (by kernel_rfl) (by kernel_rfl) (by kernel_rfl) (fun _ _ _ h => h) (Or.inl ⟨by rfl, ?hx3⟩) (by assumption) ?rx3
    case hx3 => (intro w hSw; (try dsimp only at hSw); go_simp; try (with_reducible rfl))
    try simp only [Act.put, List.setIfInBounds_toArray, List.set_cons_zero, List.set_cons_succ, List.getElem_toArray, List.getElem_cons_zero, List.getElem_cons_succ]
    refine wpAnyH_take (i := 3) (v := ?vx4) rfl (by kernel_rfl) (by kernel_rfl) (by kernel_rfl) (fun _ _ _ h => h) (Or.inl ⟨by rfl, ?hx4⟩) (by assumption) ?rx4
    case hx4 => (intro w hSw; (try dsimp only at hSw); go_simp; try (with_reducible rfl))
    try simp only [Act.put, List.setIfInBounds_toArray, List.set_cons_zero, List.set_cons_succ, List.getElem_toArray, List.getElem_cons_zero, List.getElem_cons_succ]
    refine wpAnyH_take (i := 4) (v := ?vx5) rfl (by kernel_rfl) (by kernel_rfl) (by kernel_rfl) (fun _ _ _ h => h) (Or.inl ⟨by rfl, ?hx5⟩) (by assumption) ?rx5
    case hx5 => (intro w hSw; (try dsimp only at hSw); go_simp; try (with_reducible rfl))
    try simp only [Act.put, List.setIfInBounds_toArray, List.set_cons_zero, List.set_cons_succ, List.getElem_toArray, List.getElem_cons_zero, List.getElem_cons_succ]
    refine wpAnyH_take (i := 5) (v := ?vx6) rfl (by kernel_rfl) (by kernel_rfl) (by kernel_rfl) (fun _ _ _ h => h) (Or.inl ⟨by rfl, ?hx6⟩) (by assumption) ?rx6
    case hx6 => (intro w hSw; (try dsimp only at hSw); go_simp; try (with_reducible rfl))
    try simp only [Act.put, List.setIfInBounds_toArray, List.set_cons_zero, List.set_cons_succ, List.getElem_toArray, List.getElem_cons_zero, List.getElem_cons_succ]
    refine wpAnyH_take (i := 6) (v := ?vx7) rfl (by kernel_rfl) (by kernel_rfl) (by kernel_rfl) (fun _ _ _ h => h) (Or.inl ⟨by rfl, ?hx7⟩) (by assumption) ?rx7
    case hx7 => (intro w hSw; (try dsimp only at hSw); go_simp; try (with_reducible rfl))
    try simp only [Act.put, List.setIfInBounds_toArray, List.set_cons_zero, List.set_cons_succ, List.getElem_toArray, List.getElem_cons_zero, List.getElem_cons_succ]
    refine wpAnyH_take (i := 7) (v := ?vx8) rfl (by kernel_rfl) (by kernel_rfl) (by kernel_rfl) (fun _ _ _ h => h) (Or.inl ⟨by rfl, ?hx8⟩) (by assumption) ?rx8
    case hx8 => (intro w hSw; (try dsimp only at hSw); go_simp; try (with_reducible rfl))
    try simp only [Act.put, List.setIfInBounds_toArray, List.set_cons_zero, List.set_cons_succ, List.getElem_toArray, List.getElem_cons_zero, List.getElem_cons_succ]
    refine wpAnyH_take (i := 8) (v := ?vx9) rfl (by kernel_rfl) (by kernel_rfl) (by kernel_rfl) (fun _ _ _ h => h) (Or.inl ⟨by rfl, ?hx9⟩) (by assumption) ?rx9
    case hx9 => (intro w hSw; (try dsimp only at hSw); go_simp; try (with_reducible rfl))
    try simp only [Act.put, List.setIfInBounds_toArray, List.set_cons_zero, List.set_cons_succ, List.getElem_toArray, List.getElem_cons_zero, List.getElem_cons_succ]
    refine wpAnyH_take (i := 9) (v := ?vx10) rfl (by kernel_rfl) (by kernel_rfl) (by kernel_rfl) (fun _ _ _ h => h) (Or.inl ⟨by rfl, ?hx10⟩) (by assumption) ?rx10
    case hx10 => (intro w hSw; (try dsimp only at hSw); go_simp; try (with_reducible rfl))
    try simp only [Act.put, List.setIfInBounds_toArray, List.set_cons_zero, List.set_cons_succ, List.getElem_toArray, List.getElem_cons_zero, List.getElem_cons_succ]
    refine wpAnyH_ready (rs := [10]) (by kernel_rfl) (by simp) ?_
    refine AllReadyH.cons rfl (fun K hK => ?_) AllReadyH.nil
    go_simp
    refine hK.out _ _ (KP.out _ (bl_alloc (bl_drew (Below.refl _ _)) _)) (fun hHeld1 => ?_)
    clear hK K hHeld
    try simp only [Act.put, List.setIfInBounds_toArray, List.set_cons_zero, List.set_cons_succ, List.getElem_toArray, List.getElem_cons_zero, List.getElem_cons_succ]
    refine wpAnyH_ready (rs := [11]) (by kernel_rfl) (by simp) ?_
    refine AllReadyH.cons rfl (fun K hK => ?_) AllReadyH.nil
    go_simp
    refine hK.out _ _ (KP.out _ (bl_drew (bl_alloc (Below.refl _ _) _))) (fun hHeld2 => ?_)
    clear hK K hHeld1
    try simp only [Act.put, List.setIfInBounds_toArray, List.set_cons_zero, List.set_cons_succ, List.getElem_toArray, List.getElem_cons_zero, List.getElem_cons_succ]
    refine wpAnyH_take (i := 12) (v := ?vx11) rfl (by kernel_rfl) (by kernel_rfl) (by kernel_rfl) (fun _ _ _ h => h) (Or.inl ⟨by rfl, ?hx11⟩) (by assumption) ?rx11
    case hx11 => (intro w hSw; (try dsimp only at hSw); go_simp; try (with_reducible rfl))
    try simp only [Act.put, List.setIfInBounds_toArray, List.set_cons_zero, List.set_cons_succ, List.getElem_toArray, List.getElem_cons_zero, List.getElem_cons_succ]
    refine wpAnyH_done (by kernel_rfl) ?_ _
    refine NoPanic.normal ?_
    clear hHeld2
    cases hcc : (a.c.toList == pc.toList)
    · go_wp2_with fail
      exact bodyPost_ret (v := .tuple #[]) (by simp [results, Tryz.results31, go_sem]) rfl ⟨rfl, by rw [prolR_no (fun h => by have := ((lease_iff Hs3.out Ha.out).1 h).1; simp [this] at hcc)]; exact HD.out.keep (by repeat (first | exact Below.refl _ _ | with_reducible refine bl_drew ?_ | refine bl_alloc ?_ _)), Ex.of_below (by repeat (first | exact Below.refl _ _ | with_reducible refine bl_drew ?_ | refine bl_alloc ?_ _))⟩
    cases hin : inB pt a.f a.t
    · go_wp2_with (go_at_call 70; refine (within_any _ _ _ _).mono ?_; rintro e w' ⟨rfl, rfl⟩)
      exact bodyPost_ret (v := .tuple #[]) (by simp [results, Tryz.results31, go_sem]) rfl ⟨rfl, by rw [prolR_no (fun h => by have := ((lease_iff Hs3.out Ha.out).1 h).2; rw [hin] at this; cases this)]; exact HD.out.keep (by repeat (first | exact Below.refl _ _ | with_reducible refine bl_drew ?_ | refine bl_alloc ?_ _)), Ex.of_below (by repeat (first | exact Below.refl _ _ | with_reducible refine bl_drew ?_ | refine bl_alloc ?_ _))⟩
    have hcc' : a.c.toList = pc.toList := by simpa using hcc
    have HY : Hid (LeaseOk m.qs a.h pc pt) := (lease_iff Hs3.out Ha.out).2 ⟨hcc', hin⟩
    clear hcc'
    have hpt : 0 ≤ pt ∧ pt ≤ 1000000 := by simp [inB] at hin; omega
    have BX2 : Hid (Below (w.alloc (.cells #[.int .i64 pk, .string pb, .int .i64 ps, .slice (some ⟨b5, 0, none⟩) pw.length pw.length, .string a.h, .string pc, .int .i64 pt] 39)).heap.size (w.alloc (.cells #[.int .i64 pk, .string pb, .int .i64 ps, .slice (some ⟨b5, 0, none⟩) pw.length pw.length, .string a.h, .string pc, .int .i64 pt] 39)) (World.drew ((w.alloc (.cells #[.int .i64 pk, .string pb, .int .i64 ps, .slice (some ⟨b5, 0, none⟩) pw.length pw.length, .string a.h, .string pc, .int .i64 pt] 39)).alloc (.cells #[.string a.h, .string a.c, .int .i64 a.f, .int .i64 a.t] 55)))) := bl_drew (bl_alloc (Below.refl _ _) _)
    have hrun : (∃ r ∈ m.rs, r.c = pc) ∨ (∀ r ∈ m.rs, r.c ≠ pc) := by
      by_cases h : ∃ r ∈ m.rs, r.c = pc
      · exact Or.inl h
      · exact Or.inr (fun r hr e => h ⟨r, hr, e⟩)
    rcases hrun with ⟨r, hr, hrc⟩ | hno
    · subst hrc
      have Hr : Hid (r ∈ m.rs) := hr
      clear hr
      have KQ : Hid (∀ y, Below (World.drew ((w.alloc (.cells #[.int .i64 pk, .string pb, .int .i64 ps, .slice (some ⟨b5, 0, none⟩) pw.length pw.length, .string a.h, .string r.c, .int .i64 pt] 39)).alloc (.cells #[.string a.h, .string a.c, .int .i64 a.f, .int .i64 a.t] 55))).heap.size (World.drew ((w.alloc (.cells #[.int .i64 pk, .string pb, .int .i64 ps, .slice (some ⟨b5, 0, none⟩) pw.length pw.length, .string a.h, .string r.c, .int .i64 pt] 39)).alloc (.cells #[.string a.h, .string a.c, .int .i64 a.f, .int .i64 a.t] 55))) y → Below (World.drew ((w.alloc (.cells #[.int .i64 pk, .string pb, .int .i64 ps, .slice (some ⟨b5, 0, none⟩) pw.length pw.length, .string a.h, .string r.c, .int .i64 pt] 39)).alloc (.cells #[.string a.h, .string a.c, .int .i64 a.f, .int .i64 a.t] 55))).heap.size (World.drew ((w.alloc (.cells #[.int .i64 pk, .string pb, .int .i64 ps, .slice (some ⟨b5, 0, none⟩) pw.length pw.length, .string a.h, .string r.c, .int .i64 pt] 39)).alloc (.cells #[.string a.h, .string a.c, .int .i64 a.f, .int .i64 a.t] 55))) y ∧ (y.cell? ⟨d, 10, none⟩ = some (.map (some m2)) ∧ y.cell? ⟨w.heap.size, 5, none⟩ = some (.string r.c) ∧ Sem.run Tryz.prog (Instr.lookup 97 (.map (some m2)) (.string r.c) true) y = .ok (.tuple #[.agg #[.string r.c, .int .i64 r.v, .string r.h, .int .i64 r.p, .int .i64 r.s, .int .i64 r.d, .int .i64 r.g, .int .i64 r.a, .int .i64 r.b, .int .i64 r.i, .int .i64 r.u], .bool true]) y)) := fun y hb => by
        have hb1 := bl_trans BX2.out hb
        have Dy := D0.out.keep hb1
        refine ⟨hb, Dy.c 10, ?_, lookV_yes m2 n2 m.rs (mapv_below O2.out hb1) Hs2.out r Hr.out hpc⟩
        rw [box_keep hb1 5]; simp [go_sem]
      go_wp2_with (go_at_call 70; refine (within_any _ _ _ _).mono ?_; rintro e w' ⟨rfl, rfl⟩)
      refine wp_region_noPanic ?_
      refine wp_region_held_drew (S := (fun y => Below (World.drew ((w.alloc (.cells #[.int .i64 pk, .string pb, .int .i64 ps, .slice (some ⟨b5, 0, none⟩) pw.length pw.length, .string a.h, .string r.c, .int .i64 pt] 39)).alloc (.cells #[.string a.h, .string a.c, .int .i64 a.f, .int .i64 a.t] 55))).heap.size (World.drew ((w.alloc (.cells #[.int .i64 pk, .string pb, .int .i64 ps, .slice (some ⟨b5, 0, none⟩) pw.length pw.length, .string a.h, .string r.c, .int .i64 pt] 39)).alloc (.cells #[.string a.h, .string a.c, .int .i64 a.f, .int .i64 a.t] 55))) y ∧ (y.cell? ⟨d, 10, none⟩ = some (.map (some m2)) ∧ y.cell? ⟨w.heap.size, 5, none⟩ = some (.string r.c) ∧ Sem.run Tryz.prog (Instr.lookup 97 (.map (some m2)) (.string r.c) true) y = .ok (.tuple #[.agg #[.string r.c, .int .i64 r.v, .string r.h, .int .i64 r.p, .int .i64 r.s, .int .i64 r.d, .int .i64 r.g, .int .i64 r.a, .int .i64 r.b, .int .i64 r.i, .int .i64 r.u], .bool true]) y))) (by kernel_rfl) (KQ.out _ (bl_drew (Below.refl _ _))) (fun hHeld => ?_)
      refine wpAnyH_take (i := 0) (v := ?vx12) rfl (by kernel_rfl) (by kernel_rfl) (by kernel_rfl) (fun _ _ _ h => h) (Or.inl ⟨by rfl, ?hx12⟩) (by assumption) ?rx12
      case hx12 => (intro w hSw; (try dsimp only at hSw); go_simp; try (with_reducible rfl))
      try simp only [Act.put, List.setIfInBounds_toArray, List.set_cons_zero, List.set_cons_succ, List.getElem_toArray, List.getElem_cons_zero]
      refine wpAnyH_take (i := 1) (v := ?vx13) rfl (by kernel_rfl) (by kernel_rfl) (by kernel_rfl) (fun _ _ _ h => h) (Or.inl ⟨by rfl, ?hx13⟩) (by assumption) ?rx13
      case hx13 => (intro w hSw; (try dsimp only at hSw); go_simp; try (with_reducible rfl))
      try simp only [Act.put, List.setIfInBounds_toArray, List.set_cons_zero, List.set_cons_succ, List.getElem_toArray, List.getElem_cons_zero, List.getElem_cons_succ]
      refine wpAnyH_take (i := 2) (v := ?vx14) rfl (by kernel_rfl) (by kernel_rfl) (by kernel_rfl) (fun _ _ _ h => h) (Or.inl ⟨by rfl, ?hx14⟩) (by assumption) ?rx14
      case hx14 => (intro w hSw; (try dsimp only at hSw); go_simp; try (with_reducible rfl))
      try simp only [Act.put, List.setIfInBounds_toArray, List.set_cons_zero, List.set_cons_succ, List.getElem_toArray, List.getElem_cons_zero, List.getElem_cons_succ]
      refine wpAnyH_take (i := 3) (v := ?vx15) rfl (by kernel_rfl) (by kernel_rfl) (by kernel_rfl) (fun _ _ _ h => h) (Or.inl ⟨by rfl, ?hx15⟩) (by assumption) ?rx15
      case hx15 => (intro w hSw; (try dsimp only at hSw); go_simp; try (with_reducible rfl))
      try simp only [Act.put, List.setIfInBounds_toArray, List.set_cons_zero, List.set_cons_succ, List.getElem_toArray, List.getElem_cons_zero, List.getElem_cons_succ]
      refine wpAnyH_take (i := 4) (v := ?vx16) rfl (by kernel_rfl) (by kernel_rfl) (by kernel_rfl) (fun _ _ _ h => h) (Or.inl ⟨by rfl, ?hx16⟩) (by assumption) ?rx16
      case hx16 => (intro w hSw; (try dsimp only at hSw); go_simp; try (with_reducible rfl))
      try simp only [Act.put, List.setIfInBounds_toArray, List.set_cons_zero, List.set_cons_succ, List.getElem_toArray, List.getElem_cons_zero, List.getElem_cons_succ]
      refine wpAnyH_take (i := 5) (v := ?vx17) rfl (by kernel_rfl) (by kernel_rfl) (by kernel_rfl) (fun _ _ _ h => h) (Or.inl ⟨by rfl, ?hx17⟩) (by assumption) ?rx17
      case hx17 => (intro w hSw; (try dsimp only at hSw); go_simp; try (with_reducible rfl))
      try simp only [Act.put, List.setIfInBounds_toArray, List.set_cons_zero, List.set_cons_succ, List.getElem_toArray, List.getElem_cons_zero, List.getElem_cons_succ]
      refine wpAnyH_take (i := 6) (v := ?vx18) rfl (by kernel_rfl) (by kernel_rfl) (by kernel_rfl) (fun _ _ _ h => h) (Or.inl ⟨by rfl, ?hx18⟩) (by assumption) ?rx18
      case hx18 => (intro w hSw; (try dsimp only at hSw); go_simp; try (with_reducible rfl))
      try simp only [Act.put, List.setIfInBounds_toArray, List.set_cons_zero, List.set_cons_succ, List.getElem_toArray, List.getElem_cons_zero, List.getElem_cons_succ]
      refine wpAnyH_take (i := 7) (v := ?vx19) rfl (by kernel_rfl) (by kernel_rfl) (by kernel_rfl) (fun _ _ _ h => h) (Or.inl ⟨by rfl, ?hx19⟩) (by assumption) ?rx19
      case hx19 => (intro w hSw; (try dsimp only at hSw); go_simp; try (with_reducible rfl))
      try simp only [Act.put, List.setIfInBounds_toArray, List.set_cons_zero, List.set_cons_succ, List.getElem_toArray, List.getElem_cons_zero, List.getElem_cons_succ]
      refine wpAnyH_take (i := 8) (v := ?vx20) rfl (by kernel_rfl) (by kernel_rfl) (by kernel_rfl) (fun _ _ _ h => h) (Or.inl ⟨by rfl, ?hx20⟩) (by assumption) ?rx20
      case hx20 => (intro w hSw; (try dsimp only at hSw); go_simp; try (with_reducible rfl))
      try simp only [Act.put, List.setIfInBounds_toArray, List.set_cons_zero, List.set_cons_succ, List.getElem_toArray, List.getElem_cons_zero, List.getElem_cons_succ]
      refine wpAnyH_take (i := 9) (v := ?vx21) rfl (by kernel_rfl) (by kernel_rfl) (by kernel_rfl) (fun _ _ _ h => h) (Or.inl ⟨by rfl, ?hx21⟩) (by assumption) ?rx21
      case hx21 => (intro w hSw; (try dsimp only at hSw); go_simp; try (with_reducible rfl))
      try simp only [Act.put, List.setIfInBounds_toArray, List.set_cons_zero, List.set_cons_succ, List.getElem_toArray, List.getElem_cons_zero, List.getElem_cons_succ]
      refine wpAnyH_ready (rs := [10]) (by kernel_rfl) (by simp) ?_
      refine AllReadyH.cons rfl (fun K hK => ?_) AllReadyH.nil
      go_simp
      refine hK.out _ _ (KQ.out _ (bl_alloc (bl_drew (Below.refl _ _)) _)) (fun hHeld1 => ?_)
      clear hK K hHeld
      try simp only [Act.put, List.setIfInBounds_toArray, List.set_cons_zero, List.set_cons_succ, List.getElem_toArray, List.getElem_cons_zero, List.getElem_cons_succ]
      refine wpAnyH_ready (rs := [11]) (by kernel_rfl) (by simp) ?_
      refine AllReadyH.cons rfl (fun K hK => ?_) AllReadyH.nil
      go_simp
      refine hK.out _ _ (KQ.out _ (bl_drew (bl_alloc (Below.refl _ _) _))) (fun hHeld2 => ?_)
      clear hK K hHeld1
      try simp only [Act.put, List.setIfInBounds_toArray, List.set_cons_zero, List.set_cons_succ, List.getElem_toArray, List.getElem_cons_zero, List.getElem_cons_succ]
      refine wpAnyH_take (i := 12) (v := ?vx22) rfl (by kernel_rfl) (by kernel_rfl) (by kernel_rfl) (fun _ _ _ h => h) (Or.inl ⟨by rfl, ?hx22⟩) (by assumption) ?rx22
      case hx22 => (intro w hSw; (try dsimp only at hSw); go_simp; try (with_reducible rfl))
      try simp only [Act.put, List.setIfInBounds_toArray, List.set_cons_zero, List.set_cons_succ, List.getElem_toArray, List.getElem_cons_zero, List.getElem_cons_succ]
      refine wpAnyH_done (by kernel_rfl) ?_ _
      refine NoPanic.normal ?_
      clear hHeld2
      cases hhh : (r.h.toList == a.h.toList)
      · go_wp2_with fail
        exact bodyPost_end (v := .tuple #[]) (by simp [results, Tryz.results31, go_sem]) rfl ⟨rfl, by rw [prolR_yes HY.out, bump_all (fun q hq e1 e2 _ => by have := run_same Hs2.out hq Hr.out e2; subst this; simp only at e1; simp [e1] at hhh)]; exact HD.out.keep (by repeat (first | exact Below.refl _ _ | with_reducible refine bl_drew ?_ | refine bl_alloc ?_ _)), Ex.of_below (by repeat (first | exact Below.refl _ _ | with_reducible refine bl_drew ?_ | refine bl_alloc ?_ _))⟩
      have iw : IntKind.i64.wrap (pt + 16) = pt + 16 := by rw [IntKind.wrap_i64]; omega
      by_cases hu : r.u < pt + 16
      · have bx4 : Below w.heap.size w (World.drew (World.drew ((((w.alloc (.cells #[.int .i64 pk, .string pb, .int .i64 ps, .slice (some ⟨b5, 0, none⟩) pw.length pw.length, .string a.h, .string r.c, .int .i64 pt] 39)).alloc (.cells #[.string a.h, .string a.c, .int .i64 a.f, .int .i64 a.t] 55)).alloc (.cells #[.string r.c, .int .i64 r.v, .string r.h, .int .i64 r.p, .int .i64 r.s, .int .i64 r.d, .int .i64 r.g, .int .i64 r.a, .int .i64 r.b, .int .i64 r.i, .int .i64 (pt + 16)] 59))))) := (by repeat (first | exact Below.refl _ _ | with_reducible refine bl_drew ?_ | refine bl_alloc ?_ _))
        have BX4 : Hid (Below w.heap.size w (World.drew (World.drew ((((w.alloc (.cells #[.int .i64 pk, .string pb, .int .i64 ps, .slice (some ⟨b5, 0, none⟩) pw.length pw.length, .string a.h, .string r.c, .int .i64 pt] 39)).alloc (.cells #[.string a.h, .string a.c, .int .i64 a.f, .int .i64 a.t] 55)).alloc (.cells #[.string r.c, .int .i64 r.v, .string r.h, .int .i64 r.p, .int .i64 r.s, .int .i64 r.d, .int .i64 r.g, .int .i64 r.a, .int .i64 r.b, .int .i64 r.i, .int .i64 (pt + 16)] 59)))))) := bx4
        clear bx4
        have hdm : d ≠ m2 := by omega
        have hwm : w.heap.size ≠ m2 := by omega
        have hwm2 : w.heap.size + 1 + 1 ≠ m2 := by omega
        have D4 : Hid (Deck (World.drew (World.drew ((((w.alloc (.cells #[.int .i64 pk, .string pb, .int .i64 ps, .slice (some ⟨b5, 0, none⟩) pw.length pw.length, .string a.h, .string r.c, .int .i64 pt] 39)).alloc (.cells #[.string a.h, .string a.c, .int .i64 a.f, .int .i64 a.t] 55)).alloc (.cells #[.string r.c, .int .i64 r.v, .string r.h, .int .i64 r.p, .int .i64 r.s, .int .i64 r.d, .int .i64 r.g, .int .i64 r.a, .int .i64 r.b, .int .i64 r.i, .int .i64 (pt + 16)] 59))))) d #[.string m.nm, .bool m.up, .int .i64 m.ck, .bool m.kn, .int .i64 m.se, .slice x1 t1 c1, .slice x2 t2 c2, .slice x3 t3 c3, .slice x4 t4 c4, .map (some m1), .map (some m2), .map (some m3), .map (some m4)] m1 m2 m3 m4 m.ws m.rs m.qs m.gs) := HD.out.keep BX4.out
        have O4 : Hid ((World.drew (World.drew ((((w.alloc (.cells #[.int .i64 pk, .string pb, .int .i64 ps, .slice (some ⟨b5, 0, none⟩) pw.length pw.length, .string a.h, .string r.c, .int .i64 pt] 39)).alloc (.cells #[.string a.h, .string a.c, .int .i64 a.f, .int .i64 a.t] 55)).alloc (.cells #[.string r.c, .int .i64 r.v, .string r.h, .int .i64 r.p, .int .i64 r.s, .int .i64 r.d, .int .i64 r.g, .int .i64 r.a, .int .i64 r.b, .int .i64 r.i, .int .i64 (pt + 16)] 59))))).ownsMap Tryz.prog 9 RV m2 n2 (dec m.rs)) := mapv_below O2.out (by repeat (first | exact Below.refl _ _ | with_reducible refine bl_drew ?_ | refine bl_alloc ?_ _))
        have KR : Hid (∀ y, Below (World.drew (World.drew ((((w.alloc (.cells #[.int .i64 pk, .string pb, .int .i64 ps, .slice (some ⟨b5, 0, none⟩) pw.length pw.length, .string a.h, .string r.c, .int .i64 pt] 39)).alloc (.cells #[.string a.h, .string a.c, .int .i64 a.f, .int .i64 a.t] 55)).alloc (.cells #[.string r.c, .int .i64 r.v, .string r.h, .int .i64 r.p, .int .i64 r.s, .int .i64 r.d, .int .i64 r.g, .int .i64 r.a, .int .i64 r.b, .int .i64 r.i, .int .i64 (pt + 16)] 59))))).heap.size (World.drew (World.drew ((((w.alloc (.cells #[.int .i64 pk, .string pb, .int .i64 ps, .slice (some ⟨b5, 0, none⟩) pw.length pw.length, .string a.h, .string r.c, .int .i64 pt] 39)).alloc (.cells #[.string a.h, .string a.c, .int .i64 a.f, .int .i64 a.t] 55)).alloc (.cells #[.string r.c, .int .i64 r.v, .string r.h, .int .i64 r.p, .int .i64 r.s, .int .i64 r.d, .int .i64 r.g, .int .i64 r.a, .int .i64 r.b, .int .i64 r.i, .int .i64 (pt + 16)] 59))))) y → (y.cell? ⟨d, 10, none⟩ = some (.map (some m2)) ∧ y.cell? ⟨w.heap.size, 5, none⟩ = some (.string r.c) ∧ (y.cell? ⟨w.heap.size + 1 + 1, 0, none⟩ = some (.string r.c) ∧ y.cell? ⟨w.heap.size + 1 + 1, 1, none⟩ = some (.int .i64 r.v) ∧ y.cell? ⟨w.heap.size + 1 + 1, 2, none⟩ = some (.string r.h) ∧ y.cell? ⟨w.heap.size + 1 + 1, 3, none⟩ = some (.int .i64 r.p) ∧ y.cell? ⟨w.heap.size + 1 + 1, 4, none⟩ = some (.int .i64 r.s) ∧ y.cell? ⟨w.heap.size + 1 + 1, 5, none⟩ = some (.int .i64 r.d) ∧ y.cell? ⟨w.heap.size + 1 + 1, 6, none⟩ = some (.int .i64 r.g) ∧ y.cell? ⟨w.heap.size + 1 + 1, 7, none⟩ = some (.int .i64 r.a) ∧ y.cell? ⟨w.heap.size + 1 + 1, 8, none⟩ = some (.int .i64 r.b) ∧ y.cell? ⟨w.heap.size + 1 + 1, 9, none⟩ = some (.int .i64 r.i) ∧ y.cell? ⟨w.heap.size + 1 + 1, 10, none⟩ = some (.int .i64 (pt + 16))))) := fun y hb => by
          have Dy := D4.out.keep hb
          refine ⟨Dy.c 10, ?_, ?_⟩
          · rw [hb.cell (p := ⟨w.heap.size, 5, none⟩) (by simp; omega)]; simp [go_sem, World.cell?_alloc_past]
          · refine ⟨?_, ?_, ?_, ?_, ?_, ?_, ?_, ?_, ?_, ?_, ?_⟩ <;> (rw [hb.cell (by simp)]; simp [go_sem])
        go_wp2_with fail
        refine wp_region_noPanic ?_
        refine wp_region_held_drew (S := (fun y => y.cell? ⟨d, 10, none⟩ = some (.map (some m2)) ∧ y.cell? ⟨w.heap.size, 5, none⟩ = some (.string r.c) ∧ (y.cell? ⟨w.heap.size + 1 + 1, 0, none⟩ = some (.string r.c) ∧ y.cell? ⟨w.heap.size + 1 + 1, 1, none⟩ = some (.int .i64 r.v) ∧ y.cell? ⟨w.heap.size + 1 + 1, 2, none⟩ = some (.string r.h) ∧ y.cell? ⟨w.heap.size + 1 + 1, 3, none⟩ = some (.int .i64 r.p) ∧ y.cell? ⟨w.heap.size + 1 + 1, 4, none⟩ = some (.int .i64 r.s) ∧ y.cell? ⟨w.heap.size + 1 + 1, 5, none⟩ = some (.int .i64 r.d) ∧ y.cell? ⟨w.heap.size + 1 + 1, 6, none⟩ = some (.int .i64 r.g) ∧ y.cell? ⟨w.heap.size + 1 + 1, 7, none⟩ = some (.int .i64 r.a) ∧ y.cell? ⟨w.heap.size + 1 + 1, 8, none⟩ = some (.int .i64 r.b) ∧ y.cell? ⟨w.heap.size + 1 + 1, 9, none⟩ = some (.int .i64 r.i) ∧ y.cell? ⟨w.heap.size + 1 + 1, 10, none⟩ = some (.int .i64 (pt + 16))))) (by kernel_rfl) (KR.out _ (bl_drew (Below.refl _ _))) (fun hHeld => ?_)
        refine wpAnyH_take (i := 0) (v := ?vx23) rfl (by kernel_rfl) (by kernel_rfl) (by kernel_rfl) (fun _ _ _ h => h) (Or.inl ⟨by rfl, ?hx23⟩) (by assumption) ?rx23
        case hx23 => (intro w hSw; (try dsimp only at hSw); go_simp; try (with_reducible rfl))
        try simp only [Act.put, List.setIfInBounds_toArray, List.set_cons_zero, List.set_cons_succ, List.getElem_toArray, List.getElem_cons_zero]
        refine wpAnyH_take (i := 1) (v := ?vx24) rfl (by kernel_rfl) (by kernel_rfl) (by kernel_rfl) (fun _ _ _ h => h) (Or.inl ⟨by rfl, ?hx24⟩) (by assumption) ?rx24
        case hx24 => (intro w hSw; (try dsimp only at hSw); go_simp; try (with_reducible rfl))
        try simp only [Act.put, List.setIfInBounds_toArray, List.set_cons_zero, List.set_cons_succ, List.getElem_toArray, List.getElem_cons_zero, List.getElem_cons_succ]
        refine wpAnyH_take (i := 2) (v := ?vx25) rfl (by kernel_rfl) (by kernel_rfl) (by kernel_rfl) (fun _ _ _ h => h) (Or.inl ⟨by rfl, ?hx25⟩) (by assumption) ?rx25
        case hx25 => (intro w hSw; (try dsimp only at hSw); go_simp; try (with_reducible rfl))
        try simp only [Act.put, List.setIfInBounds_toArray, List.set_cons_zero, List.set_cons_succ, List.getElem_toArray, List.getElem_cons_zero, List.getElem_cons_succ]
        refine wpAnyH_take (i := 3) (v := ?vx26) rfl (by kernel_rfl) (by kernel_rfl) (by kernel_rfl) (fun _ _ _ h => h) (Or.inl ⟨by rfl, ?hx26⟩) (by assumption) ?rx26
        case hx26 => (intro w hSw; (try dsimp only at hSw); go_simp; try (with_reducible rfl))
        try simp only [Act.put, List.setIfInBounds_toArray, List.set_cons_zero, List.set_cons_succ, List.getElem_toArray, List.getElem_cons_zero, List.getElem_cons_succ]
        refine wpAnyH_take (i := 4) (v := ?vx27) rfl (by kernel_rfl) (by kernel_rfl) (by kernel_rfl) (fun _ _ _ h => h) (Or.inl ⟨by rfl, ?hx27⟩) (by assumption) ?rx27
        case hx27 => (intro w hSw; (try dsimp only at hSw); go_simp; try (with_reducible rfl))
        try simp only [Act.put, List.setIfInBounds_toArray, List.set_cons_zero, List.set_cons_succ, List.getElem_toArray, List.getElem_cons_zero, List.getElem_cons_succ]
        refine wpAnyH_take (i := 5) (v := ?vx28) rfl (by kernel_rfl) (by kernel_rfl) (by kernel_rfl) (fun _ _ _ h => h) (Or.inl ⟨by rfl, ?hx28⟩) (by assumption) ?rx28
        case hx28 => (intro w hSw; (try dsimp only at hSw); go_simp; try (with_reducible rfl))
        try simp only [Act.put, List.setIfInBounds_toArray, List.set_cons_zero, List.set_cons_succ, List.getElem_toArray, List.getElem_cons_zero, List.getElem_cons_succ]
        refine wpAnyH_take (i := 6) (v := ?vx29) rfl (by kernel_rfl) (by kernel_rfl) (by kernel_rfl) (fun _ _ _ h => h) (Or.inl ⟨by rfl, ?hx29⟩) (by assumption) ?rx29
        case hx29 => (intro w hSw; (try dsimp only at hSw); go_simp; try (with_reducible rfl))
        try simp only [Act.put, List.setIfInBounds_toArray, List.set_cons_zero, List.set_cons_succ, List.getElem_toArray, List.getElem_cons_zero, List.getElem_cons_succ]
        have hms := mapv_step m2 n2 m.rs { r with u := pt + 16 } (mapv_below O4.out (bl_drew (Below.refl _ _))) (by unfold maxLen; omega) hpc
        obtain ⟨w5, hru5, ho5, hg5⟩ := hms
        refine wpAnyH_ready (rs := [7]) (by kernel_rfl) (by simp) ?_
        refine AllReadyH.cons rfl (fun K hK => ?_) AllReadyH.nil
        go_simp
        have hS := KR.out _ (bl_drew (Below.refl _ _))
        refine hK.out _ _ ⟨hg5.cell hS.1 (by simpa using hdm), hg5.cell hS.2.1 (by simpa using hwm), hg5.cell hS.2.2.1 (by simpa using hwm2), hg5.cell hS.2.2.2.1 (by simpa using hwm2), hg5.cell hS.2.2.2.2.1 (by simpa using hwm2), hg5.cell hS.2.2.2.2.2.1 (by simpa using hwm2), hg5.cell hS.2.2.2.2.2.2.1 (by simpa using hwm2), hg5.cell hS.2.2.2.2.2.2.2.1 (by simpa using hwm2), hg5.cell hS.2.2.2.2.2.2.2.2.1 (by simpa using hwm2), hg5.cell hS.2.2.2.2.2.2.2.2.2.1 (by simpa using hwm2), hg5.cell hS.2.2.2.2.2.2.2.2.2.2.1 (by simpa using hwm2), hg5.cell hS.2.2.2.2.2.2.2.2.2.2.2.1 (by simpa using hwm2), hg5.cell hS.2.2.2.2.2.2.2.2.2.2.2.2 (by simpa using hwm2)⟩ (fun hHeld1 => ?_)
        clear hK K hHeld hS
        try simp only [Act.put, List.setIfInBounds_toArray, List.set_cons_zero, List.set_cons_succ, List.getElem_toArray, List.getElem_cons_zero, List.getElem_cons_succ]
        refine wpAnyH_done (by kernel_rfl) ?_ _
        refine NoPanic.normal ?_
        clear hHeld1
        have E5 : Hid (Ex m2 w w5) := Ex.trans (Ex.of_below (bl_trans BX4.out (bl_drew (Below.refl _ _)))) (Ex.of_grown hg5)
        have O5 : Hid (w5.ownsMap Tryz.prog 9 RV m2 (n2 + 1) (dec (Ord.ins keyV { r with u := pt + 16 } m.rs))) := ho5
        clear hg5 ho5 hru5
        go_wp2
        exact bodyPost_end (v := .tuple #[]) (by simp [results, Tryz.results31, go_sem]) rfl ⟨rfl, by
          rw [prolR_yes HY.out, ← bump_ins Hs2.out Hr.out (by simpa using hhh) hu]
          have h := HD.out
          obtain ⟨q1, p1⟩ := h.o1
          obtain ⟨q3, p3⟩ := h.o3
          obtain ⟨q4, p4⟩ := h.o4
          exact ⟨fun k => (E5.out.cell (p := ⟨d, k, none⟩) h.l (by show d ≠ m2; omega)).trans (h.c k), fun k => (E5.out.frozen (p := ⟨d, k, none⟩) h.l (by show d ≠ m2; omega)).trans (h.f k), Nat.lt_of_lt_of_le h.l E5.out.size, ⟨q1, mapv_ex p1 E5.out (by omega)⟩, ⟨_, O5.out⟩, ⟨q3, mapv_ex p3 E5.out (by omega)⟩, ⟨q4, mapv_ex p4 E5.out (by omega)⟩⟩, E5.out⟩
      · have Hu : Hid _ := hu
        have hu' : pt + 16 ≤ r.u := by omega
        clear hu
        go_wp2_with fail
        exact bodyPost_end (v := .tuple #[]) (by simp [results, Tryz.results31, go_sem]) rfl ⟨rfl, by rw [prolR_yes HY.out, bump_all (fun q hq e1 e2 h => by have := run_same Hs2.out hq Hr.out e2; subst this; exact Hu.out h)]; exact HD.out.keep (by repeat (first | exact Below.refl _ _ | with_reducible refine bl_drew ?_ | refine bl_alloc ?_ _)), Ex.of_below (by repeat (first | exact Below.refl _ _ | with_reducible refine bl_drew ?_ | refine bl_alloc ?_ _))⟩
    · have Hno : Hid (∀ r ∈ m.rs, r.c ≠ pc) := hno
      clear hno
      have KQ : Hid (∀ y, Below (World.drew ((w.alloc (.cells #[.int .i64 pk, .string pb, .int .i64 ps, .slice (some ⟨b5, 0, none⟩) pw.length pw.length, .string a.h, .string pc, .int .i64 pt] 39)).alloc (.cells #[.string a.h, .string a.c, .int .i64 a.f, .int .i64 a.t] 55))).heap.size (World.drew ((w.alloc (.cells #[.int .i64 pk, .string pb, .int .i64 ps, .slice (some ⟨b5, 0, none⟩) pw.length pw.length, .string a.h, .string pc, .int .i64 pt] 39)).alloc (.cells #[.string a.h, .string a.c, .int .i64 a.f, .int .i64 a.t] 55))) y → Below (World.drew ((w.alloc (.cells #[.int .i64 pk, .string pb, .int .i64 ps, .slice (some ⟨b5, 0, none⟩) pw.length pw.length, .string a.h, .string pc, .int .i64 pt] 39)).alloc (.cells #[.string a.h, .string a.c, .int .i64 a.f, .int .i64 a.t] 55))).heap.size (World.drew ((w.alloc (.cells #[.int .i64 pk, .string pb, .int .i64 ps, .slice (some ⟨b5, 0, none⟩) pw.length pw.length, .string a.h, .string pc, .int .i64 pt] 39)).alloc (.cells #[.string a.h, .string a.c, .int .i64 a.f, .int .i64 a.t] 55))) y ∧ (y.cell? ⟨d, 10, none⟩ = some (.map (some m2)) ∧ y.cell? ⟨w.heap.size, 5, none⟩ = some (.string pc) ∧ Sem.run Tryz.prog (Instr.lookup 97 (.map (some m2)) (.string pc) true) y = .ok (.tuple #[.agg #[.string ⟨#[]⟩, .int .i64 0, .string ⟨#[]⟩, .int .i64 0, .int .i64 0, .int .i64 0, .int .i64 0, .int .i64 0, .int .i64 0, .int .i64 0, .int .i64 0], .bool false]) y)) := fun y hb => by
        have hb1 := bl_trans BX2.out hb
        have Dy := D0.out.keep hb1
        refine ⟨hb, Dy.c 10, ?_, lookV_no m2 n2 m.rs (mapv_below O2.out hb1) Hs2.out pc hpc Hno.out⟩
        rw [box_keep hb1 5]; simp [go_sem]
      go_wp2_with (go_at_call 70; refine (within_any _ _ _ _).mono ?_; rintro e w' ⟨rfl, rfl⟩)
      refine wp_region_noPanic ?_
      refine wp_region_held_drew (S := (fun y => Below (World.drew ((w.alloc (.cells #[.int .i64 pk, .string pb, .int .i64 ps, .slice (some ⟨b5, 0, none⟩) pw.length pw.length, .string a.h, .string pc, .int .i64 pt] 39)).alloc (.cells #[.string a.h, .string a.c, .int .i64 a.f, .int .i64 a.t] 55))).heap.size (World.drew ((w.alloc (.cells #[.int .i64 pk, .string pb, .int .i64 ps, .slice (some ⟨b5, 0, none⟩) pw.length pw.length, .string a.h, .string pc, .int .i64 pt] 39)).alloc (.cells #[.string a.h, .string a.c, .int .i64 a.f, .int .i64 a.t] 55))) y ∧ (y.cell? ⟨d, 10, none⟩ = some (.map (some m2)) ∧ y.cell? ⟨w.heap.size, 5, none⟩ = some (.string pc) ∧ Sem.run Tryz.prog (Instr.lookup 97 (.map (some m2)) (.string pc) true) y = .ok (.tuple #[.agg #[.string ⟨#[]⟩, .int .i64 0, .string ⟨#[]⟩, .int .i64 0, .int .i64 0, .int .i64 0, .int .i64 0, .int .i64 0, .int .i64 0, .int .i64 0, .int .i64 0], .bool false]) y))) (by kernel_rfl) (KQ.out _ (bl_drew (Below.refl _ _))) (fun hHeld => ?_)
      refine wpAnyH_take (i := 0) (v := ?vx30) rfl (by kernel_rfl) (by kernel_rfl) (by kernel_rfl) (fun _ _ _ h => h) (Or.inl ⟨by rfl, ?hx30⟩) (by assumption) ?rx30
      case hx30 => (intro w hSw; (try dsimp only at hSw); go_simp; try (with_reducible rfl))
      try simp only [Act.put, List.setIfInBounds_toArray, List.set_cons_zero, List.set_cons_succ, List.getElem_toArray, List.getElem_cons_zero]
      refine wpAnyH_take (i := 1) (v := ?vx31) rfl (by kernel_rfl) (by kernel_rfl) (by kernel_rfl) (fun _ _ _ h => h) (Or.inl ⟨by rfl, ?hx31⟩) (by assumption) ?rx31
      case hx31 => (intro w hSw; (try dsimp only at hSw); go_simp; try (with_reducible rfl))
      try simp only [Act.put, List.setIfInBounds_toArray, List.set_cons_zero, List.set_cons_succ, List.getElem_toArray, List.getElem_cons_zero, List.getElem_cons_succ]
      refine wpAnyH_take (i := 2) (v := ?vx32) rfl (by kernel_rfl) (by kernel_rfl) (by kernel_rfl) (fun _ _ _ h => h) (Or.inl ⟨by rfl, ?hx32⟩) (by assumption) ?rx32
      case hx32 => (intro w hSw; (try dsimp only at hSw); go_simp; try (with_reducible rfl))
      try simp only [Act.put, List.setIfInBounds_toArray, List.set_cons_zero, List.set_cons_succ, List.getElem_toArray, List.getElem_cons_zero, List.getElem_cons_succ]
      refine wpAnyH_take (i := 3) (v := ?vx33) rfl (by kernel_rfl) (by kernel_rfl) (by kernel_rfl) (fun _ _ _ h => h) (Or.inl ⟨by rfl, ?hx33⟩) (by assumption) ?rx33
      case hx33 => (intro w hSw; (try dsimp only at hSw); go_simp; try (with_reducible rfl))
      try simp only [Act.put, List.setIfInBounds_toArray, List.set_cons_zero, List.set_cons_succ, List.getElem_toArray, List.getElem_cons_zero, List.getElem_cons_succ]
      refine wpAnyH_take (i := 4) (v := ?vx34) rfl (by kernel_rfl) (by kernel_rfl) (by kernel_rfl) (fun _ _ _ h => h) (Or.inl ⟨by rfl, ?hx34⟩) (by assumption) ?rx34
      case hx34 => (intro w hSw; (try dsimp only at hSw); go_simp; try (with_reducible rfl))
      try simp only [Act.put, List.setIfInBounds_toArray, List.set_cons_zero, List.set_cons_succ, List.getElem_toArray, List.getElem_cons_zero, List.getElem_cons_succ]
      refine wpAnyH_take (i := 5) (v := ?vx35) rfl (by kernel_rfl) (by kernel_rfl) (by kernel_rfl) (fun _ _ _ h => h) (Or.inl ⟨by rfl, ?hx35⟩) (by assumption) ?rx35
      case hx35 => (intro w hSw; (try dsimp only at hSw); go_simp; try (with_reducible rfl))
      try simp only [Act.put, List.setIfInBounds_toArray, List.set_cons_zero, List.set_cons_succ, List.getElem_toArray, List.getElem_cons_zero, List.getElem_cons_succ]
      refine wpAnyH_take (i := 6) (v := ?vx36) rfl (by kernel_rfl) (by kernel_rfl) (by kernel_rfl) (fun _ _ _ h => h) (Or.inl ⟨by rfl, ?hx36⟩) (by assumption) ?rx36
      case hx36 => (intro w hSw; (try dsimp only at hSw); go_simp; try (with_reducible rfl))
      try simp only [Act.put, List.setIfInBounds_toArray, List.set_cons_zero, List.set_cons_succ, List.getElem_toArray, List.getElem_cons_zero, List.getElem_cons_succ]
      refine wpAnyH_take (i := 7) (v := ?vx37) rfl (by kernel_rfl) (by kernel_rfl) (by kernel_rfl) (fun _ _ _ h => h) (Or.inl ⟨by rfl, ?hx37⟩) (by assumption) ?rx37
      case hx37 => (intro w hSw; (try dsimp only at hSw); go_simp; try (with_reducible rfl))
      try simp only [Act.put, List.setIfInBounds_toArray, List.set_cons_zero, List.set_cons_succ, List.getElem_toArray, List.getElem_cons_zero, List.getElem_cons_succ]
      refine wpAnyH_take (i := 8) (v := ?vx38) rfl (by kernel_rfl) (by kernel_rfl) (by kernel_rfl) (fun _ _ _ h => h) (Or.inl ⟨by rfl, ?hx38⟩) (by assumption) ?rx38
      case hx38 => (intro w hSw; (try dsimp only at hSw); go_simp; try (with_reducible rfl))
      try simp only [Act.put, List.setIfInBounds_toArray, List.set_cons_zero, List.set_cons_succ, List.getElem_toArray, List.getElem_cons_zero, List.getElem_cons_succ]
      refine wpAnyH_take (i := 9) (v := ?vx39) rfl (by kernel_rfl) (by kernel_rfl) (by kernel_rfl) (fun _ _ _ h => h) (Or.inl ⟨by rfl, ?hx39⟩) (by assumption) ?rx39
      case hx39 => (intro w hSw; (try dsimp only at hSw); go_simp; try (with_reducible rfl))
      try simp only [Act.put, List.setIfInBounds_toArray, List.set_cons_zero, List.set_cons_succ, List.getElem_toArray, List.getElem_cons_zero, List.getElem_cons_succ]
      refine wpAnyH_ready (rs := [10]) (by kernel_rfl) (by simp) ?_
      refine AllReadyH.cons rfl (fun K hK => ?_) AllReadyH.nil
      go_simp
      refine hK.out _ _ (KQ.out _ (bl_alloc (bl_drew (Below.refl _ _)) _)) (fun hHeld1 => ?_)
      clear hK K hHeld
      try simp only [Act.put, List.setIfInBounds_toArray, List.set_cons_zero, List.set_cons_succ, List.getElem_toArray, List.getElem_cons_zero, List.getElem_cons_succ]
      refine wpAnyH_ready (rs := [11]) (by kernel_rfl) (by simp) ?_
      refine AllReadyH.cons rfl (fun K hK => ?_) AllReadyH.nil
      go_simp
      refine hK.out _ _ (KQ.out _ (bl_drew (bl_alloc (Below.refl _ _) _))) (fun hHeld2 => ?_)
      clear hK K hHeld1
      try simp only [Act.put, List.setIfInBounds_toArray, List.set_cons_zero, List.set_cons_succ, List.getElem_toArray, List.getElem_cons_zero, List.getElem_cons_succ]
      refine wpAnyH_take (i := 12) (v := ?vx40) rfl (by kernel_rfl) (by kernel_rfl) (by kernel_rfl) (fun _ _ _ h => h) (Or.inl ⟨by rfl, ?hx40⟩) (by assumption) ?rx40
      case hx40 => (intro w hSw; (try dsimp only at hSw); go_simp; try (with_reducible rfl))
      try simp only [Act.put, List.setIfInBounds_toArray, List.set_cons_zero, List.set_cons_succ, List.getElem_toArray, List.getElem_cons_zero, List.getElem_cons_succ]
      refine wpAnyH_done (by kernel_rfl) ?_ _
      refine NoPanic.normal ?_
      clear hHeld2
      go_wp2_with fail
      exact bodyPost_end (v := .tuple #[]) (by simp [results, Tryz.results31, go_sem]) rfl ⟨rfl, by rw [prolR_yes HY.out, bump_all (fun q hq e1 e2 _ => absurd (Ord.ba_ext (by rw [← ByteArray.toList_eq, ← ByteArray.toList_eq]; exact e2)) (Hno.out q hq))]; exact HD.out.keep (by repeat (first | exact Below.refl _ _ | with_reducible refine bl_drew ?_ | refine bl_alloc ?_ _)), Ex.of_below (by repeat (first | exact Below.refl _ _ | with_reducible refine bl_drew ?_ | refine bl_alloc ?_ _))⟩
  · have Hno : Hid (∀ a ∈ m.qs, a.h ≠ p.h) := hno
    clear hno
    have KP : Hid (∀ y, Below (w.alloc (.cells #[.int .i64 p.k, .string p.b, .int .i64 p.s, .slice (some ⟨b5, 0, none⟩) p.ws.length p.ws.length, .string p.h, .string p.c, .int .i64 p.t] 39)).heap.size (w.alloc (.cells #[.int .i64 p.k, .string p.b, .int .i64 p.s, .slice (some ⟨b5, 0, none⟩) p.ws.length p.ws.length, .string p.h, .string p.c, .int .i64 p.t] 39)) y → Below (w.alloc (.cells #[.int .i64 p.k, .string p.b, .int .i64 p.s, .slice (some ⟨b5, 0, none⟩) p.ws.length p.ws.length, .string p.h, .string p.c, .int .i64 p.t] 39)).heap.size (w.alloc (.cells #[.int .i64 p.k, .string p.b, .int .i64 p.s, .slice (some ⟨b5, 0, none⟩) p.ws.length p.ws.length, .string p.h, .string p.c, .int .i64 p.t] 39)) y ∧ (y.cell? ⟨d, 11, none⟩ = some (.map (some m3)) ∧ y.cell? ⟨w.heap.size, 4, none⟩ = some (.string p.h) ∧ Sem.run Tryz.prog (Instr.lookup 100 (.map (some m3)) (.string p.h) true) y = .ok (.tuple #[.agg #[.string ⟨#[]⟩, .string ⟨#[]⟩, .int .i64 0, .int .i64 0], .bool false]) y)) := fun y hb => by
      have Dy := D0.out.keep hb
      refine ⟨hb, Dy.c 11, ?_, A.lookV_no m3 n3 m.qs (A.mapv_below O3.out hb) Hs3.out p.h hph Hno.out⟩
      rw [box_keep hb 4]; simp [go_sem]
    go_enter Tryz.func31, Tryz.ntmps31
    go_wp2_with fail
    refine wp_region_noPanic ?_
    refine wp_region_held_drew (S := (fun y => Below (w.alloc (.cells #[.int .i64 p.k, .string p.b, .int .i64 p.s, .slice (some ⟨b5, 0, none⟩) p.ws.length p.ws.length, .string p.h, .string p.c, .int .i64 p.t] 39)).heap.size (w.alloc (.cells #[.int .i64 p.k, .string p.b, .int .i64 p.s, .slice (some ⟨b5, 0, none⟩) p.ws.length p.ws.length, .string p.h, .string p.c, .int .i64 p.t] 39)) y ∧ (y.cell? ⟨d, 11, none⟩ = some (.map (some m3)) ∧ y.cell? ⟨w.heap.size, 4, none⟩ = some (.string p.h) ∧ Sem.run Tryz.prog (Instr.lookup 100 (.map (some m3)) (.string p.h) true) y = .ok (.tuple #[.agg #[.string ⟨#[]⟩, .string ⟨#[]⟩, .int .i64 0, .int .i64 0], .bool false]) y))) (by kernel_rfl) (KP.out _ (bl_drew (Below.refl _ _))) (fun hHeld => ?_)
    refine wpAnyH_take (i := 0) (v := ?vx41) rfl (by kernel_rfl) (by kernel_rfl) (by kernel_rfl) (fun _ _ _ h => h) (Or.inl ⟨by rfl, ?hx41⟩) (by assumption) ?rx41
    case hx41 => (intro w hSw; (try dsimp only at hSw); go_simp; try (with_reducible rfl))
    try simp only [Act.put, List.setIfInBounds_toArray, List.set_cons_zero, List.set_cons_succ, List.getElem_toArray, List.getElem_cons_zero]
    refine wpAnyH_take (i := 1) (v := ?vx42) rfl (by kernel_rfl) (by kernel_rfl) (by kernel_rfl) (fun _ _ _ h => h) (Or.inl ⟨by rfl, ?hx42⟩) (by assumption) ?rx42
    case hx42 => (intro w hSw; (try dsimp only at hSw); go_simp; try (with_reducible rfl))
    try simp only [Act.put, List.setIfInBounds_toArray, List.set_cons_zero, List.set_cons_succ, List.getElem_toArray, List.getElem_cons_zero, List.getElem_cons_succ]
    refine wpAnyH_take (i := 2) (v := ?vx43) rfl (by kernel_rfl) (by kernel_rfl) (by kernel_rfl) (fun _ _ _ h => h) (Or.inl ⟨by rfl, ?hx43⟩) (by assumption) ?rx43
    case hx43 => (intro w hSw; (try dsimp only at hSw); go_simp; try (with_reducible rfl))
    try simp only [Act.put, List.setIfInBounds_toArray, List.set_cons_zero, List.set_cons_succ, List.getElem_toArray, List.getElem_cons_zero, List.getElem_cons_succ]
    refine wpAnyH_take (i := 3) (v := ?vx44) rfl (by kernel_rfl) (by kernel_rfl) (by kernel_rfl) (fun _ _ _ h => h) (Or.inl ⟨by rfl, ?hx44⟩) (by assumption) ?rx44
    case hx44 => (intro w hSw; (try dsimp only at hSw); go_simp; try (with_reducible rfl))
    try simp only [Act.put, List.setIfInBounds_toArray, List.set_cons_zero, List.set_cons_succ, List.getElem_toArray, List.getElem_cons_zero, List.getElem_cons_succ]
    refine wpAnyH_take (i := 4) (v := ?vx45) rfl (by kernel_rfl) (by kernel_rfl) (by kernel_rfl) (fun _ _ _ h => h) (Or.inl ⟨by rfl, ?hx45⟩) (by assumption) ?rx45
    case hx45 => (intro w hSw; (try dsimp only at hSw); go_simp; try (with_reducible rfl))
    try simp only [Act.put, List.setIfInBounds_toArray, List.set_cons_zero, List.set_cons_succ, List.getElem_toArray, List.getElem_cons_zero, List.getElem_cons_succ]
    refine wpAnyH_take (i := 5) (v := ?vx46) rfl (by kernel_rfl) (by kernel_rfl) (by kernel_rfl) (fun _ _ _ h => h) (Or.inl ⟨by rfl, ?hx46⟩) (by assumption) ?rx46
    case hx46 => (intro w hSw; (try dsimp only at hSw); go_simp; try (with_reducible rfl))
    try simp only [Act.put, List.setIfInBounds_toArray, List.set_cons_zero, List.set_cons_succ, List.getElem_toArray, List.getElem_cons_zero, List.getElem_cons_succ]
    refine wpAnyH_take (i := 6) (v := ?vx47) rfl (by kernel_rfl) (by kernel_rfl) (by kernel_rfl) (fun _ _ _ h => h) (Or.inl ⟨by rfl, ?hx47⟩) (by assumption) ?rx47
    case hx47 => (intro w hSw; (try dsimp only at hSw); go_simp; try (with_reducible rfl))
    try simp only [Act.put, List.setIfInBounds_toArray, List.set_cons_zero, List.set_cons_succ, List.getElem_toArray, List.getElem_cons_zero, List.getElem_cons_succ]
    refine wpAnyH_take (i := 7) (v := ?vx48) rfl (by kernel_rfl) (by kernel_rfl) (by kernel_rfl) (fun _ _ _ h => h) (Or.inl ⟨by rfl, ?hx48⟩) (by assumption) ?rx48
    case hx48 => (intro w hSw; (try dsimp only at hSw); go_simp; try (with_reducible rfl))
    try simp only [Act.put, List.setIfInBounds_toArray, List.set_cons_zero, List.set_cons_succ, List.getElem_toArray, List.getElem_cons_zero, List.getElem_cons_succ]
    refine wpAnyH_take (i := 8) (v := ?vx49) rfl (by kernel_rfl) (by kernel_rfl) (by kernel_rfl) (fun _ _ _ h => h) (Or.inl ⟨by rfl, ?hx49⟩) (by assumption) ?rx49
    case hx49 => (intro w hSw; (try dsimp only at hSw); go_simp; try (with_reducible rfl))
    try simp only [Act.put, List.setIfInBounds_toArray, List.set_cons_zero, List.set_cons_succ, List.getElem_toArray, List.getElem_cons_zero, List.getElem_cons_succ]
    refine wpAnyH_take (i := 9) (v := ?vx50) rfl (by kernel_rfl) (by kernel_rfl) (by kernel_rfl) (fun _ _ _ h => h) (Or.inl ⟨by rfl, ?hx50⟩) (by assumption) ?rx50
    case hx50 => (intro w hSw; (try dsimp only at hSw); go_simp; try (with_reducible rfl))
    try simp only [Act.put, List.setIfInBounds_toArray, List.set_cons_zero, List.set_cons_succ, List.getElem_toArray, List.getElem_cons_zero, List.getElem_cons_succ]
    refine wpAnyH_ready (rs := [10]) (by kernel_rfl) (by simp) ?_
    refine AllReadyH.cons rfl (fun K hK => ?_) AllReadyH.nil
    go_simp
    refine hK.out _ _ (KP.out _ (bl_alloc (bl_drew (Below.refl _ _)) _)) (fun hHeld1 => ?_)
    clear hK K hHeld
    try simp only [Act.put, List.setIfInBounds_toArray, List.set_cons_zero, List.set_cons_succ, List.getElem_toArray, List.getElem_cons_zero, List.getElem_cons_succ]
    refine wpAnyH_ready (rs := [11]) (by kernel_rfl) (by simp) ?_
    refine AllReadyH.cons rfl (fun K hK => ?_) AllReadyH.nil
    go_simp
    refine hK.out _ _ (KP.out _ (bl_drew (bl_alloc (Below.refl _ _) _))) (fun hHeld2 => ?_)
    clear hK K hHeld1
    try simp only [Act.put, List.setIfInBounds_toArray, List.set_cons_zero, List.set_cons_succ, List.getElem_toArray, List.getElem_cons_zero, List.getElem_cons_succ]
    refine wpAnyH_take (i := 12) (v := ?vx51) rfl (by kernel_rfl) (by kernel_rfl) (by kernel_rfl) (fun _ _ _ h => h) (Or.inl ⟨by rfl, ?hx51⟩) (by assumption) ?rx51
    case hx51 => (intro w hSw; (try dsimp only at hSw); go_simp; try (with_reducible rfl))
    try simp only [Act.put, List.setIfInBounds_toArray, List.set_cons_zero, List.set_cons_succ, List.getElem_toArray, List.getElem_cons_zero, List.getElem_cons_succ]
    refine wpAnyH_done (by kernel_rfl) ?_ _
    refine NoPanic.normal ?_
    clear hHeld2
    go_wp2_with fail
    exact bodyPost_ret (v := .tuple #[]) (by simp [results, Tryz.results31, go_sem]) rfl ⟨rfl, by rw [prolR_no (fun ⟨a, ha, e, _⟩ => Hno.out a ha e)]; exact HD.out.keep (by repeat (first | exact Below.refl _ _ | with_reducible refine bl_drew ?_ | refine bl_alloc ?_ _)), Ex.of_below (by repeat (first | exact Below.refl _ _ | with_reducible refine bl_drew ?_ | refine bl_alloc ?_ _))⟩
end Go.Proofs.YtiogkdafmgdbgaaGreat
