import Derived.Test.YtkebokkckmgloaaJ29
import Derived.Test.YtkebokkckmgloaaJ32
import Derived.Deep.RegionHeld3
import Derived.Maps.AppendAt
import Derived.Deep.DeepCutAuto
import Derived.Laws.Pointers
import Derived.StillTactics
/- A mate is drawn. -/
namespace Go.Proofs.Ytkebokkckmgloaa
open Go.RowKit
set_option linter.unusedVariables false

def StrN (v : Value) : Prop := ∃ x : ByteArray, v = .string x ∧ x.size = 1
def AskT (v : Value) : Prop := ∃ (h c : ByteArray) (t : Int), v = .agg #[.string h, .string c, .int .i64 0, .int .i64 t] ∧ h.size ≤ 20 ∧ c.size ≤ 20 ∧ -1000 ≤ t ∧ t ≤ 1000
def New4 (B : Nat) (w : World) (v : Value) : Prop := ∃ u, v = .pointer (some ⟨u, 0, none⟩) ∧ B ≤ u ∧ u < w.heap.size ∧ w.there u 0 4
theorem New4.keep {B kr : Nat} {w w' : World} {v : Value} (h : New4 B w v) (he : Ex kr w w') (hk : kr < B) : New4 B w' v := by
  obtain ⟨u, h1, h2, h3, h4⟩ := h
  exact ⟨u, h1, h2, Nat.lt_of_lt_of_le h3 he.size, there_ex h4 h3 he (by omega)⟩
def sl23 (i : Nat) : Nat := if i = 14 then 8 else 102 + i
theorem inj23 {i : Nat} (hi : i < 15) : ∀ j, j < 15 → sl23 j = sl23 i → j = i := by
  intro j hj h
  unfold sl23 at h
  split at h <;> split at h <;> omega
def arr23 : Array Value := #[.string { data := #[105, 112] }, .string { data := #[118, 111, 108] }, .string { data := #[118, 111, 108, 50] }]
theorem bld23 (w : World) : Sem.run Try.prog (Instr.buildSlice 158 3 #[(0, .string { data := #[105, 112] }), (1, .string { data := #[118, 111, 108] }), (2, .string { data := #[118, 111, 108, 50] })]) w = .ok (.slice (some ⟨w.heap.size, 0, none⟩) 3 3) (w.alloc (.cells arr23 9)) := build3s _ _ _ w
theorem wp_veil {P : Program} {o : Oper} {a : Act} {w : World} {I : Act → World → Prop} {Q : Exit → Act → World → Prop} (h : ∀ K : Act → World → Prop, Hid (∀ a w, I a w → K a w) → o.wp P a w K Q) : o.wp P a w I Q := h I (fun _ _ h => h)
def G23d (kr bm B k : Nat) (ck : Int) (w : World) : Nat → Value → Prop
  | 0, v => Lst Txt B bm 3 w v
  | 1, v => v = .int .i64 (k : Int)
  | 2, v => Cell Txt B bm w v
  | 3, v => Txt v
  | 4, v => v = .pointer (some ⟨kr, 0, none⟩)
  | 5, v => Num 0 3 v
  | 6, v => StrN v
  | 7, v => Txt v
  | 8, v => v = .pointer (some ⟨bm, 2, none⟩)
  | 9, v => v = .int .i64 ck
  | 10, v => v = .pointer (some ⟨kr, 0, none⟩)
  | 11, v => Num 0 11 v
  | 12, v => Num (-1000) 1000 v
  | 13, v => AskT v
  | 14, v => New4 B w v
  | _, _ => True
theorem G23d.keep {kr bm B k : Nat} {ck : Int} {w w' : World} (he : Ex kr w w') (hk : kr < B) : ∀ i v, G23d kr bm B k ck w i v → G23d kr bm B k ck w' i v
  | 0, _, h => Lst.keep h he hk
  | 1, _, h => h
  | 2, _, h => Cell.keep h he hk
  | 3, _, h => h
  | 4, _, h => h
  | 5, _, h => h
  | 6, _, h => h
  | 7, _, h => h
  | 8, _, h => h
  | 9, _, h => h
  | 10, _, h => h
  | 11, _, h => h
  | 12, _, h => h
  | 13, _, h => h
  | 14, _, h => New4.keep h he hk
  | _ + 15, _, h => h

set_option maxRecDepth 4000 in
set_option maxHeartbeats 8000000 in
theorem drawQ (kr : Nat) (q : Int) (w : World) (hr : Rq w kr q) (hq : q < 500000) :
    Calls Try.prog 121 #[.pointer (some ⟨kr, 0, none⟩)] w fun e w' => ∃ m s1 s2 s3 s4, e = .returned (.agg #[.string m.nm, .bool m.up, .int .i64 m.ck, .bool m.kn, .int .i64 m.se, s1, s2, s3, s4]) ∧ SlM w' m s1 s2 s3 s4 w.heap.size ∧ (m.up = true → Ow w' s2 m.rs w.heap.size) ∧ (∃ x1 n1, s1 = .slice x1 m.ws.length n1 ∧ m.ws.length ≤ n1) ∧ Drawn m ∧ Rq w' kr (q + 3000) ∧ Ex kr w w' := by
  have hkr := hr.lt
  have hinfo : (Try.prog.info? 27).map (·.size) = some 9 := by kernel_rfl
  have HR : Hid (Rq (w.alloc (.cells #[.string { data := #[] }, .bool false, .int .i64 0, .bool false, .int .i64 0, .slice none 0 0, .slice none 0 0, .slice none 0 0, .slice none 0 0] 27)) kr q) := hr.below (bl_alloc (Below.refl _ _) _)
  clear hr
  go_enter Try.func121, Try.ntmps121
  go_wp2_with fail
  refine (pickQ kr q 6 _ HR.out (by omega) (by omega) (by omega)).mono ?_
  rintro e w1 ⟨p6, rfl, p60', p61', r1, e1⟩
  have T1 : Hid (w1.there w.heap.size 0 9) := there_ex (there9 w 27) (by simp) e1 (by omega)
  have E1 : Hid (Ex kr w w1) := (Ex.of_below (bl_alloc (Below.refl _ _) _)).trans e1
  have z1 : w.heap.size < w1.heap.size := Nat.lt_of_lt_of_le (by simp) e1.size
  have R1 : Hid (Rq w1 kr (q + 1)) := r1
  clear r1 e1 HR
  go_wp2_with fail
  refine (pickQ kr _ 60 _ R1.out (by omega) (by omega) (by omega)).mono ?_
  rintro e w2 ⟨p60, rfl, p600, p601, r2, e2⟩
  have z2 : w.heap.size < w2.heap.size := Nat.lt_of_lt_of_le z1 e2.size
  have D2 : Hid (Dm w kr w2.heap.size (⟨{ data := #[97] }, decide (0 < p6), p60, false, 0, [], [], [], []⟩ : MateD) (.slice none 0 0) (.slice none 0 0) (.slice none 0 0) (.slice none 0 0) (q + 1 + 1) (w2.alloc (.cells #[.string { data := #[97] }, .bool (decide (0 < p6)), .int .i64 p60, .bool false, .int .i64 0, .slice none 0 0, .slice none 0 0, .slice none 0 0, .slice none 0 0] 27))) := dm_new (there_ex T1.out z1 e2 (by omega)) r2 (E1.out.trans e2) z2 hkr
  clear r2 e2 R1 E1 T1
  go_wp2_with fail
  refine (runsQ kr _ p60 _ D2.out.r (by omega) p600 (by omega)).mono ?_
  rintro e w3 ⟨rs, v, rfl, ho, hrl, hrs, r3, e3⟩
  obtain ⟨a2, c2, hs2⟩ := ownsShape ho
  subst hs2
  have D3 : Hid (Dm w kr w2.heap.size (⟨{ data := #[97] }, decide (0 < p6), p60, false, 0, [], [], [], []⟩ : MateD) (.slice none 0 0) (.slice none 0 0) (.slice none 0 0) (.slice none 0 0) (q + 1 + 1 + 500) w3) := D2.out.pick e3 r3
  have O3 : Hid (Ow w3 (.slice a2 rs.length c2) rs (w2.heap.size + 1)) := by have h := ho; rw [World.size_alloc] at h; exact h
  have HS : Hid (∀ x ∈ rs, Small x) := hrs
  clear ho r3 e3 D2 hrs
  have kb := D3.out.b
  have kf := D3.out.c
  have kz := D3.out.z
  obtain ⟨up, hup⟩ : ∃ up, decide (0 < p6) = up := ⟨_, rfl⟩
  have D4 : Hid (Dm w kr w2.heap.size (⟨{ data := #[97] }, decide (0 < p6), p60, false, 0, [], rs, [], []⟩ : MateD) (.slice none 0 0) (.slice a2 rs.length c2) (.slice none 0 0) (.slice none 0 0) (q + 1 + 1 + 500) (w3.setCell ⟨w2.heap.size, 6, none⟩ (.slice a2 rs.length c2))) := D3.out.set 6 (.slice a2 rs.length c2) (by omega) rfl ⟨W.Ow.nil _ _, O3.out, A.Ow.nil _ _, A.Ow.nil _ _, Or.inl rfl, Or.inl rfl, Or.inl rfl, dif_none _, dif_none _, Or.inl rfl⟩
  rw [hup] at D4 kb ⊢
  have HD : Hid (Drawn (⟨{ data := #[97] }, up, p60, false, 0, [], rs, [], []⟩ : MateD)) := ⟨(by show (⟨#[97]⟩ : ByteArray).size ≤ maxLen; unfold maxLen; decide), p600, (by show p60 ≤ 1000; omega), Nat.zero_le _, (fun x hx => by cases hx), hrl, HS.out, Nat.zero_le _, (fun x hx => by cases hx), Nat.zero_le _, (fun x hx => by cases hx)⟩
  clear D3 O3 HS
  cases up
  · have h6 : ¬ (0 < p6) := of_decide_eq_false hup
    clear hup
    -- the mate is down
    go_wp2_with fail
    clear kb kf kz
    have hS : (w3.setCell ⟨w2.heap.size, 6, none⟩ (.slice a2 rs.length c2)).cell? ⟨w2.heap.size, 0, none⟩ = some (.string { data := #[97] }) ∧ (w3.setCell ⟨w2.heap.size, 6, none⟩ (.slice a2 rs.length c2)).cell? ⟨w2.heap.size, 1, none⟩ = some (.bool false) ∧ (w3.setCell ⟨w2.heap.size, 6, none⟩ (.slice a2 rs.length c2)).cell? ⟨w2.heap.size, 2, none⟩ = some (.int .i64 p60) ∧ (w3.setCell ⟨w2.heap.size, 6, none⟩ (.slice a2 rs.length c2)).cell? ⟨w2.heap.size, 3, none⟩ = some (.bool false) ∧ (w3.setCell ⟨w2.heap.size, 6, none⟩ (.slice a2 rs.length c2)).cell? ⟨w2.heap.size, 4, none⟩ = some (.int .i64 0) ∧ (w3.setCell ⟨w2.heap.size, 6, none⟩ (.slice a2 rs.length c2)).cell? ⟨w2.heap.size, 5, none⟩ = some (.slice none 0 0) ∧ (w3.setCell ⟨w2.heap.size, 6, none⟩ (.slice a2 rs.length c2)).cell? ⟨w2.heap.size, 6, none⟩ = some (.slice a2 rs.length c2) ∧ (w3.setCell ⟨w2.heap.size, 6, none⟩ (.slice a2 rs.length c2)).cell? ⟨w2.heap.size, 7, none⟩ = some (.slice none 0 0) ∧ (w3.setCell ⟨w2.heap.size, 6, none⟩ (.slice a2 rs.length c2)).cell? ⟨w2.heap.size, 8, none⟩ = some (.slice none 0 0) := ⟨D4.out.b 0, D4.out.b 1, D4.out.b 2, D4.out.b 3, D4.out.b 4, D4.out.b 5, D4.out.b 6, D4.out.b 7, D4.out.b 8⟩
    refine wp_region_noPanic ?_
    refine wp_region_held_drew (S := (fun y => y.cell? ⟨w2.heap.size, 0, none⟩ = some (.string { data := #[97] }) ∧ y.cell? ⟨w2.heap.size, 1, none⟩ = some (.bool false) ∧ y.cell? ⟨w2.heap.size, 2, none⟩ = some (.int .i64 p60) ∧ y.cell? ⟨w2.heap.size, 3, none⟩ = some (.bool false) ∧ y.cell? ⟨w2.heap.size, 4, none⟩ = some (.int .i64 0) ∧ y.cell? ⟨w2.heap.size, 5, none⟩ = some (.slice none 0 0) ∧ y.cell? ⟨w2.heap.size, 6, none⟩ = some (.slice a2 rs.length c2) ∧ y.cell? ⟨w2.heap.size, 7, none⟩ = some (.slice none 0 0) ∧ y.cell? ⟨w2.heap.size, 8, none⟩ = some (.slice none 0 0))) (by kernel_rfl) (⟨(D4.out.below (bl_drew (Below.refl _ _))).b 0, (D4.out.below (bl_drew (Below.refl _ _))).b 1, (D4.out.below (bl_drew (Below.refl _ _))).b 2, (D4.out.below (bl_drew (Below.refl _ _))).b 3, (D4.out.below (bl_drew (Below.refl _ _))).b 4, (D4.out.below (bl_drew (Below.refl _ _))).b 5, (D4.out.below (bl_drew (Below.refl _ _))).b 6, (D4.out.below (bl_drew (Below.refl _ _))).b 7, (D4.out.below (bl_drew (Below.refl _ _))).b 8⟩) (fun hHeld => ?_)
    clear hS
    refine wpAnyH_take (i := 0) (v := ?vx1) rfl (by kernel_rfl) (by kernel_rfl) (by kernel_rfl) (fun _ _ _ h => h) (Or.inl ⟨by rfl, ?hx1⟩) (by assumption) ?rx1
    case hx1 => (intro w hSw; (try dsimp only at hSw); go_simp; try (with_reducible rfl))
    try simp only [Act.put, List.setIfInBounds_toArray, List.set_cons_zero, List.set_cons_succ, List.getElem_toArray, List.getElem_cons_zero]
    refine wpAnyH_take (i := 1) (v := ?vx2) rfl (by kernel_rfl) (by kernel_rfl) (by kernel_rfl) (fun _ _ _ h => h) (Or.inl ⟨by rfl, ?hx2⟩) (by assumption) ?rx2
    case hx2 => (intro w hSw; (try dsimp only at hSw); go_simp; try (with_reducible rfl))
    try simp only [Act.put, List.setIfInBounds_toArray, List.set_cons_zero, List.set_cons_succ, List.getElem_toArray, List.getElem_cons_zero, List.getElem_cons_succ]
    refine wpAnyH_ready (rs := [2]) (by kernel_rfl) (by simp) ?_
    refine AllReadyH.cons rfl (fun K hK => ?_) AllReadyH.nil
    go_simp
    refine (pickQ kr _ 3 _ (D4.out.below (bl_drew (Below.refl _ _))).r (by omega) (by omega) (by omega)).mono ?_
    rintro e y1 ⟨p3, rfl, p30, p31, r5, e5⟩
    have D5 : Hid (Dm w kr w2.heap.size (⟨{ data := #[97] }, false, p60, false, 0, [], rs, [], []⟩ : MateD) (.slice none 0 0) (.slice a2 rs.length c2) (.slice none 0 0) (.slice none 0 0) (q + 1 + 1 + 500 + 1) y1) := (D4.out.below (bl_drew (Below.refl _ _))).pick e5 r5
    clear r5 e5
    go_wp2_with fail
    refine hK.out _ _ (⟨D5.out.b 0, D5.out.b 1, D5.out.b 2, D5.out.b 3, D5.out.b 4, D5.out.b 5, D5.out.b 6, D5.out.b 7, D5.out.b 8⟩) (fun hHeld1 => ?_)
    clear hK K hHeld
    try simp only [Act.put, List.setIfInBounds_toArray, List.set_cons_zero, List.set_cons_succ, List.getElem_toArray, List.getElem_cons_zero, List.getElem_cons_succ]
    refine wpAnyH_take (i := 3) (v := ?vx3) rfl (by kernel_rfl) (by kernel_rfl) (by kernel_rfl) (fun _ _ _ h => h) (Or.inl ⟨by rfl, ?hx3⟩) (by assumption) ?rx3
    case hx3 => (intro w hSw; (try dsimp only at hSw); go_simp; try (with_reducible rfl))
    try simp only [Act.put, List.setIfInBounds_toArray, List.set_cons_zero, List.set_cons_succ, List.getElem_toArray, List.getElem_cons_zero, List.getElem_cons_succ]
    obtain ⟨mach, hmach⟩ : ∃ mach, mach = (p3 == 0) := ⟨_, rfl⟩
    refine wpAnyH_ready (rs := [4]) (by kernel_rfl) (by simp) ?_
    refine AllReadyH.cons rfl (fun K hK => ?_) AllReadyH.nil
    go_simp
    rw [← hmach]
    refine (specFallX mach (⟨{ data := #[97] }, false, p60, false, 0, [], rs, [], []⟩ : MateD) none a2 none none 0 c2 0 0 _ ⟨(D5.out.l.a1.sl).src, (D5.out.l.a2.sl).src, (D5.out.l.a3.sl).src, (D5.out.l.a4.sl).src, Nat.zero_le _⟩ HD.out.fits).mono ?_
    rintro e y2 ⟨⟨r, v1, v2, v3, v4, rfl, hF, R⟩, b6⟩
    obtain ⟨t1, u1, hs1⟩ := W.Sl.shape R.a1
    subst hs1
    obtain ⟨t2, u2, hs2⟩ := Sl.shape R.a2
    subst hs2
    obtain ⟨t3, u3, hs3⟩ := A.Sl.shape R.a3
    subst hs3
    obtain ⟨t4, u4, hs4⟩ := A.Sl.shape R.a4
    subst hs4
    have D6 : Hid (Dm w kr w2.heap.size (⟨{ data := #[97] }, false, p60, false, 0, [], rs, [], []⟩ : MateD) (.slice none 0 0) (.slice a2 rs.length c2) (.slice none 0 0) (.slice none 0 0) (q + 1 + 1 + 500 + 1) y2) := D5.out.below b6
    have R6 : Hid (SlM y2 r (.slice t1 r.ws.length u1) (.slice t2 r.rs.length u2) (.slice t3 r.qs.length u3) (.slice t4 r.gs.length u4) y1.heap.size) := R
    have z6 : w2.heap.size < y1.heap.size := D5.out.z
    clear R b6 D5
    go_wp2_with fail
    refine hK.out _ _ (⟨D6.out.b 0, D6.out.b 1, D6.out.b 2, D6.out.b 3, D6.out.b 4, D6.out.b 5, D6.out.b 6, D6.out.b 7, D6.out.b 8⟩) (fun hHeld2 => ?_)
    clear hK K hHeld1
    try simp only [Act.put, List.setIfInBounds_toArray, List.set_cons_zero, List.set_cons_succ, List.getElem_toArray, List.getElem_cons_zero, List.getElem_cons_succ]
    have ho := ones r R6.out.a1 R6.out.a2 R6.out.a3 R6.out.a4
    refine wpAnyH_ready (rs := [5]) (by kernel_rfl) (by simp) ?_
    refine AllReadyH.cons rfl (fun K hK => ?_) AllReadyH.nil
    refine wanted_if (by rfl) ?_
    refine wp_store_mid 27 _ _ (by rfl) w.heap.size 0 #[.string r.nm, .bool r.up, .int .i64 r.ck, .bool r.kn, .int .i64 r.se, .slice t1 r.ws.length u1, .slice t2 r.rs.length u2, .slice t3 r.qs.length u3, .slice t4 r.gs.length u4] (by rfl) (by rfl) (by exact D6.out.d) hinfo (by exact all_oneCell_toArray ho) ?_
    have hE : Ex w.heap.size y2 (y2.setCells w.heap.size 0 [.string r.nm, .bool r.up, .int .i64 r.ck, .bool r.kn, .int .i64 r.se, .slice t1 r.ws.length u1, .slice t2 r.rs.length u2, .slice t3 r.qs.length u3, .slice t4 r.gs.length u4]) := (Ex.refl _ _).cells _ _
    have hzw := D6.out.zw
    refine hK.out _ _ (by have h := D6.out.b; exact ⟨(hE.cell (p := ⟨w2.heap.size, 0, none⟩) D6.out.z (by show w2.heap.size ≠ w.heap.size; omega)).trans (h 0), (hE.cell (p := ⟨w2.heap.size, 1, none⟩) D6.out.z (by show w2.heap.size ≠ w.heap.size; omega)).trans (h 1), (hE.cell (p := ⟨w2.heap.size, 2, none⟩) D6.out.z (by show w2.heap.size ≠ w.heap.size; omega)).trans (h 2), (hE.cell (p := ⟨w2.heap.size, 3, none⟩) D6.out.z (by show w2.heap.size ≠ w.heap.size; omega)).trans (h 3), (hE.cell (p := ⟨w2.heap.size, 4, none⟩) D6.out.z (by show w2.heap.size ≠ w.heap.size; omega)).trans (h 4), (hE.cell (p := ⟨w2.heap.size, 5, none⟩) D6.out.z (by show w2.heap.size ≠ w.heap.size; omega)).trans (h 5), (hE.cell (p := ⟨w2.heap.size, 6, none⟩) D6.out.z (by show w2.heap.size ≠ w.heap.size; omega)).trans (h 6), (hE.cell (p := ⟨w2.heap.size, 7, none⟩) D6.out.z (by show w2.heap.size ≠ w.heap.size; omega)).trans (h 7), (hE.cell (p := ⟨w2.heap.size, 8, none⟩) D6.out.z (by show w2.heap.size ≠ w.heap.size; omega)).trans (h 8)⟩) (fun hLast => ?_)
    clear hK K hHeld2 hLast
    refine wpAnyH_done (by kernel_rfl) ?_ _
    refine NoPanic.normal ?_
    have hrg := World.rangeAt_setCells_same y2 w.heap.size 0 [.string r.nm, .bool r.up, .int .i64 r.ck, .bool r.kn, .int .i64 r.se, .slice t1 r.ws.length u1, .slice t2 r.rs.length u2, .slice t3 r.qs.length u3, .slice t4 r.gs.length u4] D6.out.d
    have d0 := hrg 0 _ rfl
    have d1 := hrg 1 _ rfl
    have d2 := hrg 2 _ rfl
    have d3 := hrg 3 _ rfl
    have d4 := hrg 4 _ rfl
    have d5 := hrg 5 _ rfl
    have d6 := hrg 6 _ rfl
    have d7 := hrg 7 _ rfl
    have d8 := hrg 8 _ rfl
    simp only [Nat.zero_add] at d0 d1 d2 d3 d4 d5 d6 d7 d8
    go_wp2_with fail
    have hg : y2.grownBy (y2.setCells w.heap.size 0 [.string r.nm, .bool r.up, .int .i64 r.ck, .bool r.kn, .int .i64 r.se, .slice t1 r.ws.length u1, .slice t2 r.rs.length u2, .slice t3 r.qs.length u3, .slice t4 r.gs.length u4]) (some w.heap.size) := A.ex_grown hE
    exact bodyPost_ret (v := .agg #[.string r.nm, .bool r.up, .int .i64 r.ck, .bool r.kn, .int .i64 r.se, .slice t1 r.ws.length u1, .slice t2 r.rs.length u2, .slice t3 r.qs.length u3, .slice t4 r.gs.length u4]) (by simp [results, Try.results121, go_sem, d0, d1, d2, d3, d4, d5, d6, d7, d8]) rfl ⟨r, _, _, _, _, rfl, (R6.out.ex hE (by omega)).low (by omega), fun hu => absurd hu (by rcases hF with ⟨-, rfl⟩ | ⟨-, rfl⟩ <;> simp [fellD, zeroD]), ⟨_, _, rfl, by rcases hF with ⟨-, rfl⟩ | ⟨-, rfl⟩ <;> exact Nat.zero_le _⟩, drawn_fell HD.out hF, (D6.out.r.grown hg (fun k hk => by cases hk; omega)).up (by omega), D6.out.e.grown hg (fun k hk => by cases hk; exact Nat.le_refl _)⟩
  · have h6 : 0 < p6 := of_decide_eq_true hup
    clear hup
    go_wp2_with fail
    clear kb kf kz
    refine (pickQ kr _ 6 _ D4.out.r (by omega) (by omega) (by omega)).mono ?_
    rintro e w5 ⟨p, rfl, pp0, pp1, r5, e5⟩
    have D5 : Hid (Dm w kr w2.heap.size (⟨{ data := #[97] }, true, p60, false, 0, [], rs, [], []⟩ : MateD) (.slice none 0 0) (.slice a2 rs.length c2) (.slice none 0 0) (.slice none 0 0) (q + 1 + 1 + 500 + 1) w5) := D4.out.pick e5 r5
    have HS : Hid (∀ x ∈ rs, Small x) := HD.out.r2
    clear r5 e5 D4
    go_upto_if 31 with (fail)
    go_cut [] (fun wx => ∃ m s1 s2, Hid (Dm w kr w2.heap.size m s1 s2 (.slice none 0 0) (.slice none 0 0) (q + 800) wx) ∧ Hid (Drawn m) ∧ m.up = true ∧ m.qs = [] ∧ m.gs = [])
    case first =>
      by_cases hp : 0 < p
      · have kb := D5.out.b
        have kf := D5.out.c
        have kz := D5.out.z
        go_wp2_with fail
        clear kb kf kz
        have D6 : Hid (Dm w kr w2.heap.size (⟨{ data := #[97] }, true, p60, true, 0, [], rs, [], []⟩ : MateD) (.slice none 0 0) (.slice a2 rs.length c2) (.slice none 0 0) (.slice none 0 0) (q + 1 + 1 + 500 + 1) (w5.setCell ⟨w2.heap.size, 3, none⟩ (.bool true))) := D5.out.set 3 (.bool true) (by omega) rfl ⟨D5.out.l.a1, D5.out.l.a2, D5.out.l.a3, D5.out.l.a4, D5.out.l.d12, D5.out.l.d13, D5.out.l.d14, D5.out.l.d23, D5.out.l.d24, D5.out.l.d34⟩
        refine (pickQ kr _ 4 _ D6.out.r (by omega) (by omega) (by omega)).mono ?_
        rintro e w6 ⟨p4, rfl, p40, p41, r6, e6⟩
        have D7 : Hid (Dm w kr w2.heap.size (⟨{ data := #[97] }, true, p60, true, 0, [], rs, [], []⟩ : MateD) (.slice none 0 0) (.slice a2 rs.length c2) (.slice none 0 0) (.slice none 0 0) (q + 1 + 1 + 500 + 1 + 1) w6) := D6.out.pick e6 r6
        clear r6 e6 D6
        have kb := D7.out.b
        have kf := D7.out.c
        have kz := D7.out.z
        go_wp2_with fail
        clear kb kf kz
        have D8 : Hid (Dm w kr w2.heap.size (⟨{ data := #[97] }, true, p60, true, p4, [], rs, [], []⟩ : MateD) (.slice none 0 0) (.slice a2 rs.length c2) (.slice none 0 0) (.slice none 0 0) (q + 1 + 1 + 500 + 1 + 1) (w6.setCell ⟨w2.heap.size, 4, none⟩ (.int .i64 p4))) := D7.out.set 4 (.int .i64 p4) (by omega) rfl ⟨D7.out.l.a1, D7.out.l.a2, D7.out.l.a3, D7.out.l.a4, D7.out.l.d12, D7.out.l.d13, D7.out.l.d14, D7.out.l.d23, D7.out.l.d24, D7.out.l.d34⟩
        refine (wantsQ kr _ _ D8.out.r (by omega)).mono ?_
        rintro e w7 ⟨ws, v, rfl, ho, hwl, hwf, r7, e7⟩
        obtain ⟨a1, c1, hs1⟩ := ownsShape ho
        subst hs1
        have D9 : Hid (Dm w kr w2.heap.size (⟨{ data := #[97] }, true, p60, true, p4, [], rs, [], []⟩ : MateD) (.slice none 0 0) (.slice a2 rs.length c2) (.slice none 0 0) (.slice none 0 0) (q + 1 + 1 + 500 + 1 + 1 + 100) w7) := D8.out.pick e7 r7
        have O9 : Hid (W.Ow w7 (.slice a1 ws.length c1) ws (w6.setCell ⟨w2.heap.size, 4, none⟩ (.int .i64 p4)).heap.size) := ho
        have L9 : Hid (∀ j, (Value.slice a2 rs.length c2).ownBlock = some j → j < (w6.setCell ⟨w2.heap.size, 4, none⟩ (.int .i64 p4)).heap.size) := fun j hj => (D8.out.l.a2.lt j hj).2
        have z9 : w2.heap.size < (w6.setCell ⟨w2.heap.size, 4, none⟩ (.int .i64 p4)).heap.size := D8.out.z
        have HW : Hid (∀ x ∈ ws, x.fits) := hwf
        clear r7 e7 D8 D7 ho hwf D5
        have kb := D9.out.b
        have kf := D9.out.c
        have kz := D9.out.z
        go_wp2_with fail
        clear kb kf kz
        have DA : Hid (Dm w kr w2.heap.size (⟨{ data := #[97] }, true, p60, true, p4, ws, rs, [], []⟩ : MateD) (.slice a1 ws.length c1) (.slice a2 rs.length c2) (.slice none 0 0) (.slice none 0 0) (q + 608) (w7.setCell ⟨w2.heap.size, 5, none⟩ (.slice a1 ws.length c1))) := Dm.up (D9.out.set 5 (.slice a1 ws.length c1) (by omega) rfl ⟨O9.out.low (by omega), D9.out.l.a2, D9.out.l.a3, D9.out.l.a4, Dif.symm (dif_lt (fun g hg => L9.out g hg) (fun g hg => (O9.out.lt g hg).1) (Nat.le_refl _)), dif_none _, dif_none _, D9.out.l.d23, D9.out.l.d24, D9.out.l.d34⟩) (by omega)
        clear D9 O9 L9 z9
        go_loopw [4] (fun i wx => ∃ (k : Nat) (rs' : List RunD), k ≤ rs.length ∧ i = .int .i64 k ∧ rs'.length = rs.length ∧ Hid (∀ x ∈ rs', Small x) ∧ Hid (Dm w kr w2.heap.size (⟨{ data := #[97] }, true, p60, true, p4, ws, rs', [], []⟩ : MateD) (.slice a1 ws.length c1) (.slice a2 rs.length c2) (.slice none 0 0) (.slice none 0 0) (q + 608 + k) wx)) (fun i _ => rs.length - (intOf i).toNat)
        case atStart => exact ⟨0, rs, Nat.zero_le _, rfl, rfl, HS.out, DA.out.up (by omega)⟩
        case round =>
          obtain ⟨k, rs', hk, rfl, hrl', HS', HK⟩ := hrel
          have kb := HK.out.b
          by_cases hlt : k < rs.length
          · obtain ⟨g, cc, hv, hg1, hg2, hR, hth⟩ := HK.out.l.a2.blk (i := k) (by show k < rs'.length; omega)
            simp only [Value.slice.injEq] at hv
            obtain ⟨rfl, -, rfl⟩ := hv
            obtain ⟨r, hr⟩ : ∃ r, rs'[k]? = some r := ⟨rs'[k]'(by omega), List.getElem?_eq_getElem (by omega)⟩
            have Hr : Hid (rs'[k]? = some r) := hr
            go_upto_region 12 with (fail)
            have hinfoW : (Try.prog.info? 36).map (·.size) = some 7 := by kernel_rfl
            have cr0 : wr.cell? ⟨g, k * 11, none⟩ = some (.string r.c) := by have h := (hR.at hr).1; simpa using h
            have KS : Hid (∀ y, Below wr.heap.size wr y → (y.cell? ⟨w2.heap.size, 5, none⟩ = some (.slice a1 ws.length c1) ∧ y.cell? ⟨w2.heap.size, 6, none⟩ = some (.slice (some ⟨g, 0, none⟩) rs.length c2) ∧ y.cell? ⟨g, k * 11, none⟩ = some (.string r.c))) := fun y hb => ⟨(HK.out.below hb).b 5, (HK.out.below hb).b 6, (hb.cell (p := ⟨g, k * 11, none⟩) hg2).trans cr0⟩
            have i0 : (0 : Int) ≤ (k : Int) := by omega
            have i1 : (k : Int) < (rs.length : Int) := by omega
            clear cr0 kb
            go_cut [5, 6] (fun v5 v6 wx => ∃ (t : W.WantD) (b : Bool) (u : Nat), v5 = .pointer (some ⟨u, 0, none⟩) ∧ v6 = .bool b ∧ t.fits ∧ wr.heap.size ≤ u ∧ u < wx.heap.size ∧ wx.rangeAt u 0 [.string t.c, .int .i64 t.v, .string t.h, .int .i64 t.p, .int .i64 t.s, .int .i64 t.d, .int .i64 t.g] ∧ wx.there u 0 7 ∧ Below wr.heap.size wr wx)
            case first =>
              refine wp_region_noPanic ?_
              refine wp_region_held_drew (S := (fun y => (y.cell? ⟨w2.heap.size, 5, none⟩ = some (.slice a1 ws.length c1) ∧ y.cell? ⟨w2.heap.size, 6, none⟩ = some (.slice (some ⟨g, 0, none⟩) rs.length c2) ∧ y.cell? ⟨g, k * 11, none⟩ = some (.string r.c)))) (by kernel_rfl) (KS.out _ (bl_drew (Below.refl _ _))) (fun hHeld => ?_)
              refine wpAnyH_take (i := 0) (v := ?vx4) rfl (by kernel_rfl) (by kernel_rfl) (by kernel_rfl) (fun _ _ _ h => h) (Or.inl ⟨by rfl, ?hx4⟩) (by assumption) ?rx4
              case hx4 => (intro w hSw; (try dsimp only at hSw); go_simp; try (with_reducible rfl))
              try simp only [Act.put, List.setIfInBounds_toArray, List.set_cons_zero, List.set_cons_succ, List.getElem_toArray, List.getElem_cons_zero]
              refine wpAnyH_take (i := 1) (v := ?vx5) rfl (by kernel_rfl) (by kernel_rfl) (by kernel_rfl) (fun _ _ _ h => h) (Or.inl ⟨by rfl, ?hx5⟩) (by assumption) ?rx5
              case hx5 => (intro w hSw; (try dsimp only at hSw); go_simp; try (with_reducible rfl))
              try simp only [Act.put, List.setIfInBounds_toArray, List.set_cons_zero, List.set_cons_succ, List.getElem_toArray, List.getElem_cons_zero, List.getElem_cons_succ]
              refine wpAnyH_take (i := 2) (v := ?vx6) rfl (by kernel_rfl) (by kernel_rfl) (by kernel_rfl) (fun _ _ _ h => h) (Or.inl ⟨by rfl, ?hx6⟩) (by assumption) ?rx6
              case hx6 => (intro w hSw; (try dsimp only at hSw); go_simp; try (with_reducible rfl))
              try simp only [Act.put, List.setIfInBounds_toArray, List.set_cons_zero, List.set_cons_succ, List.getElem_toArray, List.getElem_cons_zero, List.getElem_cons_succ]
              refine wpAnyH_take (i := 3) (v := ?vx7) rfl (by kernel_rfl) (by kernel_rfl) (by kernel_rfl) (fun _ _ _ h => h) (Or.inl ⟨by rfl, ?hx7⟩) (by assumption) ?rx7
              case hx7 => (intro w hSw; (try dsimp only at hSw); go_simp; try (with_reducible rfl))
              try simp only [Act.put, List.setIfInBounds_toArray, List.set_cons_zero, List.set_cons_succ, List.getElem_toArray, List.getElem_cons_zero, List.getElem_cons_succ]
              refine wpAnyH_take (i := 4) (v := ?vx8) rfl (by kernel_rfl) (by kernel_rfl) (by kernel_rfl) (fun _ _ _ h => h) (Or.inl ⟨by rfl, ?hx8⟩) (by assumption) ?rx8
              case hx8 => (intro w hSw; (try dsimp only at hSw); go_simp; try (with_reducible rfl))
              try simp only [Act.put, List.setIfInBounds_toArray, List.set_cons_zero, List.set_cons_succ, List.getElem_toArray, List.getElem_cons_zero, List.getElem_cons_succ]
              refine wpAnyH_take (i := 5) (v := ?vx9) rfl (by kernel_rfl) (by kernel_rfl) (by kernel_rfl) (fun _ _ _ h => h) (Or.inl ⟨by rfl, ?hx9⟩) (by assumption) ?rx9
              case hx9 => (intro w hSw; (try dsimp only at hSw); go_simp; try (with_reducible rfl))
              try simp only [Act.put, List.setIfInBounds_toArray, List.set_cons_zero, List.set_cons_succ, List.getElem_toArray, List.getElem_cons_zero, List.getElem_cons_succ]
              refine wpAnyH_take (i := 6) (v := ?vx10) rfl (by kernel_rfl) (by kernel_rfl) (by kernel_rfl) (fun _ _ _ h => h) (Or.inl ⟨by rfl, ?hx10⟩) (by assumption) ?rx10
              case hx10 => (intro w hSw; (try dsimp only at hSw); go_simp; try (with_reducible rfl))
              try simp only [Act.put, List.setIfInBounds_toArray, List.set_cons_zero, List.set_cons_succ, List.getElem_toArray, List.getElem_cons_zero, List.getElem_cons_succ]
              refine wpAnyH_take (i := 7) (v := ?vx11) rfl (by kernel_rfl) (by kernel_rfl) (by kernel_rfl) (fun _ _ _ h => h) (Or.inl ⟨by rfl, ?hx11⟩) (by assumption) ?rx11
              case hx11 => (intro w hSw; (try dsimp only at hSw); go_simp; try (with_reducible rfl))
              try simp only [Act.put, List.setIfInBounds_toArray, List.set_cons_zero, List.set_cons_succ, List.getElem_toArray, List.getElem_cons_zero, List.getElem_cons_succ]
              refine wpAnyH_take (i := 8) (v := ?vx12) rfl (by kernel_rfl) (by kernel_rfl) (by kernel_rfl) (fun _ _ _ h => h) (Or.inl ⟨by rfl, ?hx12⟩) (by assumption) ?rx12
              case hx12 => (intro w hSw; (try dsimp only at hSw); go_simp; try (with_reducible rfl))
              try simp only [Act.put, List.setIfInBounds_toArray, List.set_cons_zero, List.set_cons_succ, List.getElem_toArray, List.getElem_cons_zero, List.getElem_cons_succ]
              refine wpAnyH_ready (rs := [9, 13]) (by kernel_rfl) (by simp) ?_
              refine AllReadyH.cons rfl (fun K hK => ?_) (AllReadyH.cons rfl (fun K hK => ?_) AllReadyH.nil)
              · go_simp
                refine (wantQ a1 c1 ws r.c _ ((HK.out.l.a1.sl.gv).keep (bl_drew (Below.refl _ _))) HW.out (by omega)).mono ?_
                rintro e y1 ⟨t, bb, rfl, ht, b9⟩
                have Ht : Hid (t.fits) := ht
                clear ht
                have hb1 : Below wr.heap.size wr y1 := bl_trans (bl_drew (Below.refl _ _)) b9
                go_wp2_with fail
                refine hK.out _ _ (KS.out _ hb1) (fun hH1 => ?_)
                clear hK K hHeld b9
                try simp only [Act.put, List.setIfInBounds_toArray, List.set_cons_zero, List.set_cons_succ, List.getElem_toArray, List.getElem_cons_zero, List.getElem_cons_succ]
                refine wpAnyH_take (i := 10) (v := ?vx13) rfl (by kernel_rfl) (by kernel_rfl) (by kernel_rfl) (fun _ _ _ h => h) (Or.inl ⟨by rfl, ?hx13⟩) (by assumption) ?rx13
                case hx13 => (intro w hSw; (try dsimp only at hSw); go_simp; try (with_reducible rfl))
                try simp only [Act.put, List.setIfInBounds_toArray, List.set_cons_zero, List.set_cons_succ, List.getElem_toArray, List.getElem_cons_zero, List.getElem_cons_succ]
                refine wpAnyH_take (i := 11) (v := ?vx14) rfl (by kernel_rfl) (by kernel_rfl) (by kernel_rfl) (fun _ _ _ h => h) (Or.inl ⟨by rfl, ?hx14⟩) (by assumption) ?rx14
                case hx14 => (intro w hSw; (try dsimp only at hSw); go_simp; try (with_reducible rfl))
                try simp only [Act.put, List.setIfInBounds_toArray, List.set_cons_zero, List.set_cons_succ, List.getElem_toArray, List.getElem_cons_zero, List.getElem_cons_succ]
                refine wpAnyH_take (i := 12) (v := ?vx15) rfl (by kernel_rfl) (by kernel_rfl) (by kernel_rfl) (fun _ _ _ h => h) (Or.inl ⟨by rfl, ?hx15⟩) (by assumption) ?rx15
                case hx15 => (intro w hSw; (try dsimp only at hSw); go_simp; try (with_reducible rfl))
                try simp only [Act.put, List.setIfInBounds_toArray, List.set_cons_zero, List.set_cons_succ, List.getElem_toArray, List.getElem_cons_zero, List.getElem_cons_succ]
                refine wpAnyH_ready (rs := [13]) (by kernel_rfl) (by simp) ?_
                refine AllReadyH.cons rfl (fun K hK => ?_) AllReadyH.nil
                go_simp
                refine hK.out _ _ (KS.out _ (bl_alloc hb1 (.cells #[.string { data := #[] }, .int .i64 0, .string { data := #[] }, .int .i64 0, .int .i64 0, .int .i64 0, .int .i64 0] 36))) (fun hH2 => ?_)
                clear hK K hH1
                try simp only [Act.put, List.setIfInBounds_toArray, List.set_cons_zero, List.set_cons_succ, List.getElem_toArray, List.getElem_cons_zero, List.getElem_cons_succ]
                have hzu : y1.heap.size < (y1.alloc (.cells #[.string { data := #[] }, .int .i64 0, .string { data := #[] }, .int .i64 0, .int .i64 0, .int .i64 0, .int .i64 0] 36)).heap.size := by simp
                have hth7 := there7w y1 36
                refine wpAnyH_ready (rs := [14]) (by kernel_rfl) (by simp) ?_
                refine AllReadyH.cons rfl (fun K hK => ?_) AllReadyH.nil
                refine wanted_if (by rfl) ?_
                refine wp_store_mid 36 _ _ (by rfl) y1.heap.size 0 #[.string t.c, .int .i64 t.v, .string t.h, .int .i64 t.p, .int .i64 t.s, .int .i64 t.d, .int .i64 t.g] (by rfl) (by rfl) (by exact hth7) hinfoW (by simp [Value.oneCell']) ?_
                have hB : Below wr.heap.size wr ((y1.alloc (.cells #[.string { data := #[] }, .int .i64 0, .string { data := #[] }, .int .i64 0, .int .i64 0, .int .i64 0, .int .i64 0] 36)).setCells y1.heap.size 0 [.string t.c, .int .i64 t.v, .string t.h, .int .i64 t.p, .int .i64 t.s, .int .i64 t.d, .int .i64 t.g]) := Ex.mono (bl_alloc hb1 _) ((Ex.refl y1.heap.size _).cells [.string t.c, .int .i64 t.v, .string t.h, .int .i64 t.p, .int .i64 t.s, .int .i64 t.d, .int .i64 t.g] 0) hb1.size
                refine hK.out _ _ (KS.out _ hB) (fun hL => ?_)
                clear hK K hH2
                try simp only [Act.put]
                refine wpAnyH_take (i := 15) (v := ?vx16) rfl (by kernel_rfl) (by kernel_rfl) (by kernel_rfl) (fun _ _ _ h => h) (Or.inl ⟨by rfl, ?hx16⟩) (by assumption) ?rx16
                case hx16 => (intro w hSw; (try dsimp only at hSw); go_simp; try (with_reducible rfl))
                try simp only [Act.put, List.setIfInBounds_toArray, List.set_cons_zero, List.set_cons_succ, List.getElem_toArray, List.getElem_cons_zero, List.getElem_cons_succ]
                refine wpAnyH_done (by kernel_rfl) ?_ _
                refine NoPanic.normal ?_
                go_wp2_with fail
                go_meet
                exact ⟨t, bb, y1.heap.size, rfl, rfl, Ht.out, hb1.size, Nat.lt_of_lt_of_le (by first | exact hzu | simp) ((Ex.refl y1.heap.size (y1.alloc (.cells #[.string { data := #[] }, .int .i64 0, .string { data := #[] }, .int .i64 0, .int .i64 0, .int .i64 0, .int .i64 0] 36))).cells [.string t.c, .int .i64 t.v, .string t.h, .int .i64 t.p, .int .i64 t.s, .int .i64 t.d, .int .i64 t.g] 0).size, World.rangeAt_setCells_same (y1.alloc (.cells #[.string { data := #[] }, .int .i64 0, .string { data := #[] }, .int .i64 0, .int .i64 0, .int .i64 0, .int .i64 0] 36)) y1.heap.size 0 [.string t.c, .int .i64 t.v, .string t.h, .int .i64 t.p, .int .i64 t.s, .int .i64 t.d, .int .i64 t.g] hth7, World.there_setCells hth7 y1.heap.size 0 [.string t.c, .int .i64 t.v, .string t.h, .int .i64 t.p, .int .i64 t.s, .int .i64 t.d, .int .i64 t.g], hB⟩
              · go_simp
                have hb0 : Below wr.heap.size wr (wr.alloc (.cells #[.string { data := #[] }, .int .i64 0, .string { data := #[] }, .int .i64 0, .int .i64 0, .int .i64 0, .int .i64 0] 36)).drew := bl_drew (bl_alloc (Below.refl _ _) _)
                refine hK.out _ _ (KS.out _ hb0) (fun hH1 => ?_)
                clear hK K hHeld
                try simp only [Act.put, List.setIfInBounds_toArray, List.set_cons_zero, List.set_cons_succ, List.getElem_toArray, List.getElem_cons_zero, List.getElem_cons_succ]
                refine wpAnyH_ready (rs := [9]) (by kernel_rfl) (by simp) ?_
                refine AllReadyH.cons rfl (fun K hK => ?_) AllReadyH.nil
                go_simp
                refine (wantQ a1 c1 ws r.c _ ((HK.out.l.a1.sl.gv).keep hb0) HW.out (by omega)).mono ?_
                rintro e y1 ⟨t, bb, rfl, ht, b9⟩
                have Ht : Hid (t.fits) := ht
                clear ht
                have hb1 : Below wr.heap.size wr y1 := bl_trans hb0 b9
                have hzu : wr.heap.size < y1.heap.size := Nat.lt_of_lt_of_le (by simp) b9.size
                have hth7 : y1.there wr.heap.size 0 7 := there_keep2 (there7w wr 36) (by simp) (bl_trans (bl_drew (Below.refl _ _)) b9)
                go_wp2_with fail
                refine hK.out _ _ (KS.out _ hb1) (fun hH2 => ?_)
                clear hK K hH1 b9
                try simp only [Act.put, List.setIfInBounds_toArray, List.set_cons_zero, List.set_cons_succ, List.getElem_toArray, List.getElem_cons_zero, List.getElem_cons_succ]
                refine wpAnyH_take (i := 10) (v := ?vx17) rfl (by kernel_rfl) (by kernel_rfl) (by kernel_rfl) (fun _ _ _ h => h) (Or.inl ⟨by rfl, ?hx17⟩) (by assumption) ?rx17
                case hx17 => (intro w hSw; (try dsimp only at hSw); go_simp; try (with_reducible rfl))
                try simp only [Act.put, List.setIfInBounds_toArray, List.set_cons_zero, List.set_cons_succ, List.getElem_toArray, List.getElem_cons_zero, List.getElem_cons_succ]
                refine wpAnyH_take (i := 11) (v := ?vx18) rfl (by kernel_rfl) (by kernel_rfl) (by kernel_rfl) (fun _ _ _ h => h) (Or.inl ⟨by rfl, ?hx18⟩) (by assumption) ?rx18
                case hx18 => (intro w hSw; (try dsimp only at hSw); go_simp; try (with_reducible rfl))
                try simp only [Act.put, List.setIfInBounds_toArray, List.set_cons_zero, List.set_cons_succ, List.getElem_toArray, List.getElem_cons_zero, List.getElem_cons_succ]
                refine wpAnyH_take (i := 12) (v := ?vx19) rfl (by kernel_rfl) (by kernel_rfl) (by kernel_rfl) (fun _ _ _ h => h) (Or.inl ⟨by rfl, ?hx19⟩) (by assumption) ?rx19
                case hx19 => (intro w hSw; (try dsimp only at hSw); go_simp; try (with_reducible rfl))
                try simp only [Act.put, List.setIfInBounds_toArray, List.set_cons_zero, List.set_cons_succ, List.getElem_toArray, List.getElem_cons_zero, List.getElem_cons_succ]
                refine wpAnyH_ready (rs := [14]) (by kernel_rfl) (by simp) ?_
                refine AllReadyH.cons rfl (fun K hK => ?_) AllReadyH.nil
                refine wanted_if (by rfl) ?_
                refine wp_store_mid 36 _ _ (by rfl) wr.heap.size 0 #[.string t.c, .int .i64 t.v, .string t.h, .int .i64 t.p, .int .i64 t.s, .int .i64 t.d, .int .i64 t.g] (by rfl) (by rfl) (by exact hth7) hinfoW (by simp [Value.oneCell']) ?_
                have hB : Below wr.heap.size wr (y1.setCells wr.heap.size 0 [.string t.c, .int .i64 t.v, .string t.h, .int .i64 t.p, .int .i64 t.s, .int .i64 t.d, .int .i64 t.g]) := Ex.mono hb1 ((Ex.refl wr.heap.size _).cells [.string t.c, .int .i64 t.v, .string t.h, .int .i64 t.p, .int .i64 t.s, .int .i64 t.d, .int .i64 t.g] 0) (Nat.le_refl _)
                refine hK.out _ _ (KS.out _ hB) (fun hL => ?_)
                clear hK K hH2
                try simp only [Act.put]
                refine wpAnyH_take (i := 15) (v := ?vx20) rfl (by kernel_rfl) (by kernel_rfl) (by kernel_rfl) (fun _ _ _ h => h) (Or.inl ⟨by rfl, ?hx20⟩) (by assumption) ?rx20
                case hx20 => (intro w hSw; (try dsimp only at hSw); go_simp; try (with_reducible rfl))
                try simp only [Act.put, List.setIfInBounds_toArray, List.set_cons_zero, List.set_cons_succ, List.getElem_toArray, List.getElem_cons_zero, List.getElem_cons_succ]
                refine wpAnyH_done (by kernel_rfl) ?_ _
                refine NoPanic.normal ?_
                go_wp2_with fail
                go_meet
                exact ⟨t, bb, wr.heap.size, rfl, rfl, Ht.out, (Nat.le_refl _), Nat.lt_of_lt_of_le (by first | exact hzu | simp) ((Ex.refl wr.heap.size y1).cells [.string t.c, .int .i64 t.v, .string t.h, .int .i64 t.p, .int .i64 t.s, .int .i64 t.d, .int .i64 t.g] 0).size, World.rangeAt_setCells_same y1 wr.heap.size 0 [.string t.c, .int .i64 t.v, .string t.h, .int .i64 t.p, .int .i64 t.s, .int .i64 t.d, .int .i64 t.g] hth7, World.there_setCells hth7 wr.heap.size 0 [.string t.c, .int .i64 t.v, .string t.h, .int .i64 t.p, .int .i64 t.s, .int .i64 t.d, .int .i64 t.g], hB⟩
            case rest =>
              obtain ⟨t, b, u, rfl, rfl, ht, hu0, hu1, hrng, hthu, hbb⟩ := hcut
              have Ht : Hid (t.fits) := ht
              have Hm : Hid (Small r) := HS'.out r (List.mem_of_getElem? Hr.out)
              have D13 : Hid (Dm w kr w2.heap.size (⟨{ data := #[97] }, true, p60, true, p4, ws, rs', [], []⟩ : MateD) (.slice a1 ws.length c1) (.slice (some ⟨g, 0, none⟩) rs.length c2) (.slice none 0 0) (.slice none 0 0) (q + 608 + k) wc) := HK.out.below hbb
              have hku : kr < u := by have h1 := HK.out.e.size; omega
              have RU : Hid (wc.rangeAt u 0 [.string t.c, .int .i64 t.v, .string t.h, .int .i64 t.p, .int .i64 t.s, .int .i64 t.d, .int .i64 t.g]) := hrng
              have hgu : g ≠ u := by omega
              have hug : u ≠ g := by omega
              clear ht hrng hthu hbb HK KS hR hth
              cases b
              · go_wp2
                exact ⟨⟨k + 1, rs', by omega, by go_num, by first | exact hrl' | (rw [List.length_set]; exact hrl'), HS'.out, Dm.up D13.out (by omega)⟩, by simp [intOf]; omega⟩
              · go_wp2_with fail
                refine (pickQ kr _ 4 _ D13.out.r (by omega) (by omega) (by omega)).mono ?_
                rintro e w8 ⟨p8, rfl, p80, p81, r8, e8⟩
                have D14 : Hid (Dm w kr w2.heap.size (⟨{ data := #[97] }, true, p60, true, p4, ws, rs', [], []⟩ : MateD) (.slice a1 ws.length c1) (.slice (some ⟨g, 0, none⟩) rs.length c2) (.slice none 0 0) (.slice none 0 0) (q + 608 + k + 1) w8) := D13.out.pick e8 r8
                have hu8 : u < w8.heap.size := Nat.lt_of_lt_of_le hu1 e8.size
                have cu : ∀ j v, [.string t.c, .int .i64 t.v, .string t.h, .int .i64 t.p, .int .i64 t.s, .int .i64 t.d, .int .i64 t.g][j]? = some v → w8.cell? ⟨u, j, none⟩ = some v := fun j v hj => (e8.cell (p := ⟨u, j, none⟩) hu1 (by show u ≠ kr; omega)).trans (by have := RU.out j v hj; rwa [Nat.zero_add] at this)
                have cu0 := cu 0 _ rfl
                have cu1 := cu 1 _ rfl
                have cu2 := cu 2 _ rfl
                have cu3 := cu 3 _ rfl
                have cu4 := cu 4 _ rfl
                have cu5 := cu 5 _ rfl
                have cu6 := cu 6 _ rfl
                clear r8 e8 D13 RU cu
                by_cases hp8 : 0 < p8
                · obtain ⟨g9, c9, hv9, -, hg9, -, hth9⟩ := D14.out.l.a2.blk (i := k) (by show k < rs'.length; omega)
                  simp only [Value.slice.injEq, Option.some.injEq, Addr.mk.injEq, and_true] at hv9
                  obtain ⟨rfl, -, rfl⟩ := hv9
                  have hpart : w8.there g (k * 11) 7 := there_sub hth9 (by show k * 11 + 7 ≤ rs'.length * 11; omega)
                  have kb6 := D14.out.b 6
                  have hbg : w2.heap.size ≠ g := by have := (D14.out.l.a2.lt g rfl).1; omega
                  have hgb : g ≠ w2.heap.size := fun e => hbg e.symm
                  have D15 : Hid (Dm w kr w2.heap.size (⟨{ data := #[97] }, true, p60, true, p4, ws, rs'.set k (⟨t.c, t.h, t.v, t.p, t.s, t.d, t.g, r.a, r.b, r.i, r.u⟩ : RunD), [], []⟩ : MateD) (.slice a1 ws.length c1) (.slice (some ⟨g, 0, none⟩) rs.length c2) (.slice none 0 0) (.slice none 0 0) (q + 608 + k + 1) (w8.setCells g (k * 11) [.string t.c, .int .i64 t.v, .string t.h, .int .i64 t.p, .int .i64 t.s, .int .i64 t.d, .int .i64 t.g])) := Dm.want (m := (⟨{ data := #[97] }, true, p60, true, p4, ws, rs', [], []⟩ : MateD)) D14.out Hr.out t
                  obtain ⟨WX, hWX'⟩ : ∃ WX, WX = (w8.setCells g (k * 11) [.string t.c, .int .i64 t.v, .string t.h, .int .i64 t.p, .int .i64 t.s, .int .i64 t.d, .int .i64 t.g]) := ⟨_, rfl⟩
                  have hWX : Hid (WX = (w8.setCells g (k * 11) [.string t.c, .int .i64 t.v, .string t.h, .int .i64 t.p, .int .i64 t.s, .int .i64 t.d, .int .i64 t.g])) := hWX'
                  clear hWX'
                  have hxu : ∀ j, WX.cell? ⟨u, j, none⟩ = w8.cell? ⟨u, j, none⟩ := fun j => by rw [hWX.out]; exact ((Ex.refl g w8).cells [.string t.c, .int .i64 t.v, .string t.h, .int .i64 t.p, .int .i64 t.s, .int .i64 t.d, .int .i64 t.g] (k * 11)).cell (p := ⟨u, j, none⟩) hu8 hug
                  have cx2 := (hxu 2).trans cu2
                  clear hth9 hxu
                  rw [← hWX.out] at D15
                  cases hh : t.h.toList.isEmpty
                  · go_wp2_with (refine wpList_store_mid (by rfl) 36 _ _ (by rfl) g (k * 11) #[.string t.c, .int .i64 t.v, .string t.h, .int .i64 t.p, .int .i64 t.s, .int .i64 t.d, .int .i64 t.g] (by rfl) (by rfl) (by exact hpart) hinfoW (by simp [Value.oneCell']) ?_; rw [← hWX.out])
                    skip
                    have KT : Hid (∀ y, Below WX.heap.size WX y → Below WX.heap.size WX y ∧ (y.cell? ⟨w2.heap.size, 6, none⟩ = some (.slice (some ⟨g, 0, none⟩) rs.length c2) ∧ y.cell? ⟨w2.heap.size, 2, none⟩ = some (.int .i64 p60) ∧ y.cell? ⟨g, k * 11, none⟩ = some (.string t.c) ∧ y.cell? ⟨g, k * 11 + 1, none⟩ = some (.int .i64 t.v) ∧ y.cell? ⟨g, k * 11 + 2, none⟩ = some (.string t.h) ∧ y.cell? ⟨g, k * 11 + 3, none⟩ = some (.int .i64 t.p) ∧ y.cell? ⟨g, k * 11 + 4, none⟩ = some (.int .i64 t.s) ∧ y.cell? ⟨g, k * 11 + 5, none⟩ = some (.int .i64 t.d) ∧ y.cell? ⟨g, k * 11 + 6, none⟩ = some (.int .i64 t.g) ∧ y.cell? ⟨g, k * 11 + 7, none⟩ = some (.int .i64 r.a) ∧ y.cell? ⟨g, k * 11 + 8, none⟩ = some (.int .i64 r.b) ∧ y.cell? ⟨g, k * 11 + 9, none⟩ = some (.int .i64 r.i) ∧ y.cell? ⟨g, k * 11 + 10, none⟩ = some (.int .i64 r.u))) := fun y hb => by
                      have h1 := D15.out.below hb
                      obtain ⟨g9, c9, hv9, -, -, hR9, -⟩ := h1.l.a2.blk (i := k) (by show k < (rs'.set k _).length; rw [List.length_set]; omega)
                      simp only [Value.slice.injEq, Option.some.injEq, Addr.mk.injEq, and_true] at hv9
                      obtain ⟨rfl, -, rfl⟩ := hv9
                      have h2 := hR9.at (set_at Hr.out)
                      simp only [Nat.zero_add] at h2
                      exact ⟨hb, h1.b 6, h1.b 2, h2⟩
                    go_region_held3 (fun y => Below WX.heap.size WX y ∧ (y.cell? ⟨w2.heap.size, 6, none⟩ = some (.slice (some ⟨g, 0, none⟩) rs.length c2) ∧ y.cell? ⟨w2.heap.size, 2, none⟩ = some (.int .i64 p60) ∧ y.cell? ⟨g, k * 11, none⟩ = some (.string t.c) ∧ y.cell? ⟨g, k * 11 + 1, none⟩ = some (.int .i64 t.v) ∧ y.cell? ⟨g, k * 11 + 2, none⟩ = some (.string t.h) ∧ y.cell? ⟨g, k * 11 + 3, none⟩ = some (.int .i64 t.p) ∧ y.cell? ⟨g, k * 11 + 4, none⟩ = some (.int .i64 t.s) ∧ y.cell? ⟨g, k * 11 + 5, none⟩ = some (.int .i64 t.d) ∧ y.cell? ⟨g, k * 11 + 6, none⟩ = some (.int .i64 t.g) ∧ y.cell? ⟨g, k * 11 + 7, none⟩ = some (.int .i64 r.a) ∧ y.cell? ⟨g, k * 11 + 8, none⟩ = some (.int .i64 r.b) ∧ y.cell? ⟨g, k * 11 + 9, none⟩ = some (.int .i64 r.i) ∧ y.cell? ⟨g, k * 11 + 10, none⟩ = some (.int .i64 r.u)))
                      (first | exact KT.out _ (bl_drew (Below.refl _ _)) | exact KT.out _ (bl_trans (bl_drew (Below.refl _ _)) hb9))
                      (first | (go_at_call 92; refine (specRunOk_any t.c t.h t.v t.p t.s t.d t.g r.a r.b r.i (r.u) p60 _ Ht.out.1 Ht.out.2).mono ?_; rintro e y9 ⟨rfl, hb9⟩))
                    have hb8 : Below WX.heap.size WX y9 := bl_trans (bl_drew (Below.refl _ _)) hb9
                    obtain ⟨y2, rfl⟩ : ∃ y2, y2 = y9 := ⟨_, rfl⟩
                    have D8 : Hid (Dm w kr w2.heap.size (⟨{ data := #[97] }, true, p60, true, p4, ws, rs'.set k (⟨t.c, t.h, t.v, t.p, t.s, t.d, t.g, r.a, r.b, r.i, r.u⟩ : RunD), [], []⟩ : MateD) (.slice a1 ws.length c1) (.slice (some ⟨g, 0, none⟩) rs.length c2) (.slice none 0 0) (.slice none 0 0) (q + 608 + k + 1) y2) := D15.out.below hb8
                    have c6 := (KT.out _ hb8).2.1
                    have hgz : g < y2.heap.size := (D8.out.l.a2.lt g rfl).2
                    obtain ⟨g9, c9, hv9, -, -, hR9, hth9⟩ := D8.out.l.a2.blk (i := k) (by show k < (rs'.set k _).length; rw [List.length_set]; omega)
                    simp only [Value.slice.injEq, Option.some.injEq, Addr.mk.injEq, and_true] at hv9
                    obtain ⟨rfl, -, rfl⟩ := hv9
                    have h7 := cell_at hth9 (k * 11 + 7) (by show k * 11 + 7 < (rs'.set k _).length * 11; rw [List.length_set]; omega)
                    have h8 := cell_at hth9 (k * 11 + 8) (by show k * 11 + 8 < (rs'.set k _).length * 11; rw [List.length_set]; omega)
                    obtain ⟨⟨x7, e7⟩, f7⟩ := h7
                    obtain ⟨⟨x8, e8⟩, f8⟩ := h8
                    have hbg : w2.heap.size ≠ g := by have := (D8.out.l.a2.lt g rfl).1; omega
                    clear hth9 hR9 KT hb9 hb8
                    cases hB : runB t.c t.h t.v t.p t.s t.d t.g r.a r.b r.i (r.u) p60
                    · go_wp2
                      have D9 : Hid (Dm w kr w2.heap.size (⟨{ data := #[97] }, true, p60, true, p4, ws, rs'.set k (⟨t.c, t.h, t.v, t.p, t.s, t.d, t.g, 2, 0, r.i, r.u⟩ : RunD), [], []⟩ : MateD) (.slice a1 ws.length c1) (.slice (some ⟨g, 0, none⟩) rs.length c2) (.slice none 0 0) (.slice none 0 0) (q + 608 + k + 1) ((y2.setCell ⟨g, k * 11 + 7, none⟩ (.int .i64 2)).setCell ⟨g, k * 11 + 8, none⟩ (.int .i64 0))) := (D8.out.run2 (m := (⟨{ data := #[97] }, true, p60, true, p4, ws, rs', [], []⟩ : MateD)) (r' := (⟨t.c, t.h, t.v, t.p, t.s, t.d, t.g, 2, r.b, r.i, r.u⟩ : RunD)) (j := 7) (v := .int .i64 2) Hr.out rfl (by omega)).run2 (m := (⟨{ data := #[97] }, true, p60, true, p4, ws, rs', [], []⟩ : MateD)) (r' := (⟨t.c, t.h, t.v, t.p, t.s, t.d, t.g, 2, 0, r.i, r.u⟩ : RunD)) (j := 8) (v := .int .i64 0) Hr.out rfl (by omega)
                      exact ⟨⟨k + 1, rs'.set k (⟨t.c, t.h, t.v, t.p, t.s, t.d, t.g, 2, 0, r.i, r.u⟩ : RunD), by omega, by go_num, by first | exact hrl' | (rw [List.length_set]; exact hrl'), small_set HS'.out (small_mk Ht.out.1 Ht.out.2 ⟨by omega, by omega⟩ Hm.out.2.2.2.1 Hm.out.2.2.2.2), Dm.up D9.out (by omega)⟩, by simp [intOf]; omega⟩
                    · go_wp2
                      exact ⟨⟨k + 1, rs'.set k (⟨t.c, t.h, t.v, t.p, t.s, t.d, t.g, r.a, r.b, r.i, r.u⟩ : RunD), by omega, by go_num, by first | exact hrl' | (rw [List.length_set]; exact hrl'), small_set HS'.out (small_mk Ht.out.1 Ht.out.2 Hm.out.2.2.1 Hm.out.2.2.2.1 Hm.out.2.2.2.2), Dm.up D8.out (by omega)⟩, by simp [intOf]; omega⟩
                  · have kb6x := D15.out.b 6
                    obtain ⟨g9, c9, hv9, -, -, -, hth9⟩ := D15.out.l.a2.blk (i := k) (by show k < (rs'.set k _).length; rw [List.length_set]; omega)
                    simp only [Value.slice.injEq, Option.some.injEq, Addr.mk.injEq, and_true] at hv9
                    obtain ⟨rfl, -, rfl⟩ := hv9
                    obtain ⟨⟨x10, e10⟩, f10⟩ := cell_at hth9 (k * 11 + 10) (by show k * 11 + 10 < (rs'.set k _).length * 11; rw [List.length_set]; omega)
                    clear hth9
                    have D16 : Hid (Dm w kr w2.heap.size (⟨{ data := #[97] }, true, p60, true, p4, ws, rs'.set k (⟨t.c, t.h, t.v, t.p, t.s, t.d, t.g, r.a, r.b, r.i, 0⟩ : RunD), [], []⟩ : MateD) (.slice a1 ws.length c1) (.slice (some ⟨g, 0, none⟩) rs.length c2) (.slice none 0 0) (.slice none 0 0) (q + 608 + k + 1) (WX.setCell ⟨g, k * 11 + 10, none⟩ (.int .i64 0))) := D15.out.run2 (m := (⟨{ data := #[97] }, true, p60, true, p4, ws, rs', [], []⟩ : MateD)) (r' := (⟨t.c, t.h, t.v, t.p, t.s, t.d, t.g, r.a, r.b, r.i, 0⟩ : RunD)) (j := 10) (v := .int .i64 0) Hr.out rfl (by omega)
                    obtain ⟨WY, hWY'⟩ : ∃ WY, WY = WX.setCell ⟨g, k * 11 + 10, none⟩ (.int .i64 0) := ⟨_, rfl⟩
                    have hWY : Hid (WY = WX.setCell ⟨g, k * 11 + 10, none⟩ (.int .i64 0)) := hWY'
                    clear hWY'
                    rw [← hWY.out] at D16
                    go_wp2_with (refine wpList_store_mid (by rfl) 36 _ _ (by rfl) g (k * 11) #[.string t.c, .int .i64 t.v, .string t.h, .int .i64 t.p, .int .i64 t.s, .int .i64 t.d, .int .i64 t.g] (by rfl) (by rfl) (by exact hpart) hinfoW (by simp [Value.oneCell']) ?_; rw [← hWX.out])
                    rw [← hWY.out]
                    have KT : Hid (∀ y, Below WY.heap.size WY y → Below WY.heap.size WY y ∧ (y.cell? ⟨w2.heap.size, 6, none⟩ = some (.slice (some ⟨g, 0, none⟩) rs.length c2) ∧ y.cell? ⟨w2.heap.size, 2, none⟩ = some (.int .i64 p60) ∧ y.cell? ⟨g, k * 11, none⟩ = some (.string t.c) ∧ y.cell? ⟨g, k * 11 + 1, none⟩ = some (.int .i64 t.v) ∧ y.cell? ⟨g, k * 11 + 2, none⟩ = some (.string t.h) ∧ y.cell? ⟨g, k * 11 + 3, none⟩ = some (.int .i64 t.p) ∧ y.cell? ⟨g, k * 11 + 4, none⟩ = some (.int .i64 t.s) ∧ y.cell? ⟨g, k * 11 + 5, none⟩ = some (.int .i64 t.d) ∧ y.cell? ⟨g, k * 11 + 6, none⟩ = some (.int .i64 t.g) ∧ y.cell? ⟨g, k * 11 + 7, none⟩ = some (.int .i64 r.a) ∧ y.cell? ⟨g, k * 11 + 8, none⟩ = some (.int .i64 r.b) ∧ y.cell? ⟨g, k * 11 + 9, none⟩ = some (.int .i64 r.i) ∧ y.cell? ⟨g, k * 11 + 10, none⟩ = some (.int .i64 0))) := fun y hb => by
                      have h1 := D16.out.below hb
                      obtain ⟨g9, c9, hv9, -, -, hR9, -⟩ := h1.l.a2.blk (i := k) (by show k < (rs'.set k _).length; rw [List.length_set]; omega)
                      simp only [Value.slice.injEq, Option.some.injEq, Addr.mk.injEq, and_true] at hv9
                      obtain ⟨rfl, -, rfl⟩ := hv9
                      have h2 := hR9.at (set_at Hr.out)
                      simp only [Nat.zero_add] at h2
                      exact ⟨hb, h1.b 6, h1.b 2, h2⟩
                    go_region_held3 (fun y => Below WY.heap.size WY y ∧ (y.cell? ⟨w2.heap.size, 6, none⟩ = some (.slice (some ⟨g, 0, none⟩) rs.length c2) ∧ y.cell? ⟨w2.heap.size, 2, none⟩ = some (.int .i64 p60) ∧ y.cell? ⟨g, k * 11, none⟩ = some (.string t.c) ∧ y.cell? ⟨g, k * 11 + 1, none⟩ = some (.int .i64 t.v) ∧ y.cell? ⟨g, k * 11 + 2, none⟩ = some (.string t.h) ∧ y.cell? ⟨g, k * 11 + 3, none⟩ = some (.int .i64 t.p) ∧ y.cell? ⟨g, k * 11 + 4, none⟩ = some (.int .i64 t.s) ∧ y.cell? ⟨g, k * 11 + 5, none⟩ = some (.int .i64 t.d) ∧ y.cell? ⟨g, k * 11 + 6, none⟩ = some (.int .i64 t.g) ∧ y.cell? ⟨g, k * 11 + 7, none⟩ = some (.int .i64 r.a) ∧ y.cell? ⟨g, k * 11 + 8, none⟩ = some (.int .i64 r.b) ∧ y.cell? ⟨g, k * 11 + 9, none⟩ = some (.int .i64 r.i) ∧ y.cell? ⟨g, k * 11 + 10, none⟩ = some (.int .i64 0)))
                      (first | exact KT.out _ (bl_drew (Below.refl _ _)) | exact KT.out _ (bl_trans (bl_drew (Below.refl _ _)) hb9))
                      (first | (go_at_call 92; refine (specRunOk_any t.c t.h t.v t.p t.s t.d t.g r.a r.b r.i (0) p60 _ Ht.out.1 Ht.out.2).mono ?_; rintro e y9 ⟨rfl, hb9⟩))
                    have hb8 : Below WY.heap.size WY y9 := bl_trans (bl_drew (Below.refl _ _)) hb9
                    obtain ⟨y2, rfl⟩ : ∃ y2, y2 = y9 := ⟨_, rfl⟩
                    have D8 : Hid (Dm w kr w2.heap.size (⟨{ data := #[97] }, true, p60, true, p4, ws, rs'.set k (⟨t.c, t.h, t.v, t.p, t.s, t.d, t.g, r.a, r.b, r.i, 0⟩ : RunD), [], []⟩ : MateD) (.slice a1 ws.length c1) (.slice (some ⟨g, 0, none⟩) rs.length c2) (.slice none 0 0) (.slice none 0 0) (q + 608 + k + 1) y2) := D16.out.below hb8
                    have c6 := (KT.out _ hb8).2.1
                    have hgz : g < y2.heap.size := (D8.out.l.a2.lt g rfl).2
                    obtain ⟨g9, c9, hv9, -, -, hR9, hth9⟩ := D8.out.l.a2.blk (i := k) (by show k < (rs'.set k _).length; rw [List.length_set]; omega)
                    simp only [Value.slice.injEq, Option.some.injEq, Addr.mk.injEq, and_true] at hv9
                    obtain ⟨rfl, -, rfl⟩ := hv9
                    have h7 := cell_at hth9 (k * 11 + 7) (by show k * 11 + 7 < (rs'.set k _).length * 11; rw [List.length_set]; omega)
                    have h8 := cell_at hth9 (k * 11 + 8) (by show k * 11 + 8 < (rs'.set k _).length * 11; rw [List.length_set]; omega)
                    obtain ⟨⟨x7, e7⟩, f7⟩ := h7
                    obtain ⟨⟨x8, e8⟩, f8⟩ := h8
                    have hbg : w2.heap.size ≠ g := by have := (D8.out.l.a2.lt g rfl).1; omega
                    clear hth9 hR9 KT hb9 hb8
                    cases hB : runB t.c t.h t.v t.p t.s t.d t.g r.a r.b r.i (0) p60
                    · go_wp2
                      have D9 : Hid (Dm w kr w2.heap.size (⟨{ data := #[97] }, true, p60, true, p4, ws, rs'.set k (⟨t.c, t.h, t.v, t.p, t.s, t.d, t.g, 2, 0, r.i, 0⟩ : RunD), [], []⟩ : MateD) (.slice a1 ws.length c1) (.slice (some ⟨g, 0, none⟩) rs.length c2) (.slice none 0 0) (.slice none 0 0) (q + 608 + k + 1) ((y2.setCell ⟨g, k * 11 + 7, none⟩ (.int .i64 2)).setCell ⟨g, k * 11 + 8, none⟩ (.int .i64 0))) := (D8.out.run2 (m := (⟨{ data := #[97] }, true, p60, true, p4, ws, rs', [], []⟩ : MateD)) (r' := (⟨t.c, t.h, t.v, t.p, t.s, t.d, t.g, 2, r.b, r.i, 0⟩ : RunD)) (j := 7) (v := .int .i64 2) Hr.out rfl (by omega)).run2 (m := (⟨{ data := #[97] }, true, p60, true, p4, ws, rs', [], []⟩ : MateD)) (r' := (⟨t.c, t.h, t.v, t.p, t.s, t.d, t.g, 2, 0, r.i, 0⟩ : RunD)) (j := 8) (v := .int .i64 0) Hr.out rfl (by omega)
                      exact ⟨⟨k + 1, rs'.set k (⟨t.c, t.h, t.v, t.p, t.s, t.d, t.g, 2, 0, r.i, 0⟩ : RunD), by omega, by go_num, by first | exact hrl' | (rw [List.length_set]; exact hrl'), small_set HS'.out (small_mk Ht.out.1 Ht.out.2 ⟨by omega, by omega⟩ Hm.out.2.2.2.1 ⟨by omega, by omega⟩), Dm.up D9.out (by omega)⟩, by simp [intOf]; omega⟩
                    · go_wp2
                      exact ⟨⟨k + 1, rs'.set k (⟨t.c, t.h, t.v, t.p, t.s, t.d, t.g, r.a, r.b, r.i, 0⟩ : RunD), by omega, by go_num, by first | exact hrl' | (rw [List.length_set]; exact hrl'), small_set HS'.out (small_mk Ht.out.1 Ht.out.2 Hm.out.2.2.1 Hm.out.2.2.2.1 ⟨by omega, by omega⟩), Dm.up D8.out (by omega)⟩, by simp [intOf]; omega⟩
                · go_wp2
                  exact ⟨⟨k + 1, rs', by omega, by go_num, by first | exact hrl' | (rw [List.length_set]; exact hrl'), HS'.out, Dm.up D14.out (by omega)⟩, by simp [intOf]; omega⟩
          · go_wp2_with fail
            go_meet
            exact ⟨_, _, _, HK.out.up (by omega), ⟨HD.out.n, HD.out.c0, HD.out.c1, hwl, HW.out, (by show rs'.length ≤ 4; omega), HS'.out, Nat.zero_le _, (fun x hx => by cases hx), Nat.zero_le _, (fun x hx => by cases hx)⟩, rfl, rfl, rfl⟩
      · go_wp2_with fail
        go_meet
        exact ⟨_, _, _, Dm.up D5.out (by omega), HD.out, rfl, rfl, rfl⟩
    case rest =>
      obtain ⟨m, s1, s2, HDm, HDr, hup, hq0, hg0⟩ := hcut
      go_wp2_with fail
      go_loopw [7] (fun i wx => ∃ (k : Nat) (qs gs : List A.AskD) (s3 s4 : Value), k ≤ 3 ∧ i = .int .i64 k ∧ qs.length ≤ k ∧ gs.length ≤ k ∧ Hid (∀ x ∈ qs, x.fits) ∧ Hid (∀ x ∈ gs, x.fits) ∧ Hid (Dm w kr w2.heap.size { m with qs := qs, gs := gs } s1 s2 s3 s4 (q + 800 + 40 * k) wx)) (fun i _ => 3 - (intOf i).toNat)
      case atStart => exact ⟨0, [], [], .slice none 0 0, .slice none 0 0, Nat.zero_le _, rfl, Nat.le_refl _, Nat.le_refl _, (fun x hx => by cases hx), (fun x hx => by cases hx), by have h1 := HDm.out; obtain ⟨nm, up, ck, kn, se, ws', rs', qs', gs'⟩ := m; simp only at hq0 hg0; subst hq0 hg0; exact h1.up (by omega)⟩
      case round =>
        obtain ⟨k, qs, gs, s3, s4, hk, rfl, hql, hgl, HQf, HGf, HK⟩ := hrel
        by_cases hlt : k < 3
        · obtain ⟨ia, hia, hza0, hza1, hza2⟩ := info_parts A.infoR
          have hinfoA : (Try.prog.info? 99).map (·.size) = some 4 := by kernel_rfl
          have nbs := build3s { data := #[105, 112] } { data := #[118, 111, 108] } { data := #[118, 111, 108, 50] }
          have hck := HDr.out.c0
          have hck1 := HDr.out.c1
          have hzwr : w2.heap.size < wr.heap.size := HK.out.z
          have hkrw : kr < wr.heap.size := by have := HK.out.e.size; omega
          have HL : Hid ((∀ j, s1.ownBlock = some j → j < wr.heap.size) ∧ (∀ j, s2.ownBlock = some j → j < wr.heap.size) ∧ (∀ j, s3.ownBlock = some j → j < wr.heap.size) ∧ (∀ j, s4.ownBlock = some j → j < wr.heap.size)) := ⟨fun j hj => (HK.out.l.a1.lt j hj).2, fun j hj => (HK.out.l.a2.lt j hj).2, fun j hj => (HK.out.l.a3.lt j hj).2, fun j hj => (HK.out.l.a4.lt j hj).2⟩
          obtain ⟨z, hz, hzs⟩ : ∃ z, (#[.string { data := #[105, 112] }, .string { data := #[118, 111, 108] }, .string { data := #[118, 111, 108, 50] }] : Array Value)[k]? = some (.string z) ∧ z.size ≤ maxLen := by
            obtain rfl | rfl | rfl : k = 0 ∨ k = 1 ∨ k = 2 := by omega
            all_goals exact ⟨_, rfl, by unfold maxLen; decide⟩
          have i0 : (0 : Int) ≤ (k : Int) := by omega
          have i1 : (k : Int) < 3 := by omega
          go_upto_region 23 with (fail)
          go_cut [8] (fun v8 wx => ∃ (h c : ByteArray) (t : Int) (u : Nat), v8 = .pointer (some ⟨u, 0, none⟩) ∧ h.size ≤ maxLen ∧ c.size ≤ maxLen ∧ (-1000 ≤ t ∧ t ≤ 1000) ∧ wr.heap.size ≤ u ∧ u < wx.heap.size ∧ wx.rangeAt u 0 [.string h, .string (c), .int .i64 (0), .int .i64 (t)] ∧ wx.there u 0 4 ∧ Hid (Dm w kr w2.heap.size { m with qs := qs, gs := gs } s1 s2 s3 s4 (q + 800 + 40 * k + 16) wx))
          case first =>
            have Hz : Hid ((#[.string { data := #[105, 112] }, .string { data := #[118, 111, 108] }, .string { data := #[118, 111, 108, 50] }] : Array Value)[k]? = some (.string z)) := hz
            clear hz
            clear nbs
            refine wp_region_any (by kernel_rfl) ?_
            refine reg_invX sl23 15 8 (G23d kr w2.heap.size wr.heap.size k m.ck) (fun p y => Dm w kr w2.heap.size { m with qs := qs, gs := gs } s1 s2 s3 s4 (p) y ∧ wr.heap.size ≤ y.heap.size) (fun v8 wx => ∃ (h c : ByteArray) (t : Int) (u : Nat), v8 = .pointer (some ⟨u, 0, none⟩) ∧ h.size ≤ maxLen ∧ c.size ≤ maxLen ∧ (-1000 ≤ t ∧ t ≤ 1000) ∧ wr.heap.size ≤ u ∧ u < wx.heap.size ∧ wx.rangeAt u 0 [.string h, .string (c), .int .i64 (0), .int .i64 (t)] ∧ wx.there u 0 4 ∧ Hid (Dm w kr w2.heap.size { m with qs := qs, gs := gs } s1 s2 s3 s4 (q + 800 + 40 * k + 16) wx)) (q + 800 + 40 * k) (by decide) rfl ⟨HK.out.below (bl_drew (Below.refl _ _)), Nat.le_refl _⟩ ?done23 ?step23
            case done23 =>
              intro a y df sz out hE
              obtain ⟨h, c, t, u, hv8, hh, hc, ht, hu0, hu1, hrg, hth, HDf⟩ := hE
              obtain ⟨l, hl, ha⟩ := frame_two (lo := 102) (n := 14) (se := 8) df sz (Nat.le_of_ble_eq_true rfl) (Nat.le_of_ble_eq_true rfl) (fun j hj1 hj2 => out j (fun i hi => by unfold sl23; split <;> omega))
              rw [hv8] at ha
              have HA : Hid (wr.heap.size ≤ u ∧ u < y.heap.size ∧ y.rangeAt u 0 [.string h, .string (c), .int .i64 (0), .int .i64 (t)] ∧ y.there u 0 4) := ⟨hu0, hu1, hrg, hth⟩
              clear hv8 df sz out hu0 hu1 hrg hth
              subst ha
              obtain ⟨v0, l0, rfl, hl0⟩ := len_succ hl
              obtain ⟨v1, l1, rfl, hl1⟩ := len_succ hl0
              obtain ⟨v2, l2, rfl, hl2⟩ := len_succ hl1
              obtain ⟨v3, l3, rfl, hl3⟩ := len_succ hl2
              obtain ⟨v4, l4, rfl, hl4⟩ := len_succ hl3
              obtain ⟨v5, l5, rfl, hl5⟩ := len_succ hl4
              obtain ⟨v6, l6, rfl, hl6⟩ := len_succ hl5
              obtain ⟨v7, l7, rfl, hl7⟩ := len_succ hl6
              obtain ⟨v8, l8, rfl, hl8⟩ := len_succ hl7
              obtain ⟨v9, l9, rfl, hl9⟩ := len_succ hl8
              obtain ⟨v10, l10, rfl, hl10⟩ := len_succ hl9
              obtain ⟨v11, l11, rfl, hl11⟩ := len_succ hl10
              obtain ⟨v12, l12, rfl, hl12⟩ := len_succ hl11
              obtain ⟨v13, l13, rfl, hl13⟩ := len_succ hl12
              obtain rfl := len_zero hl13
              simp only [List.setIfInBounds_toArray, List.set_cons_succ, List.set_cons_zero, List.take_succ_cons, List.take_zero, List.drop_succ_cons, List.drop_zero, List.cons_append, List.nil_append, Nat.reduceAdd]
              go_wp2_with fail
              go_meet
              exact ⟨h, c, t, u, rfl, hh, hc, ht, HA.out.1, HA.out.2.1, HA.out.2.2.1, HA.out.2.2.2, HDf⟩
            case step23 =>
              intro listed x y i hI hi hlt'
              have ho := ready_open hi
              obtain rfl | rfl | rfl | rfl | rfl | rfl | rfl | rfl | rfl | rfl | rfl | rfl | rfl | rfl | rfl | rfl : i = 0 ∨ i = 1 ∨ i = 2 ∨ i = 3 ∨ i = 4 ∨ i = 5 ∨ i = 6 ∨ i = 7 ∨ i = 8 ∨ i = 9 ∨ i = 10 ∨ i = 11 ∨ i = 12 ∨ i = 13 ∨ i = 14 ∨ i = 15 := by omega
              · have hn : listed.getD 15 false = false := not_true (fun h => open_not ho (hI.tr 2 0 (by rfl) (hI.tr 3 2 (by rfl) (hI.tr 13 3 (by rfl) (hI.tr 15 13 (by rfl) h)))))
                obtain ⟨pc, ⟨hD, hsz⟩, hpc⟩ := hI.v.1 hn
                have HI : Hid (_ ∈ Region.ready _ _ _) := hi
                clear hi
                refine wpOp_plain rfl rfl ?_
                refine wp_veil (fun K hK => ?_)
                have hb := bld23
                have HJ : Hid (Ix _ _ _ _ _ _ _ _ _ _ _) := hI
                have HO : Hid _ := ho
                clear hI ho
                go_simp
                have ho := HO.out
                have hbl : Below y.heap.size y (y.alloc (.cells arr23 9)) := bl_alloc (Below.refl _ _) _
                have hg9 : Lst Txt wr.heap.size w2.heap.size 3 (y.alloc (.cells arr23 9)) (.slice (some ⟨y.heap.size, 0, none⟩) 3 3) := lst_of (cs := [.string { data := #[105, 112] }, .string { data := #[118, 111, 108] }, .string { data := #[118, 111, 108, 50] }]) hsz hD.z (fun v hv => by simp only [List.mem_cons, List.not_mem_nil, or_false] at hv; rcases hv with rfl | rfl | rfl <;> exact ⟨_, rfl, by decide⟩)
                exact hK.out _ _ (HJ.out.put HI.out (by omega) (Nat.le_of_ble_eq_true rfl) (inj23 (by omega)) (hg9) (fun j u _ _ h => G23d.keep (Ex.of_below hbl) hkrw j u h) (Vx.turn ho hn (by omega) ⟨hD.below hbl, Nat.le_trans hsz hbl.size⟩ (by omega)))
              · have hn : listed.getD 15 false = false := not_true (fun h => open_not ho (hI.tr 2 1 (by rfl) (hI.tr 3 2 (by rfl) (hI.tr 13 3 (by rfl) (hI.tr 15 13 (by rfl) h)))))
                obtain ⟨pc, ⟨hD, hsz⟩, hpc⟩ := hI.v.1 hn
                have HI : Hid (_ ∈ Region.ready _ _ _) := hi
                clear hi
                refine wpOp_plain rfl rfl ?_
                refine wp_veil (fun K hK => ?_)
                have e5 : x.tmps[7]?.getD undef = .int .i64 (k : Int) := ev_tmp (hI.out 7 (fun i hi => by unfold sl23; split <;> omega))
                have HJ : Hid (Ix _ _ _ _ _ _ _ _ _ _ _) := hI
                have HO : Hid _ := ho
                clear hI ho
                go_simp
                have ho := HO.out
                exact hK.out _ _ (HJ.out.put HI.out (by omega) (Nat.le_of_ble_eq_true rfl) (inj23 (by omega)) (rfl) (fun j u _ _ h => h) (Vx.turn ho hn (by omega) ⟨hD, hsz⟩ (by omega)))
              · have hn : listed.getD 15 false = false := not_true (fun h => open_not ho (hI.tr 3 2 (by rfl) (hI.tr 13 3 (by rfl) (hI.tr 15 13 (by rfl) h))))
                obtain ⟨pc, ⟨hD, hsz⟩, hpc⟩ := hI.v.1 hn
                have d0 := dep_of hi (j := 0) (by rfl)
                have d1 := dep_of hi (j := 1) (by rfl)
                have HI : Hid (_ ∈ Region.ready _ _ _) := hi
                clear hi
                refine wpOp_plain rfl rfl ?_
                refine wp_veil (fun K hK => ?_)
                obtain ⟨g, hg, g0, g1, g2, gc⟩ := hI.good 0 (by omega) d0 hn
                have e1 : x.tmps[102]?.getD undef = _ := ev_tmp hg
                have e2 : x.tmps[103]?.getD undef = .int .i64 (k : Int) := ev_tmp (hI.good 1 (by omega) d1 hn)
                obtain ⟨u, hu, hP⟩ := gc k (by omega)
                clear gc hg
                have HJ : Hid (Ix _ _ _ _ _ _ _ _ _ _ _) := hI
                have HO : Hid _ := ho
                clear hI ho
                go_simp
                have ho := HO.out
                exact hK.out _ _ (HJ.out.put HI.out (by omega) (Nat.le_of_ble_eq_true rfl) (inj23 (by omega)) (⟨g, k, u, rfl, g0, g1, g2, hu, hP⟩) (fun j u _ _ h => h) (Vx.turn ho hn (by omega) ⟨hD, hsz⟩ (by omega)))
              · have hn : listed.getD 15 false = false := not_true (fun h => open_not ho (hI.tr 13 3 (by rfl) (hI.tr 15 13 (by rfl) h)))
                obtain ⟨pc, ⟨hD, hsz⟩, hpc⟩ := hI.v.1 hn
                have d2 := dep_of hi (j := 2) (by rfl)
                have HI : Hid (_ ∈ Region.ready _ _ _) := hi
                clear hi
                refine wpOp_plain rfl rfl ?_
                refine wp_veil (fun K hK => ?_)
                obtain ⟨g, j, u, hv, g0, g1, g2, hu, hP⟩ := hI.good 2 (by omega) d2 hn
                have e1 : x.tmps[104]?.getD undef = _ := ev_tmp hv
                obtain ⟨s, rfl, hs⟩ := hP
                clear hv
                have HJ : Hid (Ix _ _ _ _ _ _ _ _ _ _ _) := hI
                have HO : Hid _ := ho
                clear hI ho
                go_simp
                have ho := HO.out
                exact hK.out _ _ (HJ.out.put HI.out (by omega) (Nat.le_of_ble_eq_true rfl) (inj23 (by omega)) (⟨s, rfl, hs⟩) (fun j u _ _ h => h) (Vx.turn ho hn (by omega) ⟨hD, hsz⟩ (by omega)))
              · have hn : listed.getD 15 false = false := not_true (fun h => open_not ho (hI.tr 5 4 (by rfl) (hI.tr 6 5 (by rfl) (hI.tr 7 6 (by rfl) (hI.tr 13 7 (by rfl) (hI.tr 15 13 (by rfl) h))))))
                obtain ⟨pc, ⟨hD, hsz⟩, hpc⟩ := hI.v.1 hn
                have HI : Hid (_ ∈ Region.ready _ _ _) := hi
                clear hi
                refine wpOp_plain rfl rfl ?_
                refine wp_veil (fun K hK => ?_)
                have e5 : x.tmps[0]?.getD undef = .pointer (some ⟨kr, 0, none⟩) := ev_tmp (hI.out 0 (fun i hi => by unfold sl23; split <;> omega))
                have HJ : Hid (Ix _ _ _ _ _ _ _ _ _ _ _) := hI
                have HO : Hid _ := ho
                clear hI ho
                go_simp
                have ho := HO.out
                exact hK.out _ _ (HJ.out.put HI.out (by omega) (Nat.le_of_ble_eq_true rfl) (inj23 (by omega)) (rfl) (fun j u _ _ h => h) (Vx.turn ho hn (by omega) ⟨hD, hsz⟩ (by omega)))
              · have hn : listed.getD 15 false = false := not_true (fun h => open_not ho (hI.tr 6 5 (by rfl) (hI.tr 7 6 (by rfl) (hI.tr 13 7 (by rfl) (hI.tr 15 13 (by rfl) h)))))
                obtain ⟨pc, ⟨hD, hsz⟩, hpc⟩ := hI.v.1 hn
                have d4 := dep_of hi (j := 4) (by rfl)
                have HI : Hid (_ ∈ Region.ready _ _ _) := hi
                clear hi
                refine wpOp_plain rfl rfl ?_
                refine wp_veil (fun K hK => ?_)
                have e1 : x.tmps[106]?.getD undef = .pointer (some ⟨kr, 0, none⟩) := ev_tmp (hI.good 4 (by omega) d4 hn)
                have HJ : Hid (Ix _ _ _ _ _ _ _ _ _ _ _) := hI
                have HO : Hid _ := ho
                clear hI ho
                go_simp
                have ho := HO.out
                refine (pickQ kr pc 4 y hD.r (by omega) (by omega) (by omega)).mono ?_
                rintro e y' ⟨z, rfl, z0, z1, r9, e9⟩
                exact hK.out _ _ (HJ.out.put HI.out (by omega) (Nat.le_of_ble_eq_true rfl) (inj23 (by omega)) (⟨z, rfl, z0, by omega⟩) (fun j u _ _ h => G23d.keep e9 hkrw j u h) (Vx.turn ho hn (by omega) ⟨hD.pick e9 r9, Nat.le_trans hsz e9.size⟩ (by omega)))
              · have hn : listed.getD 15 false = false := not_true (fun h => open_not ho (hI.tr 7 6 (by rfl) (hI.tr 13 7 (by rfl) (hI.tr 15 13 (by rfl) h))))
                obtain ⟨pc, ⟨hD, hsz⟩, hpc⟩ := hI.v.1 hn
                have d5 := dep_of hi (j := 5) (by rfl)
                have HI : Hid (_ ∈ Region.ready _ _ _) := hi
                clear hi
                refine wpOp_plain rfl rfl ?_
                refine wp_veil (fun K hK => ?_)
                obtain ⟨z, hz, z0, z1⟩ := hI.good 5 (by omega) d5 hn
                have e1 : x.tmps[107]?.getD undef = _ := ev_tmp hz
                clear hz
                have HJ : Hid (Ix _ _ _ _ _ _ _ _ _ _ _) := hI
                have HO : Hid _ := ho
                clear hI ho
                go_simp
                have ho := HO.out
                refine (dec_small z z0 (by omega) y).mono ?_
                rintro e y' ⟨s, rfl, hs, b9⟩
                exact hK.out _ _ (HJ.out.put HI.out (by omega) (Nat.le_of_ble_eq_true rfl) (inj23 (by omega)) (⟨s, rfl, hs⟩) (fun j u _ _ h => G23d.keep (Ex.of_below b9) hkrw j u h) (Vx.turn ho hn (by omega) ⟨hD.below b9, Nat.le_trans hsz b9.size⟩ (by omega)))
              · have hn : listed.getD 15 false = false := not_true (fun h => open_not ho (hI.tr 13 7 (by rfl) (hI.tr 15 13 (by rfl) h)))
                obtain ⟨pc, ⟨hD, hsz⟩, hpc⟩ := hI.v.1 hn
                have d6 := dep_of hi (j := 6) (by rfl)
                have HI : Hid (_ ∈ Region.ready _ _ _) := hi
                clear hi
                refine wpOp_plain rfl rfl ?_
                refine wp_veil (fun K hK => ?_)
                obtain ⟨s, hs, hs1⟩ := hI.good 6 (by omega) d6 hn
                have e1 : x.tmps[108]?.getD undef = _ := ev_tmp hs
                clear hs
                have HJ : Hid (Ix _ _ _ _ _ _ _ _ _ _ _) := hI
                have HO : Hid _ := ho
                clear hI ho
                go_simp
                have ho := HO.out
                exact hK.out _ _ (HJ.out.put HI.out (by omega) (Nat.le_of_ble_eq_true rfl) (inj23 (by omega)) (⟨_, rfl, by rw [size_front, hs1]; omega⟩) (fun j u _ _ h => h) (Vx.turn ho hn (by omega) ⟨hD, hsz⟩ (by omega)))
              · have hn : listed.getD 15 false = false := not_true (fun h => open_not ho (hI.tr 9 8 (by rfl) (hI.tr 12 9 (by rfl) (hI.tr 13 12 (by rfl) (hI.tr 15 13 (by rfl) h)))))
                obtain ⟨pc, ⟨hD, hsz⟩, hpc⟩ := hI.v.1 hn
                have HI : Hid (_ ∈ Region.ready _ _ _) := hi
                clear hi
                refine wpOp_plain rfl rfl ?_
                refine wp_veil (fun K hK => ?_)
                have e5 : x.tmps[3]?.getD undef = .pointer (some ⟨w2.heap.size, 0, none⟩) := ev_tmp (hI.out 3 (fun i hi => by unfold sl23; split <;> omega))
                have HJ : Hid (Ix _ _ _ _ _ _ _ _ _ _ _) := hI
                have HO : Hid _ := ho
                clear hI ho
                go_simp
                have ho := HO.out
                exact hK.out _ _ (HJ.out.put HI.out (by omega) (Nat.le_of_ble_eq_true rfl) (inj23 (by omega)) (rfl) (fun j u _ _ h => h) (Vx.turn ho hn (by omega) ⟨hD, hsz⟩ (by omega)))
              · have hn : listed.getD 15 false = false := not_true (fun h => open_not ho (hI.tr 12 9 (by rfl) (hI.tr 13 12 (by rfl) (hI.tr 15 13 (by rfl) h))))
                obtain ⟨pc, ⟨hD, hsz⟩, hpc⟩ := hI.v.1 hn
                have d8 := dep_of hi (j := 8) (by rfl)
                have HI : Hid (_ ∈ Region.ready _ _ _) := hi
                clear hi
                refine wpOp_plain rfl rfl ?_
                refine wp_veil (fun K hK => ?_)
                have e1 : x.tmps[110]?.getD undef = .pointer (some ⟨w2.heap.size, 2, none⟩) := ev_tmp (hI.good 8 (by omega) d8 hn)
                have k1 : y.cell? ⟨w2.heap.size, 2, none⟩ = some (.int .i64 m.ck) := hD.b 2
                have HJ : Hid (Ix _ _ _ _ _ _ _ _ _ _ _) := hI
                have HO : Hid _ := ho
                clear hI ho
                go_simp
                have ho := HO.out
                exact hK.out _ _ (HJ.out.put HI.out (by omega) (Nat.le_of_ble_eq_true rfl) (inj23 (by omega)) (rfl) (fun j u _ _ h => h) (Vx.turn ho hn (by omega) ⟨hD, hsz⟩ (by omega)))
              · have hn : listed.getD 15 false = false := not_true (fun h => open_not ho (hI.tr 11 10 (by rfl) (hI.tr 12 11 (by rfl) (hI.tr 13 12 (by rfl) (hI.tr 15 13 (by rfl) h)))))
                obtain ⟨pc, ⟨hD, hsz⟩, hpc⟩ := hI.v.1 hn
                have HI : Hid (_ ∈ Region.ready _ _ _) := hi
                clear hi
                refine wpOp_plain rfl rfl ?_
                refine wp_veil (fun K hK => ?_)
                have e5 : x.tmps[0]?.getD undef = .pointer (some ⟨kr, 0, none⟩) := ev_tmp (hI.out 0 (fun i hi => by unfold sl23; split <;> omega))
                have HJ : Hid (Ix _ _ _ _ _ _ _ _ _ _ _) := hI
                have HO : Hid _ := ho
                clear hI ho
                go_simp
                have ho := HO.out
                exact hK.out _ _ (HJ.out.put HI.out (by omega) (Nat.le_of_ble_eq_true rfl) (inj23 (by omega)) (rfl) (fun j u _ _ h => h) (Vx.turn ho hn (by omega) ⟨hD, hsz⟩ (by omega)))
              · have hn : listed.getD 15 false = false := not_true (fun h => open_not ho (hI.tr 12 11 (by rfl) (hI.tr 13 12 (by rfl) (hI.tr 15 13 (by rfl) h))))
                obtain ⟨pc, ⟨hD, hsz⟩, hpc⟩ := hI.v.1 hn
                have d10 := dep_of hi (j := 10) (by rfl)
                have HI : Hid (_ ∈ Region.ready _ _ _) := hi
                clear hi
                refine wpOp_plain rfl rfl ?_
                refine wp_veil (fun K hK => ?_)
                have e1 : x.tmps[112]?.getD undef = .pointer (some ⟨kr, 0, none⟩) := ev_tmp (hI.good 10 (by omega) d10 hn)
                have HJ : Hid (Ix _ _ _ _ _ _ _ _ _ _ _) := hI
                have HO : Hid _ := ho
                clear hI ho
                go_simp
                have ho := HO.out
                refine (pickQ kr pc 12 y hD.r (by omega) (by omega) (by omega)).mono ?_
                rintro e y' ⟨z, rfl, z0, z1, r9, e9⟩
                exact hK.out _ _ (HJ.out.put HI.out (by omega) (Nat.le_of_ble_eq_true rfl) (inj23 (by omega)) (⟨z, rfl, z0, by omega⟩) (fun j u _ _ h => G23d.keep e9 hkrw j u h) (Vx.turn ho hn (by omega) ⟨hD.pick e9 r9, Nat.le_trans hsz e9.size⟩ (by omega)))
              · have hn : listed.getD 15 false = false := not_true (fun h => open_not ho (hI.tr 13 12 (by rfl) (hI.tr 15 13 (by rfl) h)))
                obtain ⟨pc, ⟨hD, hsz⟩, hpc⟩ := hI.v.1 hn
                have d9 := dep_of hi (j := 9) (by rfl)
                have d11 := dep_of hi (j := 11) (by rfl)
                have HI : Hid (_ ∈ Region.ready _ _ _) := hi
                clear hi
                refine wpOp_plain rfl rfl ?_
                refine wp_veil (fun K hK => ?_)
                obtain ⟨z, hz, z0, z1⟩ := hI.good 11 (by omega) d11 hn
                have e1 : x.tmps[113]?.getD undef = _ := ev_tmp hz
                have e2 : x.tmps[111]?.getD undef = .int .i64 m.ck := ev_tmp (hI.good 9 (by omega) d9 hn)
                have iw : IntKind.i64.wrap (m.ck - z) = m.ck - z := by rw [IntKind.wrap_i64]; omega
                clear hz
                have HJ : Hid (Ix _ _ _ _ _ _ _ _ _ _ _) := hI
                have HO : Hid _ := ho
                clear hI ho
                go_simp
                have ho := HO.out
                exact hK.out _ _ (HJ.out.put HI.out (by omega) (Nat.le_of_ble_eq_true rfl) (inj23 (by omega)) (⟨m.ck - z, rfl, by omega, by omega⟩) (fun j u _ _ h => h) (Vx.turn ho hn (by omega) ⟨hD, hsz⟩ (by omega)))
              · have hn : listed.getD 15 false = false := not_true (fun h => open_not ho (hI.tr 15 13 (by rfl) h))
                obtain ⟨pc, ⟨hD, hsz⟩, hpc⟩ := hI.v.1 hn
                have d3 := dep_of hi (j := 3) (by rfl)
                have d7 := dep_of hi (j := 7) (by rfl)
                have d12 := dep_of hi (j := 12) (by rfl)
                have HI : Hid (_ ∈ Region.ready _ _ _) := hi
                clear hi
                refine wpOp_plain rfl rfl ?_
                refine wp_veil (fun K hK => ?_)
                obtain ⟨h, h1, hh⟩ := hI.good 3 (by omega) d3 hn
                obtain ⟨c, h2, hc⟩ := hI.good 7 (by omega) d7 hn
                obtain ⟨t, h3, t0, t1⟩ := hI.good 12 (by omega) d12 hn
                have e1 : x.tmps[105]?.getD undef = _ := ev_tmp h1
                have e2 : x.tmps[109]?.getD undef = _ := ev_tmp h2
                have e3 : x.tmps[114]?.getD undef = _ := ev_tmp h3
                clear h1 h2 h3
                have HJ : Hid (Ix _ _ _ _ _ _ _ _ _ _ _) := hI
                have HO : Hid _ := ho
                clear hI ho
                go_simp
                have ho := HO.out
                exact hK.out _ _ (HJ.out.put HI.out (by omega) (Nat.le_of_ble_eq_true rfl) (inj23 (by omega)) (⟨h, c, t, rfl, hh, hc, t0, t1⟩) (fun j u _ _ h => h) (Vx.turn ho hn (by omega) ⟨hD, hsz⟩ (by omega)))
              · have hn : listed.getD 15 false = false := not_true (fun h => open_not ho (hI.tr 15 14 (by rfl) h))
                obtain ⟨pc, ⟨hD, hsz⟩, hpc⟩ := hI.v.1 hn
                have HI : Hid (_ ∈ Region.ready _ _ _) := hi
                clear hi
                refine wpOp_plain rfl rfl ?_
                refine wp_veil (fun K hK => ?_)
                have HJ : Hid (Ix _ _ _ _ _ _ _ _ _ _ _) := hI
                have HO : Hid _ := ho
                clear hI ho
                go_simp
                have ho := HO.out
                have hbl : Below y.heap.size y (y.alloc (.cells #[.string { data := #[] }, .string { data := #[] }, .int .i64 0, .int .i64 0] 99)) := bl_alloc (Below.refl _ _) _
                have hg9 : New4 wr.heap.size (y.alloc (.cells #[.string { data := #[] }, .string { data := #[] }, .int .i64 0, .int .i64 0] 99)) (.pointer (some ⟨y.heap.size, 0, none⟩)) := ⟨y.heap.size, rfl, hsz, by simp, there4a y _⟩
                exact hK.out _ _ (HJ.out.put HI.out (by omega) (Nat.le_of_ble_eq_true rfl) (inj23 (by omega)) (hg9) (fun j u _ _ h => G23d.keep (Ex.of_below hbl) hkrw j u h) (Vx.turn ho hn (by omega) ⟨hD.below hbl, Nat.le_trans hsz hbl.size⟩ (by omega)))
              · have hn : listed.getD 15 false = false := not_true (fun h => open_not ho h)
                obtain ⟨pc, ⟨hD, hsz⟩, hpc⟩ := hI.v.1 hn
                have d14 := dep_of hi (j := 14) (by rfl)
                have d13 := dep_of hi (j := 13) (by rfl)
                have HI : Hid (_ ∈ Region.ready _ _ _) := hi
                clear hi
                refine wpOp_plain rfl rfl ?_
                refine wp_veil (fun K hK => ?_)
                obtain ⟨h, c, t, hv, hh, hc, ht0, ht1⟩ := hI.good 13 (by omega) d13 hn
                obtain ⟨u, hp, hu0, hu1, hth⟩ := hI.good 14 (by omega) d14 hn
                have hv : x.tmps.getD 115 undef = .agg #[.string h, .string c, .int .i64 0, .int .i64 t] := hv
                have hp : x.tmps.getD 8 undef = .pointer (some ⟨u, 0, none⟩) := hp
                refine wp_store_mid 99 _ _ rfl u 0 #[.string h, .string c, .int .i64 0, .int .i64 t] hp hv hth hinfoA (by simp [Value.oneCell']) ?_
                have he : Ex u y (y.setCells u 0 [.string h, .string c, .int .i64 0, .int .i64 t]) := (Ex.refl _ _).cells _ _
                have HD' : Dm w kr w2.heap.size { m with qs := qs, gs := gs } s1 s2 s3 s4 (pc) (y.setCells u 0 [.string h, .string c, .int .i64 0, .int .i64 t]) := hD.grown (A.ex_grown he) (fun a ha => by cases ha; omega) (fun a ha => by cases ha; exact ⟨ne_lt HL.out.1 hu0, ne_lt HL.out.2.1 hu0, ne_lt HL.out.2.2.1 hu0, ne_lt HL.out.2.2.2 hu0⟩)
                exact hK.out _ _ (hI.last (u := undef) HI.out (Vx.fin (set_same (by rw [hI.lz]; omega)) ⟨h, c, t, u, hp, (by unfold maxLen; omega), (by unfold maxLen; omega), ⟨ht0, ht1⟩, hu0, Nat.lt_of_lt_of_le hu1 he.size, World.rangeAt_setCells_same _ _ _ _ hth, World.there_setCells hth u 0 _, HD'.up (by omega)⟩))
          case rest =>
            obtain ⟨h, c, t, u, rfl, hhs, hcs, ⟨ht0, ht1⟩, hu0, hu1, hrng, hthu, HD5⟩ := hcut
            obtain ⟨a8, c8, hs8⟩ := HD5.out.l.a2.shape
            have hs8 : s2 = .slice a8 m.rs.length c8 := hs8
            subst hs8
            have RU : Hid (wc.rangeAt u 0 [.string h, .string (c), .int .i64 (0), .int .i64 (t)]) := hrng
            have TU : Hid (wc.there u 0 4) := hthu
            have hml : m.rs.length ≤ 4 := HDr.out.r1
            have hku : kr ≠ u := by omega
            have hukr : u ≠ kr := by omega
            have hbu : w2.heap.size < u := by omega
            have HN : Hid (s1.ownBlock ≠ some u ∧ (Value.slice a8 m.rs.length c8).ownBlock ≠ some u ∧ s3.ownBlock ≠ some u ∧ s4.ownBlock ≠ some u) := ⟨ne_lt HL.out.1 hu0, ne_lt HL.out.2.1 hu0, ne_lt HL.out.2.2.1 hu0, ne_lt HL.out.2.2.2 hu0⟩
            have HG : Hid (∀ g, (Value.slice a8 m.rs.length c8).ownBlock = some g → g ≠ u) := fun g hg e => HN.out.2.1 (by rw [hg, e])
            clear hrng hthu HK
            go_wp2_with fail
            go_loopw [9] (fun i wx => ∃ (j : Nat) (c : ByteArray), j ≤ m.rs.length ∧ i = .int .i64 j ∧ c.size ≤ maxLen ∧ Hid (wx.rangeAt u 0 [.string h, .string (c), .int .i64 (0), .int .i64 (t)]) ∧ Hid (wx.there u 0 4) ∧ u < wx.heap.size ∧ Hid (Dm w kr w2.heap.size { m with qs := qs, gs := gs } s1 (.slice a8 m.rs.length c8) s3 s4 (q + 800 + 40 * k + 16 + j) wx)) (fun i _ => m.rs.length - (intOf i).toNat)
            case atStart => exact ⟨0, c, Nat.zero_le _, rfl, hcs, RU.out, TU.out, hu1, Dm.up HD5.out (by omega)⟩
            case round =>
              obtain ⟨j, c, hj, rfl, hcs, RU, TU, hu1, HJ⟩ := hrel
              have kb6 := HJ.out.b 6
              by_cases hjl : j < m.rs.length
              · obtain ⟨g, cc, hv, hg1, hg2, hR, -⟩ := HJ.out.l.a2.blk (i := j) hjl
                have hv : Value.slice a8 m.rs.length c8 = .slice (some ⟨g, 0, none⟩) m.rs.length cc := hv
                simp only [Value.slice.injEq] at hv
                obtain ⟨rfl, -, rfl⟩ := hv
                obtain ⟨r, hr⟩ : ∃ r, m.rs[j]? = some r := ⟨m.rs[j], List.getElem?_eq_getElem hjl⟩
                have Hm : Hid (Small r) := HDr.out.r2 r (List.mem_of_getElem? hr)
                have hR := hR.at hr
                simp only [Nat.zero_add] at hR
                obtain ⟨cr0, -, cr2, -⟩ := hR
                have cu0 : wr.cell? ⟨u, 0, none⟩ = some (.string h) := by have h1 := RU.out 0 _ rfl; rwa [Nat.zero_add] at h1
                have j0 : (0 : Int) ≤ (j : Int) := by omega
                have j1 : (j : Int) < (m.rs.length : Int) := by omega
                have hgk : g ≠ kr := by have h1 := HJ.out.zw; have h2 := HJ.out.zk; omega
                have hgu : g ≠ u := HG.out g rfl
                clear hr
                cases hq : (r.h.toList == h.toList)
                · go_upto_region 27 with (fail)
                  go_quiet (fail)
                  go_wp2
                  have hd : Below wr.heap.size wr (wr.drewN nq) := bl_dnF (Below.refl _ _)
                  exact ⟨⟨j + 1, c, by omega, by go_num, hcs, (fun a v hv => (hd.cell (p := ⟨u, 0 + a, none⟩) hu1).trans (RU.out a v hv)), there_keep2 TU.out hu1 hd, Nat.lt_of_lt_of_le hu1 hd.size, Dm.up (HJ.out.below hd) (by omega)⟩, by simp [intOf]; omega⟩
                · go_upto_region 27 with (fail)
                  have KJ : Hid (∀ y, Ex kr wr y → (y.cell? ⟨w2.heap.size, 6, none⟩ = some (.slice (some ⟨g, 0, none⟩) m.rs.length c8) ∧ y.cell? ⟨g, j * 11 + 2, none⟩ = some (.string r.h) ∧ y.cell? ⟨u, 0, none⟩ = some (.string h))) := fun y he => ⟨(he.cell (p := ⟨w2.heap.size, 6, none⟩) HJ.out.z (by show w2.heap.size ≠ kr; have h1 := HJ.out.zw; have h2 := HJ.out.zk; omega)).trans kb6, (he.cell (p := ⟨g, j * 11 + 2, none⟩) hg2 hgk).trans cr2, (he.cell (p := ⟨u, 0, none⟩) hu1 hukr).trans cu0⟩
                  have hd0 : Ex kr wr wr.drew := Ex.of_below (bl_drew (Below.refl _ _))
                  have DJ : Hid (Dm w kr w2.heap.size { m with qs := qs, gs := gs } s1 (.slice (some ⟨g, 0, none⟩) m.rs.length c8) s3 s4 (q + 800 + 40 * k + 16 + j) wr.drew) := HJ.out.below (bl_drew (Below.refl _ _))
                  go_region_held3 (fun y => (y.cell? ⟨w2.heap.size, 6, none⟩ = some (.slice (some ⟨g, 0, none⟩) m.rs.length c8) ∧ y.cell? ⟨g, j * 11 + 2, none⟩ = some (.string r.h) ∧ y.cell? ⟨u, 0, none⟩ = some (.string h)))
                    (first | exact KJ.out _ hd0 | exact KJ.out _ (hd0.trans e9))
                    (first | (go_at_call 59; refine (pickQ kr _ 4 _ DJ.out.r (by omega) (by omega) (by omega)).mono ?_; rintro e y9 ⟨p9, rfl, p90, p91, r9, e9⟩))
                  have he9 : Ex kr wr y9 := hd0.trans e9
                  have DK : Hid (Dm w kr w2.heap.size { m with qs := qs, gs := gs } s1 (.slice (some ⟨g, 0, none⟩) m.rs.length c8) s3 s4 (q + 800 + 40 * k + 16 + j + 1) y9) := DJ.out.pick e9 r9
                  have R9 : Hid (y9.rangeAt u 0 [.string h, .string (c), .int .i64 (0), .int .i64 (t)]) := fun a v hv => (he9.cell (p := ⟨u, 0 + a, none⟩) hu1 hukr).trans (RU.out a v hv)
                  have T9 : Hid (y9.there u 0 4) := there_ex TU.out hu1 he9 hukr
                  have hu9 : u < y9.heap.size := Nat.lt_of_lt_of_le hu1 he9.size
                  have hg9 : g < y9.heap.size := Nat.lt_of_lt_of_le hg2 he9.size
                  have kc6 := DK.out.b 6
                  have kr0 : y9.cell? ⟨g, j * 11, none⟩ = some (.string r.c) := (he9.cell (p := ⟨g, j * 11, none⟩) hg2 hgk).trans cr0
                  obtain ⟨⟨x1, k1⟩, f1⟩ := cell_at T9.out 1 (by omega)
                  clear e9 r9 DJ KJ HJ hd0 he9 cr0 cr2 cu0 kb6
                  obtain ⟨y2, rfl⟩ : ∃ y2, y2 = y9 := ⟨_, rfl⟩
                  by_cases hp9 : 0 < p9
                  · go_wp2
                    have hE : Ex u y2 (y2.setCell ⟨u, 1, none⟩ (.string r.c)) := (Ex.refl _ _).set 1 _
                    exact ⟨⟨j + 1, r.c, by omega, by go_num, Hm.out.1, ask_set1 R9.out T9.out, World.there_setCells T9.out u 1 [.string r.c], Nat.lt_of_lt_of_le hu9 hE.size, Dm.up (DK.out.grown (A.ex_grown hE) (fun a ha => by cases ha; exact hbu) (fun a ha => by cases ha; exact HN.out)) (by omega)⟩, by simp [intOf]; omega⟩
                  · go_wp2
                    exact ⟨⟨j + 1, c, by omega, by go_num, hcs, R9.out, T9.out, hu9, Dm.up DK.out (by omega)⟩, by simp [intOf]; omega⟩
              · have hjm : j = m.rs.length := by omega
                subst hjm
                have cu3 := RU.out 3 _ rfl
                rw [Nat.zero_add] at cu3
                obtain ⟨⟨z3, k3⟩, f3⟩ := cell_at TU.out 3 (by omega)
                clear k3
                go_upto_if 148 with (fail)
                go_cut [] (fun wx => ∃ t' : Int, 0 ≤ t' ∧ t' ≤ 1000 ∧ Hid (wx.rangeAt u 0 [.string h, .string (c), .int .i64 (0), .int .i64 (t')]) ∧ Hid (wx.there u 0 4) ∧ u < wx.heap.size ∧ Hid (Dm w kr w2.heap.size { m with qs := qs, gs := gs } s1 (.slice a8 m.rs.length c8) s3 s4 (q + 800 + 40 * k + 16 + 4) wx))
                case first =>
                  by_cases htn : t < 0
                  · go_wp2_with fail
                    go_meet
                    have hE : Ex u wr (wr.setCell ⟨u, 3, none⟩ (.int .i64 0)) := (Ex.refl _ _).set 3 _
                    exact ⟨0, Int.le_refl _, by omega, ask_set RU.out TU.out rfl (by omega), World.there_setCells TU.out u 3 [.int .i64 0], Nat.lt_of_lt_of_le hu1 hE.size, Dm.up (HJ.out.grown (A.ex_grown hE) (fun a ha => by cases ha; exact hbu) (fun a ha => by cases ha; exact HN.out)) (by omega)⟩
                  · go_wp2_with fail
                    go_meet
                    exact ⟨t, by omega, ht1, RU.out, TU.out, hu1, Dm.up HJ.out (by omega)⟩
                case rest =>
                  obtain ⟨t', ht0', ht1', RA, TA, huA, DA⟩ := hcut
                  clear cu3 f3 RU TU HJ kb6
                  have ca3 := RA.out 3 _ rfl
                  rw [Nat.zero_add] at ca3
                  have KA : Hid (∀ y, Ex kr wc y → y.cell? ⟨u, 3, none⟩ = some (.int .i64 t')) := fun y he => (he.cell (p := ⟨u, 3, none⟩) huA hukr).trans ca3
                  have hd0 : Ex kr wc wc.drew := Ex.of_below (bl_drew (Below.refl _ _))
                  clear ca3
                  go_upto_region 31 with (fail)
                  go_cut [] (fun wx => ∃ f : Int, -1000 ≤ f ∧ f ≤ 1000 ∧ Hid (wx.rangeAt u 0 [.string h, .string (c), .int .i64 (f), .int .i64 (t')]) ∧ Hid (wx.there u 0 4) ∧ u < wx.heap.size ∧ Hid (Dm w kr w2.heap.size { m with qs := qs, gs := gs } s1 (.slice a8 m.rs.length c8) s3 s4 (q + 800 + 40 * k + 16 + 4 + 1) wx))
                  case first =>
                    refine wp_region_noPanic ?_
                    refine wp_region_held_drew (S := (fun y => y.cell? ⟨u, 3, none⟩ = some (.int .i64 t'))) (by kernel_rfl) (KA.out _ hd0) (fun hHeld => ?_)
                    refine wpAnyH_take (i := 0) (v := ?vx21) rfl (by kernel_rfl) (by kernel_rfl) (by kernel_rfl) (fun _ _ _ h => h) (Or.inl ⟨by rfl, ?hx21⟩) (by assumption) ?rx21
                    case hx21 => (intro w hSw; (try dsimp only at hSw); go_simp; try (with_reducible rfl))
                    try simp only [Act.put, List.setIfInBounds_toArray, List.set_cons_zero, List.set_cons_succ, List.getElem_toArray, List.getElem_cons_zero]
                    refine wpAnyH_take (i := 1) (v := ?vx22) rfl (by kernel_rfl) (by kernel_rfl) (by kernel_rfl) (fun _ _ _ h => h) (Or.inl ⟨by rfl, ?hx22⟩) (by assumption) ?rx22
                    case hx22 => (intro w hSw; (try dsimp only at hSw); go_simp; try (with_reducible rfl))
                    try simp only [Act.put, List.setIfInBounds_toArray, List.set_cons_zero, List.set_cons_succ, List.getElem_toArray, List.getElem_cons_zero, List.getElem_cons_succ]
                    refine wpAnyH_take (i := 2) (v := ?vx23) rfl (by kernel_rfl) (by kernel_rfl) (by kernel_rfl) (fun _ _ _ h => h) (Or.inl ⟨by rfl, ?hx23⟩) (by assumption) ?rx23
                    case hx23 => (intro w hSw; (try dsimp only at hSw); go_simp; try (with_reducible rfl))
                    try simp only [Act.put, List.setIfInBounds_toArray, List.set_cons_zero, List.set_cons_succ, List.getElem_toArray, List.getElem_cons_zero, List.getElem_cons_succ]
                    refine wpAnyH_ready (rs := [3]) (by kernel_rfl) (by simp) ?_
                    refine AllReadyH.cons rfl (fun K hK => ?_) AllReadyH.nil
                    go_simp
                    refine (pickQ kr _ 6 _ (DA.out.below (bl_drew (Below.refl _ _))).r (by omega) (by omega) (by omega)).mono ?_
                    rintro e y5 ⟨p5, rfl, p50, p51, r5, e5⟩
                    have he5 : Ex kr wc y5 := hd0.trans e5
                    have DB : Hid (Dm w kr w2.heap.size { m with qs := qs, gs := gs } s1 (.slice a8 m.rs.length c8) s3 s4 (q + 800 + 40 * k + 16 + 4 + 1) y5) := (DA.out.below (bl_drew (Below.refl _ _))).pick e5 r5
                    clear r5 e5
                    go_wp2_with fail
                    refine hK.out _ _ (KA.out _ he5) (fun hHeld1 => ?_)
                    clear hK K hHeld
                    try simp only [Act.put, List.setIfInBounds_toArray, List.set_cons_zero, List.set_cons_succ, List.getElem_toArray, List.getElem_cons_zero, List.getElem_cons_succ]
                    refine wpAnyH_take (i := 4) (v := ?vx24) rfl (by kernel_rfl) (by kernel_rfl) (by kernel_rfl) (fun _ _ _ h => h) (Or.inl ⟨by rfl, ?hx24⟩) (by assumption) ?rx24
                    case hx24 => (intro w hSw; (try dsimp only at hSw); go_simp; try (with_reducible rfl))
                    try simp only [Act.put, List.setIfInBounds_toArray, List.set_cons_zero, List.set_cons_succ, List.getElem_toArray, List.getElem_cons_zero, List.getElem_cons_succ]
                    refine wpAnyH_take (i := 5) (v := ?vx25) rfl (by kernel_rfl) (by kernel_rfl) (by kernel_rfl) (fun _ _ _ h => h) (Or.inl ⟨by rfl, ?hx25⟩) (by assumption) ?rx25
                    case hx25 => (intro w hSw; (try dsimp only at hSw); go_simp; try (with_reducible rfl))
                    try simp only [Act.put, List.setIfInBounds_toArray, List.set_cons_zero, List.set_cons_succ, List.getElem_toArray, List.getElem_cons_zero, List.getElem_cons_succ]
                    have RB : Hid (y5.rangeAt u 0 [.string h, .string (c), .int .i64 (0), .int .i64 (t')]) := fun a v hv => (he5.cell (p := ⟨u, 0 + a, none⟩) huA hukr).trans (RA.out a v hv)
                    have TB : Hid (y5.there u 0 4) := there_ex TA.out huA he5 hukr
                    have huB : u < y5.heap.size := Nat.lt_of_lt_of_le huA he5.size
                    obtain ⟨⟨z2, k2⟩, f2⟩ := cell_at TB.out 2 (by omega)
                    refine wpAnyH_ready (rs := [6]) (by kernel_rfl) (by simp) ?_
                    refine AllReadyH.cons rfl (fun K hK => ?_) AllReadyH.nil
                    go_simp
                    have hE5 : Ex u y5 (y5.setCell ⟨u, 2, none⟩ (.int .i64 (IntKind.i64.wrap (t' - p5)))) := (Ex.refl _ _).set 2 _
                    have RC : Hid ((y5.setCell ⟨u, 2, none⟩ (.int .i64 (IntKind.i64.wrap (t' - p5)))).rangeAt u 0 [.string h, .string (c), .int .i64 (IntKind.i64.wrap (t' - p5)), .int .i64 (t')]) := ask_set RB.out TB.out rfl (by omega)
                    refine hK.out _ _ (by have h1 := RC.out 3 _ rfl; rwa [Nat.zero_add] at h1) (fun hL => ?_)
                    clear hK K hHeld1 hL k2
                    try simp only [Act.put]
                    refine wpAnyH_done (by kernel_rfl) ?_ _
                    refine NoPanic.normal ?_
                    have TC : Hid ((y5.setCell ⟨u, 2, none⟩ (.int .i64 (IntKind.i64.wrap (t' - p5)))).there u 0 4) := World.there_setCells TB.out u 2 [.int .i64 (IntKind.i64.wrap (t' - p5))]
                    have huC : u < (y5.setCell ⟨u, 2, none⟩ (.int .i64 (IntKind.i64.wrap (t' - p5)))).heap.size := Nat.lt_of_lt_of_le huB hE5.size
                    have DC : Hid (Dm w kr w2.heap.size { m with qs := qs, gs := gs } s1 (.slice a8 m.rs.length c8) s3 s4 (q + 800 + 40 * k + 16 + 4 + 1) (y5.setCell ⟨u, 2, none⟩ (.int .i64 (IntKind.i64.wrap (t' - p5))))) := DB.out.grown (A.ex_grown hE5) (fun a ha => by cases ha; exact hbu) (fun a ha => by cases ha; exact HN.out)
                    go_wp2_with fail
                    go_meet
                    exact ⟨_, (by rw [IntKind.wrap_i64]; omega), (by rw [IntKind.wrap_i64]; omega), RC.out, TC.out, huC, DC.out⟩
                  case rest =>
                    obtain ⟨f, hf0, hf1, RC, TC, huC, DC⟩ := hcut
                    clear RA TA DA KA hd0
                    have cf2 := RC.out 2 _ rfl
                    rw [Nat.zero_add] at cf2
                    obtain ⟨-, ff2⟩ := cell_at TC.out 2 (by omega)
                    go_upto_if 158 with (fail)
                    go_cut [] (fun wx => ∃ f' : Int, Hid (wx.rangeAt u 0 [.string h, .string (c), .int .i64 (f'), .int .i64 (t')]) ∧ Hid (wx.there u 0 4) ∧ u < wx.heap.size ∧ Hid (Dm w kr w2.heap.size { m with qs := qs, gs := gs } s1 (.slice a8 m.rs.length c8) s3 s4 (q + 800 + 40 * k + 16 + 4 + 1) wx))
                    case first =>
                      by_cases hfn : f < 0
                      · go_wp2_with fail
                        go_meet
                        have hE6 : Ex u wc (wc.setCell ⟨u, 2, none⟩ (.int .i64 0)) := (Ex.refl _ _).set 2 _
                        exact ⟨0, ask_set RC.out TC.out rfl (by omega), World.there_setCells TC.out u 2 [.int .i64 0], Nat.lt_of_lt_of_le huC hE6.size, DC.out.grown (A.ex_grown hE6) (fun a ha => by cases ha; exact hbu) (fun a ha => by cases ha; exact HN.out)⟩
                      · go_wp2_with fail
                        go_meet
                        exact ⟨_, RC.out, TC.out, huC, DC.out⟩
                    case rest =>
                      obtain ⟨f', RD, TD, huD, DD⟩ := hcut
                      clear cf2 ff2 RC TC DC huC
                      go_wp2_with fail
                      refine (pickQ kr _ 4 _ DD.out.r (by omega) (by omega) (by omega)).mono ?_
                      rintro e y7 ⟨p7, rfl, p70, p71, r7, e7⟩
                      have D7 : Hid (Dm w kr w2.heap.size { m with qs := qs, gs := gs } s1 (.slice a8 m.rs.length c8) s3 s4 (q + 800 + 40 * k + 16 + 4 + 1 + 1) y7) := DD.out.pick e7 r7
                      have R7 : Hid (y7.rangeAt u 0 [.string h, .string (c), .int .i64 (f'), .int .i64 (t')]) := fun a v hv => (e7.cell (p := ⟨u, 0 + a, none⟩) huD hukr).trans (RD.out a v hv)
                      have hu7 : u < y7.heap.size := Nat.lt_of_lt_of_le huD e7.size
                      have da0 := R7.out 0 _ rfl
                      have da1 := R7.out 1 _ rfl
                      have da2 := R7.out 2 _ rfl
                      have da3 := R7.out 3 _ rfl
                      rw [Nat.zero_add] at da0 da1 da2 da3
                      have kb7 := D7.out.b 7
                      have kb8 := D7.out.b 8
                      have kz7 := D7.out.z
                      clear r7 e7 RD TD DD R7
                      rcases (by omega : p7 = 0 ∨ p7 = 1 ∨ p7 = 2 ∨ p7 = 3) with hp7 | hp7 | hp7 | hp7
                      · subst hp7
                        go_wp2_with (at_builtin; refine wpList_append_own_at _ rfl _ _ 25 rfl (w2.heap.size + 1) 99 ia _ 4 48 Try.underlying25 hia hza0 hza1 hza2 rfl (by decide) s3 qs.length _ rfl (by exact owns_below D7.out.l.a3 (bl_alloc (Below.refl _ _) _)) ⟨_, 0, none⟩ 1 1 (⟨h, c, f', t'⟩ : A.AskD).cells rfl rfl (A.new_cells _ _ (by simp) _ _ _ rfl) (A.cellsR_one _) (by unfold maxLen; omega) (by omega) (by have h1 := D7.out.z; simp; omega) ?_; intro v9 y9 ho hg hn hat; have DY : Hid (Dm w kr w2.heap.size { m with qs := qs, gs := gs } s1 (.slice a8 m.rs.length c8) s3 s4 (q + 800 + 40 * k + 16 + 4 + 1 + 1) (y7.alloc (.cells #[.string h, .string c, .int .i64 f', .int .i64 t'] 99))) := D7.out.below (bl_alloc (Below.refl _ _) _); have K9 := dm_rest DY.out hg (fun a ha => (DY.out.l.a3.lt a ha).1); have kb9 := K9.1; have kf9 := K9.2.1; clear K9; obtain ⟨a9, p9, hs9⟩ := ownsShape ho; subst hs9)
                        have HO : A.Ow y9 (.slice a9 (qs.length + 1) p9) (qs ++ [(⟨h, c, f', t'⟩ : A.AskD)]) (w2.heap.size + 1) := by
                          show World.ownsRow _ _ _ _ _ (qs ++ [(⟨h, c, f', t'⟩ : A.AskD)]).length _
                          rw [List.length_append]
                          simpa [A.flatR] using ho
                        exact ⟨⟨k + 1, qs ++ [(⟨h, c, f', t'⟩ : A.AskD)], gs, (.slice a9 (qs.length + 1) p9), s4, by omega, by go_num, (by simp; omega), by omega, fitsA_snoc HQf.out ⟨hhs, hcs⟩, HGf.out, Dm.up (Dm.app3 DY.out hg HO (by simpa using hat)) (by omega)⟩, by simp [intOf]; omega⟩
                      · subst hp7
                        go_wp2_with (at_builtin; refine wpList_append_own_at _ rfl _ _ 25 rfl (w2.heap.size + 1) 99 ia _ 4 48 Try.underlying25 hia hza0 hza1 hza2 rfl (by decide) s3 qs.length _ rfl (by exact owns_below D7.out.l.a3 (bl_alloc (Below.refl _ _) _)) ⟨_, 0, none⟩ 1 1 (⟨h, c, f', t'⟩ : A.AskD).cells rfl rfl (A.new_cells _ _ (by simp) _ _ _ rfl) (A.cellsR_one _) (by unfold maxLen; omega) (by omega) (by have h1 := D7.out.z; simp; omega) ?_; intro v9 y9 ho hg hn hat; have DY : Hid (Dm w kr w2.heap.size { m with qs := qs, gs := gs } s1 (.slice a8 m.rs.length c8) s3 s4 (q + 800 + 40 * k + 16 + 4 + 1 + 1) (y7.alloc (.cells #[.string h, .string c, .int .i64 f', .int .i64 t'] 99))) := D7.out.below (bl_alloc (Below.refl _ _) _); have K9 := dm_rest DY.out hg (fun a ha => (DY.out.l.a3.lt a ha).1); have kb9 := K9.1; have kf9 := K9.2.1; clear K9; obtain ⟨a9, p9, hs9⟩ := ownsShape ho; subst hs9)
                        have HO : A.Ow y9 (.slice a9 (qs.length + 1) p9) (qs ++ [(⟨h, c, f', t'⟩ : A.AskD)]) (w2.heap.size + 1) := by
                          show World.ownsRow _ _ _ _ _ (qs ++ [(⟨h, c, f', t'⟩ : A.AskD)]).length _
                          rw [List.length_append]
                          simpa [A.flatR] using ho
                        exact ⟨⟨k + 1, qs ++ [(⟨h, c, f', t'⟩ : A.AskD)], gs, (.slice a9 (qs.length + 1) p9), s4, by omega, by go_num, (by simp; omega), by omega, fitsA_snoc HQf.out ⟨hhs, hcs⟩, HGf.out, Dm.up (Dm.app3 DY.out hg HO (by simpa using hat)) (by omega)⟩, by simp [intOf]; omega⟩
                      · subst hp7
                        go_wp2_with (at_builtin; refine wpList_append_own_at _ rfl _ _ 25 rfl (w2.heap.size + 1) 99 ia _ 4 48 Try.underlying25 hia hza0 hza1 hza2 rfl (by decide) s4 gs.length _ rfl (by exact owns_below D7.out.l.a4 (bl_alloc (Below.refl _ _) _)) ⟨_, 0, none⟩ 1 1 (⟨h, c, f', t'⟩ : A.AskD).cells rfl rfl (A.new_cells _ _ (by simp) _ _ _ rfl) (A.cellsR_one _) (by unfold maxLen; omega) (by omega) (by have h1 := D7.out.z; simp; omega) ?_; intro v9 y9 ho hg hn hat; have DY : Hid (Dm w kr w2.heap.size { m with qs := qs, gs := gs } s1 (.slice a8 m.rs.length c8) s3 s4 (q + 800 + 40 * k + 16 + 4 + 1 + 1) (y7.alloc (.cells #[.string h, .string c, .int .i64 f', .int .i64 t'] 99))) := D7.out.below (bl_alloc (Below.refl _ _) _); have K9 := dm_rest DY.out hg (fun a ha => (DY.out.l.a4.lt a ha).1); have kb9 := K9.1; have kf9 := K9.2.1; clear K9; obtain ⟨a9, p9, hs9⟩ := ownsShape ho; subst hs9)
                        have HO : A.Ow y9 (.slice a9 (gs.length + 1) p9) (gs ++ [(⟨h, c, f', t'⟩ : A.AskD)]) (w2.heap.size + 1) := by
                          show World.ownsRow _ _ _ _ _ (gs ++ [(⟨h, c, f', t'⟩ : A.AskD)]).length _
                          rw [List.length_append]
                          simpa [A.flatR] using ho
                        exact ⟨⟨k + 1, qs, gs ++ [(⟨h, c, f', t'⟩ : A.AskD)], s3, (.slice a9 (gs.length + 1) p9), by omega, by go_num, by omega, (by simp; omega), HQf.out, fitsA_snoc HGf.out ⟨hhs, hcs⟩, Dm.up (Dm.app4 DY.out hg HO (by simpa using hat)) (by omega)⟩, by simp [intOf]; omega⟩
                      · subst hp7
                        go_wp2
                        exact ⟨⟨k + 1, qs, gs, s3, s4, by omega, by go_num, by omega, by omega, HQf.out, HGf.out, Dm.up D7.out (by omega)⟩, by simp [intOf]; omega⟩
        · have hk3 : k = 3 := by omega
          obtain ⟨e1, o1, hs1⟩ := HK.out.l.a1.shape
          obtain ⟨e2, o2, hs2⟩ := HK.out.l.a2.shape
          obtain ⟨e3, o3, hs3⟩ := HK.out.l.a3.shape
          obtain ⟨e4, o4, hs4⟩ := HK.out.l.a4.shape
          have hs1 : s1 = .slice e1 m.ws.length o1 := hs1
          have hs2 : s2 = .slice e2 m.rs.length o2 := hs2
          have hs3 : s3 = .slice e3 qs.length o3 := hs3
          have hs4 : s4 = .slice e4 gs.length o4 := hs4
          subst hs1 hs2 hs3 hs4
          have ho := ones { m with qs := qs, gs := gs } HK.out.l.a1.sl HK.out.l.a2.sl HK.out.l.a3.sl HK.out.l.a4.sl
          have kb := HK.out.b
          have kw := HK.out.zw
          have kz := HK.out.z
          have kk := HK.out.zk
          have hE : Ex w.heap.size wr (wr.setCells w.heap.size 0 [.string m.nm, .bool m.up, .int .i64 m.ck, .bool m.kn, .int .i64 m.se, .slice e1 m.ws.length o1, .slice e2 m.rs.length o2, .slice e3 qs.length o3, .slice e4 gs.length o4]) := (Ex.refl _ _).cells _ _
          have hg : wr.grownBy (wr.setCells w.heap.size 0 [.string m.nm, .bool m.up, .int .i64 m.ck, .bool m.kn, .int .i64 m.se, .slice e1 m.ws.length o1, .slice e2 m.rs.length o2, .slice e3 qs.length o3, .slice e4 gs.length o4]) (some w.heap.size) := A.ex_grown hE
          have Hg : Hid (wr.grownBy (wr.setCells w.heap.size 0 [.string m.nm, .bool m.up, .int .i64 m.ck, .bool m.kn, .int .i64 m.se, .slice e1 m.ws.length o1, .slice e2 m.rs.length o2, .slice e3 qs.length o3, .slice e4 gs.length o4]) (some w.heap.size)) := hg
          have HE : Hid (Ex w.heap.size wr (wr.setCells w.heap.size 0 [.string m.nm, .bool m.up, .int .i64 m.ck, .bool m.kn, .int .i64 m.se, .slice e1 m.ws.length o1, .slice e2 m.rs.length o2, .slice e3 qs.length o3, .slice e4 gs.length o4])) := hE
          have Ho : Hid (∀ u ∈ ([.string m.nm, .bool m.up, .int .i64 m.ck, .bool m.kn, .int .i64 m.se, .slice e1 m.ws.length o1, .slice e2 m.rs.length o2, .slice e3 qs.length o3, .slice e4 gs.length o4] : List Value), u.oneCell' = true) := ho
          have hcw : m.ws.length ≤ o1 := own_cap HK.out.l.a1
          clear hE hg ho hup hq0 hg0
          go_wp2_with (refine wpList_store_mid (by rfl) 27 _ _ (by rfl) w.heap.size 0 #[.string m.nm, .bool m.up, .int .i64 m.ck, .bool m.kn, .int .i64 m.se, .slice e1 m.ws.length o1, .slice e2 m.rs.length o2, .slice e3 qs.length o3, .slice e4 gs.length o4] (by rfl) (by rfl) (by exact HK.out.d) hinfo (by exact all_oneCell_toArray Ho.out) ?_)
          have hrg := World.rangeAt_setCells_same wr w.heap.size 0 [.string m.nm, .bool m.up, .int .i64 m.ck, .bool m.kn, .int .i64 m.se, .slice e1 m.ws.length o1, .slice e2 m.rs.length o2, .slice e3 qs.length o3, .slice e4 gs.length o4] HK.out.d
          have d0 := hrg 0 _ rfl
          have d1 := hrg 1 _ rfl
          have d2 := hrg 2 _ rfl
          have d3 := hrg 3 _ rfl
          have d4 := hrg 4 _ rfl
          have d5 := hrg 5 _ rfl
          have d6 := hrg 6 _ rfl
          have d7 := hrg 7 _ rfl
          have d8 := hrg 8 _ rfl
          simp only [Nat.zero_add] at d0 d1 d2 d3 d4 d5 d6 d7 d8
          have L := HK.out.l.ex HE.out (by omega)
          exact bodyPost_ret (v := .agg #[.string m.nm, .bool m.up, .int .i64 m.ck, .bool m.kn, .int .i64 m.se, .slice e1 m.ws.length o1, .slice e2 m.rs.length o2, .slice e3 qs.length o3, .slice e4 gs.length o4]) (by simp [results, Try.results121, go_sem, d0, d1, d2, d3, d4, d5, d6, d7, d8]) rfl ⟨{ m with qs := qs, gs := gs }, _, _, _, _, rfl, L.sl.low (by omega), (fun _ => L.a2.low (by omega)), ⟨_, _, rfl, hcw⟩, ⟨HDr.out.n, HDr.out.c0, HDr.out.c1, HDr.out.w1, HDr.out.w2, HDr.out.r1, HDr.out.r2, Nat.le_trans hql hk, HQf.out, Nat.le_trans hgl hk, HGf.out⟩, (HK.out.r.grown Hg.out (fun a ha => by cases ha; omega)).up (by omega), HK.out.e.grown Hg.out (fun a ha => by cases ha; exact Nat.le_refl _)⟩
end Go.Proofs.Ytkebokkckmgloaa
