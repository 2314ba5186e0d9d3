import Derived.Test.YtefkdohkjdopeaaGreatDoorJ19
import Derived.Test.YtefkdohkjdopeaaGreatDoorJ08
namespace Go.Proofs.YtefkdohkjdopeaaGreatDoor.W
open Go.RowKit
theorem to_in3 {w : World} {v : Value} {l : List WantD} (h : In w v l) (hl : l.length ≤ 1048576) :
  Calls Tryz.prog 30 #[v] w fun e w' => e = .returned (.slice (some ⟨w.heap.size, 0, none⟩) l.length l.length) ∧ RowsAt w' w.heap.size 0 l ∧ w'.there w.heap.size 0 (l.length * 7) ∧ w.heap.size < w'.heap.size ∧ Below w.heap.size w w' := by
 rcases h with ⟨rfl, a, cap, rfl⟩ | ⟨b, off, cap, rfl, k2, k3, k4, k5⟩
 ·
  refine (to_nil a cap w).mono ?_
  rintro e w' ⟨rfl, h1, h2⟩
  exact ⟨rfl, fun k r h => by simp at h, fun j hj => by simp at hj, h1, h2⟩
 ·
  exact toWantS b off cap l w k4 k3 hl
end Go.Proofs.YtefkdohkjdopeaaGreatDoor.W
namespace Go.Proofs.YtefkdohkjdopeaaGreatDoor.G
open Go.RowKit
theorem to_in3 {w : World} {v : Value} {l : List GrantD} (h : In w v l) (hl : l.length ≤ 1048576) :
  Calls Tryz.prog 28 #[v] w fun e w' => e = .returned (.slice (some ⟨w.heap.size, 0, none⟩) l.length l.length) ∧ RowsAt w' w.heap.size 0 l ∧ w'.there w.heap.size 0 (l.length * 5) ∧ w.heap.size < w'.heap.size ∧ Below w.heap.size w w' := by
 rcases h with ⟨rfl, a, cap, rfl⟩ | ⟨b, off, cap, rfl, k2, k3, k4, k5⟩
 ·
  refine (to_nil a cap w).mono ?_
  rintro e w' ⟨rfl, h1, h2⟩
  exact ⟨rfl, fun k r h => by simp at h, fun j hj => by simp at hj, h1, h2⟩
 ·
  exact toGrantS b off cap l w k4 k3 hl
end Go.Proofs.YtefkdohkjdopeaaGreatDoor.G
namespace Go.Proofs.YtefkdohkjdopeaaGreatDoor.P
open Go.RowKit
set_option linter.unusedVariables false
def PlaceD.blk2 (B : Nat) (w : World) (r : PlaceD) : Prop := ∃ g, r.a = some ⟨g, 0, none⟩ ∧ r.c = r.ws.length ∧ B < g ∧ g < w.heap.size ∧ W.RowsAt w g 0 r.ws ∧ w.there g 0 (r.ws.length * 7)
theorem PlaceD.blk2.blk {B : Nat} {w : World} {r : PlaceD} (h : r.blk2 B w) : r.blk B w := by
 obtain ⟨g, h1, hc, h2, h3, h4, -⟩ := h
 exact ⟨g, h1, hc, h2, h3, h4⟩
theorem PlaceD.blk2.keep {B : Nat} {w w' : World} {r : PlaceD} (h : r.blk2 B w) (hB : Below w.heap.size w w') : r.blk2 B w' := by
 obtain ⟨g, h1, hc, h2, h3, h4, h5⟩ := h
 exact ⟨g, h1, hc, h2, Nat.lt_of_lt_of_le h3 hB.size, h4.keep h3 hB, there_keep2 h5 h3 hB⟩
theorem PlaceD.blk2.ex {B k : Nat} {w w' : World} {r : PlaceD} (h : r.blk2 B w) (he : Ex k w w') (hk : k ≤ B) : r.blk2 B w' := by
 obtain ⟨g, h1, hc, h2, h3, h4, h5⟩ := h
 exact ⟨g, h1, hc, h2, Nat.lt_of_lt_of_le h3 he.size, W.RowsAt.exq h4 h3 he (by omega), there_ex h5 h3 he (by omega)⟩
def Diff2 (qs : List PlaceD) : Prop := ∀ (i j : Nat) q r, i < j → qs[i]? = some q → qs[j]? = some r → q.a ≠ r.a
theorem diff2_snoc {qs : List PlaceD} {r : PlaceD} (h : Diff2 qs) (hn : ∀ q ∈ qs, q.a = r.a → False) : Diff2 (qs ++ [r]) := by
 intro i j q s hij hq hs
 have hjl : j < (qs ++ [r]).length := (List.getElem?_eq_some_iff.1 hs).1
 simp at hjl
 rw [List.getElem?_append_left (by omega)] at hq
 by_cases e : j < qs.length
 ·
  rw [List.getElem?_append_left e] at hs
  exact h i j q s hij hq hs
 ·
  rw [List.getElem?_append_right (by omega)] at hs
  have hz : j - qs.length = 0 := by omega
  rw [hz] at hs
  cases hs
  exact fun e => hn q (List.mem_of_getElem? hq) e
theorem ldo_made {w : World} {B b1 b2 : Nat} {gs : List G.GrantD} {qs : List PlaceD} (h : LandAt w gs qs b1 b2) (hB : B ≤ b1) (h12 : b1 < b2) (hk : ∀ q ∈ qs, q.blk2 b2 w) (hd : Diff2 qs) (t1 : w.there b1 0 (gs.length * 5)) (t2 : w.there b2 0 (qs.length * 3)) :
  LdO w B gs qs (.slice (some ⟨b1, 0, none⟩) gs.length gs.length) (.slice (some ⟨b2, 0, none⟩) qs.length qs.length) := by
 have own : ∀ {q : PlaceD} {g : Nat}, q ∈ qs → (Value.slice q.a q.ws.length q.c).ownBlock = some g → q.a = some ⟨g, 0, none⟩ ∧ b2 < g := by
  intro q g hq hg
  obtain ⟨x, e1, -, e2, -⟩ := hk q hq
  rw [e1] at hg ⊢
  have : x = g := Option.some.inj hg
  subst this
  exact ⟨rfl, e2⟩
 refine ⟨Or.inr ⟨b1, _, rfl, hB, h.g1, h.g, t1⟩, ⟨Or.inr ⟨b2, qs.length, by rw [List.length_map], by omega, h.p1, Pr.raw_rows h.p, by rw [List.length_map]; exact t2⟩, ?_, ?_, ?_⟩, ?_⟩
 ·
  intro j q hq
  obtain ⟨x, e1, e2, e3, e4, e5, e6⟩ := hk q (List.mem_of_getElem? hq)
  rw [e1]
  exact Or.inr ⟨x, _, rfl, by omega, e4, e5, e6⟩
 ·
  intro j q g hq hg e
  have h1 := (own (List.mem_of_getElem? hq) hg).2
  have h2 : b2 = g := Option.some.inj e
  omega
 ·
  intro i j q r g hij hq hr hg hg'
  exact hd i j q r hij hq hr ((own (List.mem_of_getElem? hq) hg).1.trans (own (List.mem_of_getElem? hr) hg').1.symm)
 ·
  rintro g hg (e | ⟨j, q, hq, e⟩)
  ·
   have h1 : b1 = g := Option.some.inj hg
   have h2 : b2 = g := Option.some.inj e
   omega
  ·
   have h1 : b1 = g := Option.some.inj hg
   have h2 := (own (List.mem_of_getElem? hq) e).2
   omega
set_option maxRecDepth 4000 in
set_option maxHeartbeats 4000000 in
theorem toPlace2 (r : PlaceD) (w : World) (hi : r.inn w) (hl : r.ws.length ≤ 1048576) :
  Calls Tryz.prog 50 #[.agg #[.string r.b, .int .i64 r.s, .slice r.a r.ws.length r.c]] w fun e w' => (∃ g, e = .returned (.agg #[.string r.b, .int .i64 r.s, .slice (some ⟨g, 0, none⟩) r.ws.length r.ws.length]) ∧ w.heap.size ≤ g ∧ g < w'.heap.size ∧ W.RowsAt w' g 0 r.ws ∧ w'.there g 0 (r.ws.length * 7)) ∧ Below w.heap.size w w' := by
 have S0 : Hid (St3 w #[.string r.b, .int .i64 r.s, .slice r.a r.ws.length r.c] #[.string r.b, .int .i64 r.s, .slice none 0 0] (((w.alloc (.cells #[.string r.b, .int .i64 r.s, .slice r.a r.ws.length r.c] 84)).alloc (.cells #[.string { data := #[] }, .int .i64 0, .slice none 0 0] 90)).alloc (.cells #[.string r.b, .int .i64 r.s, .slice none 0 0] 90))) := st3_new r w
 have Hi : Hid (r.inn w) := hi
 clear hi
 have hinfo : (Tryz.prog.info? 90).map (·.size) = some 3 := by kernel_rfl
 go_enter Tryz.func50, Tryz.ntmps50
 go_wp2_with fail
 have hto1 := W.to_in3 (Hi.out.2.keep S0.out.e) hl
 refine hto1.mono ?_
 clear hto1
 rintro e w1 ⟨rfl, r1, th1, z1, c1⟩
 have T1 : Hid (St3 w #[.string r.b, .int .i64 r.s, .slice r.a r.ws.length r.c] #[.string r.b, .int .i64 r.s, .slice none 0 0] w1) := S0.out.below c1
 have ka1 := T1.out.a
 have ko1 := T1.out.b
 have kf1 := T1.out.c
 have kz1 := T1.out.f
 obtain ⟨B, hB1⟩ : ∃ B, B = (((w.alloc (.cells #[.string r.b, .int .i64 r.s, .slice r.a r.ws.length r.c] 84)).alloc (.cells #[.string { data := #[] }, .int .i64 0, .slice none 0 0] 90)).alloc (.cells #[.string r.b, .int .i64 r.s, .slice none 0 0] 90)).heap.size := ⟨_, rfl⟩
 have HB1 : Hid (w.heap.size + 1 + 1 < B) := by rw [hB1]; exact S0.out.f
 have Q1 : Hid (W.RowsAt w1 B 0 r.ws) := by rw [hB1]; exact r1
 have LT1 : Hid (B < w1.heap.size) := by rw [hB1]; exact z1
 have TH1 : Hid (w1.there B 0 (r.ws.length * 7)) := by rw [hB1]; exact th1
 rw [← hB1]
 clear hB1 r1 th1 z1 c1
 have S1 : Hid (St3 w #[.string r.b, .int .i64 r.s, .slice r.a r.ws.length r.c] #[.string r.b, .int .i64 r.s, .slice (some ⟨B, 0, none⟩) r.ws.length r.ws.length] (w1.setCell ⟨w.heap.size + 1 + 1, 2, none⟩ (.slice (some ⟨B, 0, none⟩) r.ws.length r.ws.length))) := T1.out.set 2 (by simp) _
 have X1 : Hid (Ex (w.heap.size + 1 + 1) w1 (w1.setCell ⟨w.heap.size + 1 + 1, 2, none⟩ (.slice (some ⟨B, 0, none⟩) r.ws.length r.ws.length))) := Ex.set (Ex.refl _ _) 2 _
 have hx2 : Hid (Ex (w.heap.size + 1) (w1.setCell ⟨w.heap.size + 1 + 1, 2, none⟩ (.slice (some ⟨B, 0, none⟩) r.ws.length r.ws.length)) (World.setCells (w1.setCell ⟨w.heap.size + 1 + 1, 2, none⟩ (.slice (some ⟨B, 0, none⟩) r.ws.length r.ws.length)) (w.heap.size + 1) 0 [.string r.b, .int .i64 r.s, .slice (some ⟨B, 0, none⟩) r.ws.length r.ws.length])) := (Ex.refl _ _).cells _ _
 have RG : Hid _ := World.rangeAt_setCells_same (w1.setCell ⟨w.heap.size + 1 + 1, 2, none⟩ (.slice (some ⟨B, 0, none⟩) r.ws.length r.ws.length)) (w.heap.size + 1) 0 [.string r.b, .int .i64 r.s, .slice (some ⟨B, 0, none⟩) r.ws.length r.ws.length] S1.out.d
 have BE : Hid (Below w.heap.size w (World.setCells (w1.setCell ⟨w.heap.size + 1 + 1, 2, none⟩ (.slice (some ⟨B, 0, none⟩) r.ws.length r.ws.length)) (w.heap.size + 1) 0 [.string r.b, .int .i64 r.s, .slice (some ⟨B, 0, none⟩) r.ws.length r.ws.length])) := Ex.mono S1.out.e hx2.out (Nat.le_succ _)
 have RW : Hid (W.RowsAt (World.setCells (w1.setCell ⟨w.heap.size + 1 + 1, 2, none⟩ (.slice (some ⟨B, 0, none⟩) r.ws.length r.ws.length)) (w.heap.size + 1) 0 [.string r.b, .int .i64 r.s, .slice (some ⟨B, 0, none⟩) r.ws.length r.ws.length]) B 0 r.ws) := W.RowsAt.exq (W.RowsAt.exq Q1.out LT1.out X1.out (by have := HB1.out; omega)) (Nat.lt_of_lt_of_le LT1.out X1.out.size) hx2.out (by have := HB1.out; omega)
 have TH : Hid ((World.setCells (w1.setCell ⟨w.heap.size + 1 + 1, 2, none⟩ (.slice (some ⟨B, 0, none⟩) r.ws.length r.ws.length)) (w.heap.size + 1) 0 [.string r.b, .int .i64 r.s, .slice (some ⟨B, 0, none⟩) r.ws.length r.ws.length]).there B 0 (r.ws.length * 7)) := there_ex (there_ex TH1.out LT1.out X1.out (by have := HB1.out; omega)) (Nat.lt_of_lt_of_le LT1.out X1.out.size) hx2.out (by have := HB1.out; omega)
 have LB : Hid (w.heap.size ≤ B ∧ B < (World.setCells (w1.setCell ⟨w.heap.size + 1 + 1, 2, none⟩ (.slice (some ⟨B, 0, none⟩) r.ws.length r.ws.length)) (w.heap.size + 1) 0 [.string r.b, .int .i64 r.s, .slice (some ⟨B, 0, none⟩) r.ws.length r.ws.length]).heap.size) := ⟨by have := HB1.out; omega, Nat.lt_of_lt_of_le (Nat.lt_of_lt_of_le LT1.out X1.out.size) hx2.out.size⟩
 go_wp2_with (refine wpList_store_mid (by rfl) 90 _ _ (by rfl) (w.heap.size + 1) 0 #[.string r.b, .int .i64 r.s, .slice (some ⟨B, 0, none⟩) r.ws.length r.ws.length] (by rfl) (by rfl) (by exact S1.out.d) hinfo (by simp [Value.oneCell']) ?_)
 have hrg := RG.out
 have d0 := hrg 0 _ rfl
 have d1 := hrg 1 _ rfl
 have d2 := hrg 2 _ rfl
 simp only [Nat.zero_add] at d0 d1 d2
 exact bodyPost_ret (v := .agg #[.string r.b, .int .i64 r.s, .slice (some ⟨B, 0, none⟩) r.ws.length r.ws.length]) (by simp [results, Tryz.results50, go_sem, d0, d1, d2]) rfl ⟨⟨B, rfl, LB.out.1, LB.out.2, RW.out, TH.out⟩, BE.out⟩
set_option maxRecDepth 4000 in
set_option maxHeartbeats 2000000 in
theorem toPlaceS2 (b off cap : Nat) (rs : List PlaceD) (w : World) (hR : RowsAt w b off rs) (hb : b < w.heap.size) (hf : ∀ r ∈ rs, r.inn w) (hl : rs.length ≤ 1048576) (hL : Lns rs) :
  Calls Tryz.prog 29 #[.slice (some ⟨b, off, none⟩) rs.length cap] w fun e w' => (∃ qs : List PlaceD, Like qs rs ∧ e = .returned (.slice (some ⟨w.heap.size, 0, none⟩) qs.length qs.length) ∧ RowsAt w' w.heap.size 0 qs ∧ (∀ q ∈ qs, q.blk2 w.heap.size w') ∧ Diff2 qs ∧ w'.there w.heap.size 0 (qs.length * 3) ∧ w.heap.size < w'.heap.size) ∧ Below w.heap.size w w' := by
 obtain ⟨C, hC, hmk⟩ := make_places rs.length hl
 have hinfo : (Tryz.prog.info? 90).map (·.size) = some 3 := by kernel_rfl
 have HF : Hid _ := hf
 have HL : Hid _ := hL
 clear hf hL
 go_enter Tryz.func29, Tryz.ntmps29
 go_wp2
 go_loopw [4] (fun i wx => ∃ (k : Nat), k ≤ rs.length ∧ i = .int .i64 k ∧ Hid (∃ qs : List PlaceD, Like qs (rs.take k) ∧ RowsAt wx w.heap.size 0 qs ∧ (∀ q ∈ qs, q.blk2 w.heap.size wx) ∧ Diff2 qs) ∧ wx.there w.heap.size 0 (rs.length * 3) ∧ w.heap.size < wx.heap.size ∧ Below w.heap.size w wx) (fun i _ => rs.length - (intOf i).toNat)
 case atStart => exact ⟨0, Nat.zero_le _, rfl, ⟨[], rfl, (fun k r h => by simp at h), (fun q hq => by cases hq), fun i j q r _ h => by simp at h⟩, there_new hC, by simp, bl_alloc (Below.refl _ _) _⟩
 case round =>
  obtain ⟨k, hk, rfl, Hq, hth, hgz, hB⟩ := hrel
  clear hmk
  by_cases hlt : k < rs.length
  ·
   obtain ⟨r, hr⟩ : ∃ r, rs[k]? = some r := ⟨rs[k], List.getElem?_eq_getElem hlt⟩
   obtain ⟨c0, c1, c2⟩ := (hR.keep hb hB).at hr
   have Hr : Hid _ := hr
   clear hr
   go_wp2_with fail
   refine (toPlace2 r _ ((HF.out r (List.mem_of_getElem? Hr.out)).keep hB) (HL.out r (List.mem_of_getElem? Hr.out))).mono ?_
   rintro e w1 ⟨⟨g, rfl, g0, g1, hrw, hgt⟩, hb1⟩
   clear c0 c1 c2
   have hth1 : w1.there w.heap.size 0 (rs.length * 3) := fun j hj => ⟨by rw [hb1.cell (p := ⟨w.heap.size, 0 + j, none⟩) hgz]; exact (hth j hj).1, by rw [hb1.frozen (p := ⟨w.heap.size, 0 + j, none⟩) hgz]; exact (hth j hj).2⟩
   have hB1 := bl_trans hB hb1
   have hgz1 : w.heap.size < w1.heap.size := Nat.lt_of_lt_of_le hgz hb1.size
   have Hrw : Hid (w.heap.size < g ∧ g < w1.heap.size ∧ W.RowsAt w1 g 0 r.ws ∧ w1.there g 0 (r.ws.length * 7)) := ⟨Nat.lt_of_lt_of_le hgz g0, g1, hrw, hgt⟩
   have Hq1 : Hid (∃ qs : List PlaceD, Like qs (rs.take k) ∧ RowsAt w1 w.heap.size 0 qs ∧ (∀ q ∈ qs, q.blk2 w.heap.size w1) ∧ Diff2 qs ∧ ∀ q ∈ qs, ∀ x, q.a = some x → x.block < g) := by
    obtain ⟨qs, q1, q2, q3, q4⟩ := Hq.out
    exact ⟨qs, q1, q2.keep hgz hb1, fun q hq => (q3 q hq).keep hb1, q4, fun q hq x hx => by obtain ⟨y, e1, -, -, e2, -⟩ := q3 q hq; rw [hx] at e1; cases e1; show y < g; omega⟩
   clear hth hB hb1 hrw hgt g0 g1 Hq
   go_wp2_with (refine wpList_store_mid (by rfl) 90 _ _ (by rfl) w.heap.size (k * 3) #[.string r.b, .int .i64 r.s, .slice (some ⟨g, 0, none⟩) r.ws.length r.ws.length] (by rfl) (by rfl) (by exact there_part hth1 hlt) hinfo (by simp [Value.oneCell']) ?_)
   have hex : Ex w.heap.size w1 (w1.setCells w.heap.size (k * 3) [.string r.b, .int .i64 r.s, .slice (some ⟨g, 0, none⟩) r.ws.length r.ws.length]) := (Ex.refl _ _).cells _ _
   refine ⟨⟨k + 1, by omega, by go_num, ?_, World.there_setCells hth1 _ _ _, Nat.lt_of_lt_of_le hgz1 hex.size, Ex.mono hB1 hex (Nat.le_refl _)⟩, by simp [intOf]; omega⟩
   obtain ⟨qs, q1, q2, q3, q4, q5⟩ := Hq1.out
   have hz : qs.length = k := by have := q1.len; rw [List.length_take] at this; omega
   refine ⟨qs ++ [⟨r.b, r.s, some ⟨g, 0, none⟩, r.ws.length, r.ws⟩], ?_, ?_, ?_, diff2_snoc q4 (fun q hq e => by have := q5 q hq _ e; exact absurd this (by show ¬ g < g; omega))⟩
   ·
    have hr := Hr.out
    have he : rs[k] = r := by rw [List.getElem?_eq_getElem hlt] at hr; exact Option.some.inj hr
    unfold Like at q1 ⊢
    rw [List.take_succ_eq_append_getElem hlt, List.map_append, List.map_append, q1, he]
    rfl
   ·
    have := rows_snoc (q := ⟨r.b, r.s, some ⟨g, 0, none⟩, r.ws.length, r.ws⟩) q2 (by rw [hz]; exact there_part hth1 hlt)
    rw [hz] at this
    exact this
   ·
    intro q hq
    rcases List.mem_append.1 hq with h | h
    ·
     exact (q3 q h).ex hex (Nat.le_refl _)
    ·
     obtain rfl := List.mem_singleton.1 h
     exact PlaceD.blk2.ex ⟨g, rfl, rfl, Hrw.out.1, Hrw.out.2.1, Hrw.out.2.2.1, Hrw.out.2.2.2⟩ hex (Nat.le_refl _)
  ·
   go_wp2
   go_ret
   have e : rs.take k = rs := List.take_of_length_le (by omega)
   obtain ⟨qs, q1, q2, q3, q4⟩ := Hq.out
   rw [e] at q1
   exact ⟨⟨qs, q1, by rw [q1.len]; rfl, q2, q3, q4, by rw [q1.len]; exact hth, hgz⟩, hB⟩
theorem to_in2 {w : World} {v : Value} {l : List PlaceD} (h : In w v l) (hl : l.length ≤ 1048576) (hL : Lns l) :
  Calls Tryz.prog 29 #[v] w fun e w' => (∃ qs : List PlaceD, Like qs l ∧ e = .returned (.slice (some ⟨w.heap.size, 0, none⟩) qs.length qs.length) ∧ RowsAt w' w.heap.size 0 qs ∧ (∀ q ∈ qs, q.blk2 w.heap.size w') ∧ Diff2 qs ∧ w'.there w.heap.size 0 (qs.length * 3) ∧ w.heap.size < w'.heap.size) ∧ Below w.heap.size w w' := by
 rcases h with ⟨rfl, a, cap, rfl⟩ | ⟨b, off, cap, rfl, k2, k3, k4, k5⟩
 ·
  refine (to_nil a cap w).mono ?_
  rintro e w' ⟨rfl, h1, h2⟩
  exact ⟨⟨[], rfl, rfl, (fun k r h => by simp at h), (fun q hq => by cases hq), (fun i j q r _ h => by simp at h), (fun j hj => by simp at hj), h1⟩, h2⟩
 ·
  exact toPlaceS2 b off cap l w k4 k3 k5 hl hL
set_option maxRecDepth 4000 in
set_option maxHeartbeats 4000000 in
theorem toLand_o (t : Int) (gs : List G.GrantD) (ps : List PlaceD) (v1 v2 : Value) (w : World) (i1 : G.In w v1 gs) (i2 : In w v2 ps) (l1 : gs.length ≤ 1048576) (l2 : ps.length ≤ 1048576) (hL : Lns ps) :
  Calls Tryz.prog 7 #[.agg #[.int .i64 t, v1, v2]] w fun e w' => (∃ b1 b2 qs, e = .returned (.agg #[.int .i64 t, .slice (some ⟨b1, 0, none⟩) gs.length gs.length, .slice (some ⟨b2, 0, none⟩) qs.length qs.length]) ∧ Like qs ps ∧ LandAt w' gs qs b1 b2 ∧ LdO w' w.heap.size gs qs (.slice (some ⟨b1, 0, none⟩) gs.length gs.length) (.slice (some ⟨b2, 0, none⟩) qs.length qs.length)) ∧ Below w.heap.size w w' := by
 have S0 : Hid (St3 w #[.int .i64 t, v1, v2] #[.int .i64 t, .slice none 0 0, .slice none 0 0] (((w.alloc (.cells #[.int .i64 t, v1, v2] 25)).alloc (.cells #[.int .i64 0, .slice none 0 0, .slice none 0 0] 34)).alloc (.cells #[.int .i64 t, .slice none 0 0, .slice none 0 0] 34))) := st_land t v1 v2 w
 have HL : Hid _ := hL
 clear hL
 have hinfo : (Tryz.prog.info? 34).map (·.size) = some 3 := by kernel_rfl
 go_enter Tryz.func7, Tryz.ntmps7
 go_wp2_with fail
 have hto1 := G.to_in3 (i1.keep S0.out.e) l1
 refine hto1.mono ?_
 clear hto1
 rintro e w1 ⟨rfl, r1, th1, z1, c1⟩
 have T1 : Hid (St3 w #[.int .i64 t, v1, v2] #[.int .i64 t, .slice none 0 0, .slice none 0 0] w1) := S0.out.below c1
 have ka1 := T1.out.a
 have ko1 := T1.out.b
 have kf1 := T1.out.c
 have kz1 := T1.out.f
 obtain ⟨B1, hB1⟩ : ∃ B, B = (((w.alloc (.cells #[.int .i64 t, v1, v2] 25)).alloc (.cells #[.int .i64 0, .slice none 0 0, .slice none 0 0] 34)).alloc (.cells #[.int .i64 t, .slice none 0 0, .slice none 0 0] 34)).heap.size := ⟨_, rfl⟩
 have HB1 : Hid (w.heap.size + 1 + 1 < B1) := by rw [hB1]; exact S0.out.f
 have Q1 : Hid (G.RowsAt w1 B1 0 gs) := by rw [hB1]; exact r1
 have LT1 : Hid (B1 < w1.heap.size) := by rw [hB1]; exact z1
 have TH1 : Hid (w1.there B1 0 (gs.length * 5)) := by rw [hB1]; exact th1
 rw [← hB1]
 clear hB1 r1 th1 z1 c1
 have S1 : Hid (St3 w #[.int .i64 t, v1, v2] #[.int .i64 t, (.slice (some ⟨B1, 0, none⟩) gs.length gs.length), .slice none 0 0] (w1.setCell ⟨w.heap.size + 1 + 1, 1, none⟩ (.slice (some ⟨B1, 0, none⟩) gs.length gs.length))) := T1.out.set 1 (by simp) _
 have X1 : Hid (Ex (w.heap.size + 1 + 1) w1 (w1.setCell ⟨w.heap.size + 1 + 1, 1, none⟩ (.slice (some ⟨B1, 0, none⟩) gs.length gs.length))) := Ex.set (Ex.refl _ _) 1 _
 have Q1' : Hid (G.RowsAt (w1.setCell ⟨w.heap.size + 1 + 1, 1, none⟩ (.slice (some ⟨B1, 0, none⟩) gs.length gs.length)) B1 0 gs) := Q1.out.exq LT1.out X1.out (by have := HB1.out; omega)
 have LT1' : Hid (B1 < (w1.setCell ⟨w.heap.size + 1 + 1, 1, none⟩ (.slice (some ⟨B1, 0, none⟩) gs.length gs.length)).heap.size) := Nat.lt_of_lt_of_le LT1.out X1.out.size
 have TH1' : Hid ((w1.setCell ⟨w.heap.size + 1 + 1, 1, none⟩ (.slice (some ⟨B1, 0, none⟩) gs.length gs.length)).there B1 0 (gs.length * 5)) := there_ex TH1.out LT1.out X1.out (by have := HB1.out; omega)
 clear X1 Q1 LT1 TH1
 go_wp2_with fail
 clear ka1 ko1 kf1 kz1
 have hto2 := to_in2 (i2.keep S1.out.e) l2 HL.out
 refine hto2.mono ?_
 clear hto2
 rintro e w2 ⟨⟨qs, hs, rfl, r2, k2, df2, th2, z2⟩, c2⟩
 have T2 : Hid (St3 w #[.int .i64 t, v1, v2] #[.int .i64 t, (.slice (some ⟨B1, 0, none⟩) gs.length gs.length), .slice none 0 0] w2) := S1.out.below c2
 have ka2 := T2.out.a
 have ko2 := T2.out.b
 have kf2 := T2.out.c
 have kz2 := T2.out.f
 obtain ⟨B2, hB2⟩ : ∃ B, B = (w1.setCell ⟨w.heap.size + 1 + 1, 1, none⟩ (.slice (some ⟨B1, 0, none⟩) gs.length gs.length)).heap.size := ⟨_, rfl⟩
 have HB2 : Hid (w.heap.size + 1 + 1 < B2) := by rw [hB2]; exact S1.out.f
 have Q2 : Hid (RowsAt w2 B2 0 qs) := by rw [hB2]; exact r2
 have K2 : Hid (∀ q ∈ qs, q.blk2 B2 w2) := by rw [hB2]; exact k2
 have DF2 : Hid (Diff2 qs) := df2
 have TH2 : Hid (w2.there B2 0 (qs.length * 3)) := by rw [hB2]; exact th2
 have TH12 : Hid (w2.there B1 0 (gs.length * 5)) := there_keep2 TH1'.out LT1'.out c2
 have HB12 : Hid (B1 < B2) := by rw [hB2]; exact LT1'.out
 have LT2 : Hid (B2 < w2.heap.size) := by rw [hB2]; exact z2
 have HS : Hid (Like qs ps) := hs
 have Q12 : Hid (G.RowsAt w2 B1 0 gs) := Q1'.out.keep LT1'.out c2
 have LT12 : Hid (B1 < w2.heap.size) := Nat.lt_of_lt_of_le LT1'.out c2.size
 rw [← hB2]
 clear hB2 r2 z2 c2 k2 hs Q1' LT1' df2 th2 TH1'
 have S2 : Hid (St3 w #[.int .i64 t, v1, v2] #[.int .i64 t, (.slice (some ⟨B1, 0, none⟩) gs.length gs.length), (.slice (some ⟨B2, 0, none⟩) qs.length qs.length)] (w2.setCell ⟨w.heap.size + 1 + 1, 2, none⟩ (.slice (some ⟨B2, 0, none⟩) qs.length qs.length))) := T2.out.set 2 (by simp) _
 have X2 : Hid (Ex (w.heap.size + 1 + 1) w2 (w2.setCell ⟨w.heap.size + 1 + 1, 2, none⟩ (.slice (some ⟨B2, 0, none⟩) qs.length qs.length))) := Ex.set (Ex.refl _ _) 2 _
 have X3 : Hid (Ex (w.heap.size + 1) (w2.setCell ⟨w.heap.size + 1 + 1, 2, none⟩ (.slice (some ⟨B2, 0, none⟩) qs.length qs.length)) (World.setCells (w2.setCell ⟨w.heap.size + 1 + 1, 2, none⟩ (.slice (some ⟨B2, 0, none⟩) qs.length qs.length)) (w.heap.size + 1) 0 [.int .i64 t, (.slice (some ⟨B1, 0, none⟩) gs.length gs.length), (.slice (some ⟨B2, 0, none⟩) qs.length qs.length)])) := (Ex.refl _ _).cells _ _
 have LA2 : Hid (LandAt (World.setCells (w2.setCell ⟨w.heap.size + 1 + 1, 2, none⟩ (.slice (some ⟨B2, 0, none⟩) qs.length qs.length)) (w.heap.size + 1) 0 [.int .i64 t, (.slice (some ⟨B1, 0, none⟩) gs.length gs.length), (.slice (some ⟨B2, 0, none⟩) qs.length qs.length)]) gs qs B1 B2) := ⟨G.RowsAt.exq (G.RowsAt.exq Q12.out LT12.out X2.out (by have := HB1.out; omega)) (Nat.lt_of_lt_of_le LT12.out X2.out.size) X3.out (by have := HB1.out; omega), Nat.lt_of_lt_of_le (Nat.lt_of_lt_of_le LT12.out X2.out.size) X3.out.size,
  RowsAt.exq (RowsAt.exq Q2.out LT2.out X2.out (by have := HB2.out; omega)) (Nat.lt_of_lt_of_le LT2.out X2.out.size) X3.out (by have := HB2.out; omega), Nat.lt_of_lt_of_le (Nat.lt_of_lt_of_le LT2.out X2.out.size) X3.out.size,
  fun q hq => ((((K2.out q hq).ex X2.out (by have := HB2.out; omega)).ex X3.out (by have := HB2.out; omega)).blk).low (Nat.zero_le _)⟩
 have RG : Hid _ := World.rangeAt_setCells_same (w2.setCell ⟨w.heap.size + 1 + 1, 2, none⟩ (.slice (some ⟨B2, 0, none⟩) qs.length qs.length)) (w.heap.size + 1) 0 [.int .i64 t, (.slice (some ⟨B1, 0, none⟩) gs.length gs.length), (.slice (some ⟨B2, 0, none⟩) qs.length qs.length)] S2.out.d
 have BE : Hid (Below w.heap.size w (World.setCells (w2.setCell ⟨w.heap.size + 1 + 1, 2, none⟩ (.slice (some ⟨B2, 0, none⟩) qs.length qs.length)) (w.heap.size + 1) 0 [.int .i64 t, (.slice (some ⟨B1, 0, none⟩) gs.length gs.length), (.slice (some ⟨B2, 0, none⟩) qs.length qs.length)])) := Ex.mono S2.out.e X3.out (Nat.le_succ _)
 have KE : Hid (LdO (World.setCells (w2.setCell ⟨w.heap.size + 1 + 1, 2, none⟩ (.slice (some ⟨B2, 0, none⟩) qs.length qs.length)) (w.heap.size + 1) 0 [.int .i64 t, (.slice (some ⟨B1, 0, none⟩) gs.length gs.length), (.slice (some ⟨B2, 0, none⟩) qs.length qs.length)]) w.heap.size gs qs (.slice (some ⟨B1, 0, none⟩) gs.length gs.length) (.slice (some ⟨B2, 0, none⟩) qs.length qs.length)) := ldo_made LA2.out (by have := HB1.out; omega) HB12.out (fun q hq => ((K2.out q hq).ex X2.out (by have := HB2.out; omega)).ex X3.out (by have := HB2.out; omega)) DF2.out (there_ex (there_ex TH12.out LT12.out X2.out (by have := HB1.out; omega)) (Nat.lt_of_lt_of_le LT12.out X2.out.size) X3.out (by have := HB1.out; omega)) (there_ex (there_ex TH2.out LT2.out X2.out (by have := HB2.out; omega)) (Nat.lt_of_lt_of_le LT2.out X2.out.size) X3.out (by have := HB2.out; omega))
 clear X2 X3 Q2 K2 Q12 LT12 LT2
 go_wp2_with (refine wpList_store_mid (by rfl) 34 _ _ (by rfl) (w.heap.size + 1) 0 #[.int .i64 t, (.slice (some ⟨B1, 0, none⟩) gs.length gs.length), (.slice (some ⟨B2, 0, none⟩) qs.length qs.length)] (by rfl) (by rfl) (by exact S2.out.d) hinfo (by simp [Value.oneCell']) ?_)
 have hrg := RG.out
 have d0 := hrg 0 _ rfl
 have d1 := hrg 1 _ rfl
 have d2 := hrg 2 _ rfl
 simp only [Nat.zero_add] at d0 d1 d2
 exact bodyPost_ret (v := .agg #[.int .i64 t, (.slice (some ⟨B1, 0, none⟩) gs.length gs.length), (.slice (some ⟨B2, 0, none⟩) qs.length qs.length)]) (by simp [results, Tryz.results7, go_sem, d0, d1, d2]) rfl ⟨⟨B1, B2, qs, rfl, HS.out, LA2.out, KE.out⟩, BE.out⟩
end Go.Proofs.YtefkdohkjdopeaaGreatDoor.P
namespace Go.Proofs.YtefkdohkjdopeaaGreatDoor.P
open Go.RowKit
set_option linter.unusedVariables false
theorem In.inn {w : World} {v : Value} {l : List PlaceD} (h : In w v l) : ∀ r ∈ l, r.inn w := by
 rcases h with ⟨rfl, -⟩ | ⟨b, off, cap, h1, h2, h3, h4, h5⟩
 ·
  intro r hr; cases hr
 ·
  exact h5
theorem Fit.like {gs : List G.GrantD} {ps qs : List PlaceD} (h : Fit gs ps) (hs : Like qs ps) : Fit gs qs := by
 have get : ∀ q ∈ qs, ∃ p ∈ ps, q.b = p.b ∧ q.ws = p.ws := fun q hq => by
  obtain ⟨k, hk⟩ := List.getElem?_of_mem hq
  obtain ⟨p, hp, e1, e2, e3⟩ := hs.get hk
  exact ⟨p, List.mem_of_getElem? hp, e1, e3⟩
 refine ⟨h.g, fun q hq => ?_, h.gl, by rw [hs.len]; exact h.pl, fun q hq => ?_⟩
 ·
  obtain ⟨p, hp, e1, e2⟩ := get q hq
  rw [e1, e2]; exact h.p p hp
 ·
  obtain ⟨p, hp, e1, e2⟩ := get q hq
  rw [e2]; exact h.ln p hp
end Go.Proofs.YtefkdohkjdopeaaGreatDoor.P
