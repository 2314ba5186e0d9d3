import Derived.Test.YtefkdohkjdopeaaGreatDoorJ25
import Derived.Test.YtefkdohkjdopeaaGreatDoorJ19
namespace Go.Proofs.YtefkdohkjdopeaaGreatDoor
open Go.RowKit Go.Maps Go.WideMaps
set_option linter.unusedVariables false
def arrS (x : SaysC) : Array Value := #[.int .i64 x.1, .string x.2.1, .int .i64 x.2.2.1, .slice none 0 0, .string x.2.2.2.2.1, .string x.2.2.2.2.2.1, .int .i64 x.2.2.2.2.2.2]
def TakeEnds (t : Int) (p : TakeP) (gs : List G.GrantD) (ps : List P.PlaceD) (w w' : World) (d m1 m2 : Nat) (v er : Value) : Prop :=
 (er = .nilIface ∧ ∃ g9 x, (takeF t gs ps p).2 = [x] ∧ x.2.2.2.1 = [] ∧ v = .slice (some ⟨g9, 0, none⟩) 1 1 ∧ w.heap.size ≤ g9 ∧ w'.heap[g9]? = some (.cells (arrS x) 41 (0, 0)) ∧ Book w' d t m1 m2 (takeF t gs ps p).1 (ps.map Pr.raw)) ∨
  (takeF t gs ps p = (gs, []) ∧ v = .slice none 0 0 ∧ ∃ te pe, er = .iface te pe)
set_option maxRecDepth 4000 in
set_option maxHeartbeats 4000000 in
theorem take_any (d m1 m2 n : Nat) (t : Int) (p : TakeP) (s : Int) (a : Option Addr) (nw cw : Nat) (gs : List G.GrantD) (ps : List P.PlaceD) (w : World) (hB : Book w d t m1 m2 gs (ps.map Pr.raw)) (hn : n ≤ 1048576) (hown : w.ownsMap Tryz.prog 9 G.RV m1 n (G.dec gs)) (hd : d ≠ m1) (hsg : G.Srt gs) (hgl : gs.length ≤ 1048576) (hgf : ∀ g ∈ gs, g.h.size ≤ maxLen) (hs : Ord.Srt keyP ps) (hsrc : ∀ q ∈ ps, W.Src w q.a q.c q.ws) (hln : ∀ q ∈ ps, q.ws.length ≤ 1048576) (hf : p.fits) (ht : 0 ≤ t ∧ t ≤ 2000000)
  (hE1 : ∀ y, w.grownBy y (some m1) → ErrAt y 1) (hE2 : ∀ y, w.grownBy y (some m1) → ErrAt y 2) (hE3 : ∀ y, w.grownBy y (some m1) → ErrAt y 3) (hE4 : ∀ y, w.grownBy y (some m1) → ErrAt y 4) (hE5 : ∀ y, w.grownBy y (some m1) → ErrAt y 5) :
  Calls Tryz.prog 33 #[.pointer (some ⟨d, 0, none⟩), .agg #[.int .i64 p.k, .string p.b, .int .i64 s, .slice a nw cw, .string p.h, .string p.c, .int .i64 p.t]] w fun e w' => (∃ v er, e = .returned (.tuple #[v, er]) ∧ TakeEnds t p gs ps w w' d m1 m2 v er) ∧ w.grownBy w' (some m1) := by
 obtain ⟨W0, hW0⟩ : ∃ W0, W0 = w.alloc (.cells #[.int .i64 p.k, .string p.b, .int .i64 s, .slice a nw cw, .string p.h, .string p.c, .int .i64 p.t] 41) := ⟨_, rfl⟩
 have HW0 : Hid (W0 = w.alloc (.cells #[.int .i64 p.k, .string p.b, .int .i64 s, .slice a nw cw, .string p.h, .string p.c, .int .i64 p.t] 41)) := hW0
 have B0 : Hid (Below w.heap.size w W0) := by rw [hW0]; exact bl_alloc (Below.refl _ _) _
 obtain ⟨pb, hpb⟩ : ∃ pb, pb = w.heap.size := ⟨_, rfl⟩
 have ZB : Hid (pb < W0.heap.size) := by rw [hW0, hpb]; show _ < _; simp
 have KP : Hid (∀ y, Below W0.heap.size W0 y → ∀ j, y.cell? ⟨pb, j, none⟩ = (#[.int .i64 p.k, .string p.b, .int .i64 s, .slice a nw cw, .string p.h, .string p.c, .int .i64 p.t] : Array Value)[j]?) := by
  intro y hb j
  rw [hW0] at hb
  rw [hpb, box_keep hb j]
  simp [go_sem]
 have HN : Hid (Calls Tryz.prog 55 #[.agg #[.int .i64 p.k, .string p.b, .int .i64 s, .slice a nw cw, .string p.h, .string p.c, .int .i64 p.t]] W0 fun e w' => e = .returned (.bool p.good) ∧ Below W0.heap.size W0 w') := namesHold_any p s a nw cw W0 hf
 have UPG : ∀ {x y : World}, Below w.heap.size w x → x.grownBy y (some m1) → w.grownBy y (some m1) := fun hx hy => (below_grown hx (some m1)).andThen hy (fun j hj => Or.inr hj)
 have HG : Hid (∀ y, Below W0.heap.size W0 y → Calls Tryz.prog 56 #[.pointer (some ⟨d, 0, none⟩), .agg #[.int .i64 p.k, .string p.b, .int .i64 s, .slice a nw cw, .string p.h, .string p.c, .int .i64 p.t]] y fun e w' => (∃ v er, e = .returned (.tuple #[v, er]) ∧ ((GiveOk t p gs ps ∧ er = .nilIface ∧ ∃ g9, v = .slice (some ⟨g9, 0, none⟩) 1 1 ∧ y.heap.size ≤ g9 ∧ w'.heap[g9]? = some (.cells (arr3 p) 41 (0, 0)) ∧ Book w' d t m1 m2 (Ord.insS G.keyV (newG t p) (leftG t p.h gs)) (ps.map Pr.raw)) ∨ (¬ GiveOk t p gs ps ∧ v = .slice none 0 0 ∧ ∃ te pe, er = .iface te pe))) ∧ y.grownBy w' (some m1)) := fun y hy => by
  have hy2 := bl_trans B0.out hy
  exact give_any d m1 m2 n t p s a nw cw gs ps y (hB.keep hy2) hn (G.mapv_below hown hy2) hd hsg hgl hgf hs (fun q hq => (hsrc q hq).keep hy2) hln hf ht (fun z hz => hE3 z (UPG hy2 hz)) (fun z hz => hE4 z (UPG hy2 hz)) (fun z hz => hE5 z (UPG hy2 hz))
 have HT : Hid (∀ y, Below W0.heap.size W0 y → Calls Tryz.prog 57 #[.pointer (some ⟨d, 0, none⟩), .agg #[.int .i64 p.k, .string p.b, .int .i64 s, .slice a nw cw, .string p.h, .string p.c, .int .i64 p.t]] y fun e w' => (∃ g9, e = .returned (.slice (some ⟨g9, 0, none⟩) 1 1) ∧ y.heap.size ≤ g9 ∧ w'.heap[g9]? = some (.cells (arr5 p) 41 (0, 0))) ∧ Book w' d t m1 m2 (backG p gs) (ps.map Pr.raw) ∧ y.grownBy w' (some m1)) := fun y hy =>
  takeBack_any d m1 m2 t p s a nw cw gs (ps.map Pr.raw) y (hB.keep (bl_trans B0.out hy)) hd hsg hf
 have HE1 : Hid (∀ y, Below W0.heap.size W0 y → ErrAt y 1) := fun y hy => hE1 y (below_grown (bl_trans B0.out hy) _)
 have HE2 : Hid (∀ y, Below W0.heap.size W0 y → ErrAt y 2) := fun y hy => hE2 y (below_grown (bl_trans B0.out hy) _)
 clear hB hs hf hW0 hown hsg hgl hgf hsrc hln hn hd hE1 hE2 hE3 hE4 hE5 UPG
 go_enter Tryz.func33, Tryz.ntmps33
 go_upto_region 1 with fail
 rw [← HW0.out, ← hpb]
 have HPB : Hid (pb = w.heap.size) := hpb
 clear hpb
 have k0 : W0.cell? ⟨pb, 0, none⟩ = some (.int .i64 p.k) := KP.out W0 (Below.refl _ _) 0
 have k1 : W0.cell? ⟨pb, 1, none⟩ = some (.string p.b) := KP.out W0 (Below.refl _ _) 1
 have k2 : W0.cell? ⟨pb, 2, none⟩ = some (.int .i64 s) := KP.out W0 (Below.refl _ _) 2
 have k3 : W0.cell? ⟨pb, 3, none⟩ = some (.slice a nw cw) := KP.out W0 (Below.refl _ _) 3
 have k4 : W0.cell? ⟨pb, 4, none⟩ = some (.string p.h) := KP.out W0 (Below.refl _ _) 4
 have k5 : W0.cell? ⟨pb, 5, none⟩ = some (.string p.c) := KP.out W0 (Below.refl _ _) 5
 have k6 : W0.cell? ⟨pb, 6, none⟩ = some (.int .i64 p.t) := KP.out W0 (Below.refl _ _) 6
 go_wp2_with fail
 clear k0 k1 k2 k3 k4 k5 k6
 refine HN.out.mono ?_
 rintro e w1 ⟨rfl, c1⟩
 have C1 : Hid (Below W0.heap.size W0 w1) := c1
 clear c1
 cases q1 : p.good
 ·
  have HNO : Hid (takeF t gs ps p = (gs, [])) := by show _ = _; unfold takeF; rw [q1]; rfl
  clear q1
  obtain ⟨te, pe, hev⟩ := HE1.out w1 C1.out
  go_wp2_with fail
  go_quiet (fail)
  go_wp2
  refine bodyPost_ret (v := .tuple #[.slice none 0 0, .iface te pe]) (by simp [results, Tryz.results33, go_sem]) rfl ⟨⟨_, _, rfl, Or.inr ⟨HNO.out, rfl, te, pe, rfl⟩⟩, ?_⟩
  exact (below_grown (bl_trans B0.out C1.out) (some m1)).andThen (grown_drewN _ _) (fun j hj => Or.inr hj)
 ·
  have HGD : Hid (p.good = true) := q1
  clear q1
  have k0 : w1.cell? ⟨pb, 0, none⟩ = some (.int .i64 p.k) := KP.out w1 C1.out 0
  have k1 : w1.cell? ⟨pb, 1, none⟩ = some (.string p.b) := KP.out w1 C1.out 1
  have k2 : w1.cell? ⟨pb, 2, none⟩ = some (.int .i64 s) := KP.out w1 C1.out 2
  have k3 : w1.cell? ⟨pb, 3, none⟩ = some (.slice a nw cw) := KP.out w1 C1.out 3
  have k4 : w1.cell? ⟨pb, 4, none⟩ = some (.string p.h) := KP.out w1 C1.out 4
  have k5 : w1.cell? ⟨pb, 5, none⟩ = some (.string p.c) := KP.out w1 C1.out 5
  have k6 : w1.cell? ⟨pb, 6, none⟩ = some (.int .i64 p.t) := KP.out w1 C1.out 6
  have hzz : w.heap.size ≤ w1.heap.size := (bl_trans B0.out C1.out).size
  have HZZ : Hid (w.heap.size ≤ w1.heap.size) := hzz
  clear hzz
  cases q2 : (p.k == 2)
  ·
   cases q4 : (p.k == 4)
   ·
    have HNO : Hid (takeF t gs ps p = (gs, [])) := by
     have h2 : ¬ p.k = 2 := by simpa using q2
     have h4 : ¬ p.k = 4 := by simpa using q4
     show _ = _
     unfold takeF
     rw [HGD.out, if_pos rfl, if_neg h2, if_neg h4]
    obtain ⟨te, pe, hev⟩ := HE2.out w1 C1.out
    go_wp2_with fail
    go_quiet (fail)
    go_wp2
    refine bodyPost_ret (v := .tuple #[.slice none 0 0, .iface te pe]) (by simp [results, Tryz.results33, go_sem]) rfl ⟨⟨_, _, rfl, Or.inr ⟨HNO.out, rfl, te, pe, rfl⟩⟩, ?_⟩
    exact (below_grown (bl_trans B0.out C1.out) (some m1)).andThen (grown_drewN _ _) (fun j hj => Or.inr hj)
   ·
    have HF : Hid (takeF t gs ps p = (backG p gs, [(5, p.b, 0, [], p.h, ⟨#[]⟩, p.t)])) := by
     have h2 : ¬ p.k = 2 := by simpa using q2
     have h4 : p.k = 4 := by simpa using q4
     show _ = _
     unfold takeF
     rw [HGD.out, if_pos rfl, if_neg h2, if_pos h4]
    go_wp2_with fail
    clear k0 k1 k2 k3 k4 k5 k6 q2 q4
    refine (HT.out w1 C1.out).mono ?_
    rintro e w2 ⟨⟨g9, rfl, hg9, hrow⟩, hbk, hgr⟩
    have HR : Hid (w2.heap[g9]? = some (.cells (arr5 p) 41 (0, 0))) := hrow
    have HBK : Hid (Book w2 d t m1 m2 (backG p gs) (ps.map Pr.raw)) := hbk
    have HGR : Hid (w1.grownBy w2 (some m1)) := hgr
    have HG9 : Hid (w1.heap.size ≤ g9) := hg9
    clear hrow hbk hgr hg9
    go_wp2
    refine bodyPost_ret (v := .tuple #[.slice (some ⟨g9, 0, none⟩) 1 1, .nilIface]) (by simp [results, Tryz.results33, go_sem]) rfl ⟨⟨_, _, rfl, Or.inl ⟨rfl, g9, (5, p.b, 0, [], p.h, ⟨#[]⟩, p.t), by rw [HF.out], rfl, rfl, Nat.le_trans HZZ.out HG9.out, HR.out, by rw [HF.out]; exact HBK.out⟩⟩, ?_⟩
    exact (below_grown (bl_trans B0.out C1.out) (some m1)).andThen HGR.out (fun j hj => Or.inr hj)
  ·
   have HK2 : Hid (p.k = 2) := by show _ = _; simpa using q2
   go_wp2_with fail
   clear k0 k1 k2 k3 k4 k5 k6 q2
   refine (HG.out w1 C1.out).mono ?_
   rintro e w2 ⟨⟨v, er, rfl, hcase⟩, hgr⟩
   have HGR : Hid (w1.grownBy w2 (some m1)) := hgr
   clear hgr
   rcases hcase with ⟨hok, rfl, g9, rfl, hg9, hrow, hbk⟩ | ⟨hno, rfl, te, pe, rfl⟩
   ·
    have HF : Hid (takeF t gs ps p = (Ord.insS G.keyV (newG t p) (leftG t p.h gs), [(3, p.b, 0, [], p.h, p.c, p.t)])) := by
     show _ = _
     unfold takeF
     rw [HGD.out, if_pos rfl, if_pos HK2.out, if_pos (show wantedL p ps = true ∧ mayG t p gs = true ∧ roomG p.h (leftG t p.h gs) = true from hok)]
    have HR : Hid (w2.heap[g9]? = some (.cells (arr3 p) 41 (0, 0))) := hrow
    have HBK : Hid (Book w2 d t m1 m2 (Ord.insS G.keyV (newG t p) (leftG t p.h gs)) (ps.map Pr.raw)) := hbk
    have HG9 : Hid (w1.heap.size ≤ g9) := hg9
    clear hrow hbk hg9 hok
    go_wp2
    refine bodyPost_ret (v := .tuple #[.slice (some ⟨g9, 0, none⟩) 1 1, .nilIface]) (by simp [results, Tryz.results33, go_sem]) rfl ⟨⟨_, _, rfl, Or.inl ⟨rfl, g9, (3, p.b, 0, [], p.h, p.c, p.t), by rw [HF.out], rfl, rfl, Nat.le_trans HZZ.out HG9.out, HR.out, by rw [HF.out]; exact HBK.out⟩⟩, ?_⟩
    exact (below_grown (bl_trans B0.out C1.out) (some m1)).andThen HGR.out (fun j hj => Or.inr hj)
   ·
    have HNO : Hid (takeF t gs ps p = (gs, [])) := by
     show _ = _
     unfold takeF
     rw [HGD.out, if_pos rfl, if_pos HK2.out, if_neg (show ¬ (wantedL p ps = true ∧ mayG t p gs = true ∧ roomG p.h (leftG t p.h gs) = true) from hno)]
    clear hno
    go_wp2
    refine bodyPost_ret (v := .tuple #[.slice none 0 0, .iface te pe]) (by simp [results, Tryz.results33, go_sem]) rfl ⟨⟨_, _, rfl, Or.inr ⟨HNO.out, rfl, te, pe, rfl⟩⟩, ?_⟩
    exact (below_grown (bl_trans B0.out C1.out) (some m1)).andThen HGR.out (fun j hj => Or.inr hj)
end Go.Proofs.YtefkdohkjdopeaaGreatDoor
namespace Go.Proofs.YtefkdohkjdopeaaGreatDoor
open Go.RowKit Go.Maps Go.WideMaps
set_option linter.unusedVariables false
theorem tko_none {w : World} {B : Nat} {gs : List G.GrantD} {qs : List P.PlaceD} {s1 s2 : Value} (h : LdO w B gs qs s1 s2) : TkO w B gs qs [] s1 s2 (.slice none 0 0) :=
 ⟨h, PcO.nil w B, fun g _ hg => by rcases hg with e | ⟨j, q, hq, -⟩; cases e; simp at hq⟩
end Go.Proofs.YtefkdohkjdopeaaGreatDoor
