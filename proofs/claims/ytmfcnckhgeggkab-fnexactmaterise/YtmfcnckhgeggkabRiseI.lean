/- MateRise: what it answers. -/
import Derived.Test.YtmfcnckhgeggkabMateC
import Derived.Test.YtmfcnckhgeggkabValidI2
import Derived.Test.YtmfcnckhgeggkabValidS
namespace Go.Proofs.Ytmfcnckhgeggkab
open Go.RowKit
set_option linter.unusedVariables false

def zeroD : MateD := ⟨{ data := #[] }, false, 0, false, 0, [], [], [], []⟩
/-- What a mate is that rose. -/
def Rises (m r : MateD) : Prop := (Valid m ∧ r = { m with up := m.up || decide (m.ck < 1000000) }) ∨ (¬ Valid m ∧ r = zeroD)
theorem Rises.one {m r r' : MateD} (h : Rises m r) (h' : Rises m r') : r = r' := by
  rcases h with ⟨h1, rfl⟩ | ⟨h1, rfl⟩ <;> rcases h' with ⟨h2, rfl⟩ | ⟨h2, rfl⟩
  · rfl
  · exact (h2 h1).elim
  · exact (h1 h2).elim
  · rfl
theorem slm_zero (w : World) (B : Nat) : SlM w zeroD (.slice none 0 0) (.slice none 0 0) (.slice none 0 0) (.slice none 0 0) B :=
  ⟨Or.inl ⟨rfl, rfl⟩, Or.inl ⟨rfl, rfl⟩, Or.inl ⟨rfl, rfl⟩, Or.inl ⟨rfl, rfl⟩, Or.inl rfl, Or.inl rfl, Or.inl rfl, Or.inl rfl, Or.inl rfl, Or.inl rfl⟩
theorem Sc.all {w x : World} {O : Array Value} (h : Sc w O x) (hO : O.size = 9) (l : List Value) (hl : l.length = 9) : Sc w l.toArray (x.setCells w.heap.size 0 l) := by
  have he : Ex w.heap.size x (x.setCells w.heap.size 0 l) := (Ex.refl _ _).cells _ _
  have hf := h.f
  have hth : x.there w.heap.size 0 l.length := fun j hj => by
    have h1 := h.b j
    have h2 : j < O.size := by omega
    rw [Array.getElem?_eq_getElem h2] at h1
    exact ⟨by rw [Nat.zero_add, h1]; rfl, by rw [Nat.zero_add]; exact h.c j⟩
  refine ⟨fun k => ?_, fun k => ?_, there_ex h.d (by omega) he (by omega), Ex.mono h.e he (Nat.le_refl _), Nat.lt_of_lt_of_le hf he.size⟩
  · by_cases e : k < l.length
    · have h1 := World.rangeAt_setCells_same x w.heap.size 0 l hth k l[k] (List.getElem?_eq_getElem e)
      rw [Nat.zero_add] at h1
      rw [h1]; simp [e]
    · rw [World.cell?_setCells_out _ _ _ _ _ (fun _ _ => Or.inr (by show 0 + l.length ≤ k; omega)), h.b k, Array.getElem?_eq_none (by omega), Array.getElem?_eq_none (by simp; omega)]
  · rw [World.frozen?_setCells]; exact h.c k
theorem Sc.box {w x : World} {O : Array Value} (h : Sc w O x) (hO : O.size = 9) : x.there w.heap.size 0 9 := fun j hj => by
  have h1 := h.b j
  have h2 : j < O.size := by omega
  rw [Array.getElem?_eq_getElem h2] at h1
  exact ⟨by rw [Nat.zero_add, h1]; rfl, by rw [Nat.zero_add]; exact h.c j⟩
theorem zeros_one : ∀ u ∈ ([.string { data := #[] }, .bool false, .int .i64 0, .bool false, .int .i64 0, .slice none 0 0, .slice none 0 0, .slice none 0 0, .slice none 0 0] : List Value), u.oneCell' = true := by
  intro u hu
  simp only [List.mem_cons, List.not_mem_nil, or_false] at hu
  rcases hu with rfl | rfl | rfl | rfl | rfl | rfl | rfl | rfl | rfl <;> rfl
theorem SlM.ex {w w' : World} {m : MateD} {s1 s2 s3 s4 : Value} {B k : Nat} (h : SlM w m s1 s2 s3 s4 B) (he : Ex k w w') (hk : k < B) : SlM w' m s1 s2 s3 s4 B :=
  ⟨h.a1.grown (W.ex_grown he) (ob_ne (N := k) (fun g hg => Nat.lt_of_lt_of_le hk (h.a1.lt g hg).1) (Nat.le_refl _)), h.a2.grown (ex_grown he) (ob_ne (N := k) (fun g hg => Nat.lt_of_lt_of_le hk (h.a2.lt g hg).1) (Nat.le_refl _)), h.a3.grown (A.ex_grown he) (ob_ne (N := k) (fun g hg => Nat.lt_of_lt_of_le hk (h.a3.lt g hg).1) (Nat.le_refl _)), h.a4.grown (A.ex_grown he) (ob_ne (N := k) (fun g hg => Nat.lt_of_lt_of_le hk (h.a4.lt g hg).1) (Nat.le_refl _)), h.d12, h.d13, h.d14, h.d23, h.d24, h.d34⟩
theorem SlM.low {w : World} {m : MateD} {s1 s2 s3 s4 : Value} {B B' : Nat} (h : SlM w m s1 s2 s3 s4 B) (hB : B' ≤ B) : SlM w m s1 s2 s3 s4 B' :=
  ⟨h.a1.low hB, h.a2.low hB, h.a3.low hB, h.a4.low hB, h.d12, h.d13, h.d14, h.d23, h.d24, h.d34⟩
theorem SlM.rise {w : World} {m : MateD} {s1 s2 s3 s4 : Value} {B : Nat} {u : Bool} (h : SlM w m s1 s2 s3 s4 B) : SlM w { m with up := u } s1 s2 s3 s4 B :=
  ⟨h.a1, h.a2, h.a3, h.a4, h.d12, h.d13, h.d14, h.d23, h.d24, h.d34⟩
theorem rises_up {m : MateD} (hv : Valid m) (hc : m.ck < 1000000) : Rises m { m with up := true } := Or.inl ⟨hv, by simp [hc]⟩
theorem rises_stay {m : MateD} (hv : Valid m) (hc : ¬ m.ck < 1000000) : Rises m { m with up := m.up } := Or.inl ⟨hv, by simp [hc]⟩
theorem Sc.put {w x : World} {O : Array Value} (h : Sc w O x) (l : List Value) : Below w.heap.size w (x.setCells (w.heap.size + 1) 0 l) :=
  Ex.mono h.e ((Ex.refl (w.heap.size + 1) x).cells l 0) (Nat.le_succ _)
theorem saysV_false {m : MateD} (h : SaysV false m) : ¬ Valid m := fun hv => by have := h.2 hv; cases this

set_option maxRecDepth 4000 in
set_option maxHeartbeats 4000000 in
theorem implRise (m : MateD) (b1 b2 b3 b4 : Nat) (w : World) (hL : Lists w m b1 b2 b3 b4) (hf : m.fits) :
    Calls Try.prog 35 #[.agg #[.string m.nm, .bool m.up, .int .i64 m.ck, .bool m.kn, .int .i64 m.se, .slice (some ⟨b1, 0, none⟩) m.ws.length m.ws.length, .slice (some ⟨b2, 0, none⟩) m.rs.length m.rs.length, .slice (some ⟨b3, 0, none⟩) m.qs.length m.qs.length, .slice (some ⟨b4, 0, none⟩) m.gs.length m.gs.length]] w fun e w' => (∃ r s1 s2 s3 s4, e = .returned (.agg #[.string r.nm, .bool r.up, .int .i64 r.ck, .bool r.kn, .int .i64 r.se, s1, s2, s3, s4]) ∧ Rises m r ∧ SlM w' r s1 s2 s3 s4 w.heap.size) ∧ Below w.heap.size w w' := by
  have S0 : Hid (Sc w #[.string m.nm, .bool m.up, .int .i64 m.ck, .bool m.kn, .int .i64 m.se, .slice (some ⟨b1, 0, none⟩) m.ws.length m.ws.length, .slice (some ⟨b2, 0, none⟩) m.rs.length m.rs.length, .slice (some ⟨b3, 0, none⟩) m.qs.length m.qs.length, .slice (some ⟨b4, 0, none⟩) m.gs.length m.gs.length] ((w.alloc (.cells #[.string m.nm, .bool m.up, .int .i64 m.ck, .bool m.kn, .int .i64 m.se, .slice (some ⟨b1, 0, none⟩) m.ws.length m.ws.length, .slice (some ⟨b2, 0, none⟩) m.rs.length m.rs.length, .slice (some ⟨b3, 0, none⟩) m.qs.length m.qs.length, .slice (some ⟨b4, 0, none⟩) m.gs.length m.gs.length] 55)).alloc (.cells #[.string { data := #[] }, .bool false, .int .i64 0, .bool false, .int .i64 0, .slice none 0 0, .slice none 0 0, .slice none 0 0, .slice none 0 0] 55))) := sc_new m b1 b2 b3 b4 w
  have hinfo : (Try.prog.info? 55).map (·.size) = some 9 := by kernel_rfl
  go_enter Try.func35, Try.ntmps35
  go_wp2_with fail
  refine (implValid m b1 b2 b3 b4 _ (hL.keep S0.out.e) hf).mono ?_
  rintro e w1 ⟨⟨q, rfl, hq⟩, c1⟩
  have S1 : Hid (Sc w #[.string m.nm, .bool m.up, .int .i64 m.ck, .bool m.kn, .int .i64 m.se, .slice (some ⟨b1, 0, none⟩) m.ws.length m.ws.length, .slice (some ⟨b2, 0, none⟩) m.rs.length m.rs.length, .slice (some ⟨b3, 0, none⟩) m.qs.length m.qs.length, .slice (some ⟨b4, 0, none⟩) m.gs.length m.gs.length] w1) := S0.out.below c1
  have Hq : Hid (SaysV q m) := hq
  clear hq c1
  have ka := S1.out.b
  have kf := S1.out.c
  cases q
  · go_wp2_with (refine wpList_store_mid (by rfl) 55 _ _ (by rfl) (w.heap.size + 1) 0 #[.string { data := #[] }, .bool false, .int .i64 0, .bool false, .int .i64 0, .slice none 0 0, .slice none 0 0, .slice none 0 0, .slice none 0 0] (by rfl) (by rfl) (by exact S1.out.d) hinfo (by exact all_oneCell_toArray zeros_one) ?_)
    have hrg := World.rangeAt_setCells_same w1 (w.heap.size + 1) 0 [.string { data := #[] }, .bool false, .int .i64 0, .bool false, .int .i64 0, .slice none 0 0, .slice none 0 0, .slice none 0 0, .slice none 0 0] S1.out.d
    have d0 := hrg 0 _ rfl
    have d1 := hrg 1 _ rfl
    have d2 := hrg 2 _ rfl
    have d3 := hrg 3 _ rfl
    have d4 := hrg 4 _ rfl
    have d5 := hrg 5 _ rfl
    have d6 := hrg 6 _ rfl
    have d7 := hrg 7 _ rfl
    have d8 := hrg 8 _ rfl
    simp only [Nat.zero_add] at d0 d1 d2 d3 d4 d5 d6 d7 d8
    exact bodyPost_ret (v := .agg #[.string { data := #[] }, .bool false, .int .i64 0, .bool false, .int .i64 0, .slice none 0 0, .slice none 0 0, .slice none 0 0, .slice none 0 0]) (by simp [results, Try.results35, go_sem, d0, d1, d2, d3, d4, d5, d6, d7, d8]) rfl ⟨⟨zeroD, _, _, _, _, rfl, Or.inr ⟨saysV_false Hq.out, rfl⟩, slm_zero _ _⟩, S1.out.put _⟩
  have hv : Hid (Valid m) := Hq.out.1 rfl
  have HC : Hid (m.ck < 1000000 ∨ ¬ m.ck < 1000000) := Decidable.em _
  go_wp2_with fail
  refine (freshMate_any m b1 b2 b3 b4 _ (hL.keep S1.out.e) hf).mono ?_
  rintro e w2 ⟨⟨s1, s2, s3, s4, rfl, r⟩, c2⟩
  have S2 : Hid (Sc w #[.string m.nm, .bool m.up, .int .i64 m.ck, .bool m.kn, .int .i64 m.se, .slice (some ⟨b1, 0, none⟩) m.ws.length m.ws.length, .slice (some ⟨b2, 0, none⟩) m.rs.length m.rs.length, .slice (some ⟨b3, 0, none⟩) m.qs.length m.qs.length, .slice (some ⟨b4, 0, none⟩) m.gs.length m.gs.length] w2) := S1.out.below c2
  have R2 : Hid (SlM w2 m s1 s2 s3 s4 w1.heap.size) := r
  obtain ⟨a1, p1, hs1⟩ := W.Sl.shape r.a1
  obtain ⟨a2, p2, hs2⟩ := Sl.shape r.a2
  obtain ⟨a3, p3, hs3⟩ := A.Sl.shape r.a3
  obtain ⟨a4, p4, hs4⟩ := A.Sl.shape r.a4
  subst hs1 hs2 hs3 hs4
  clear r c2 ka kf
  have S3 : Hid (Sc w #[.string m.nm, .bool m.up, .int .i64 m.ck, .bool m.kn, .int .i64 m.se, (.slice a1 m.ws.length p1), (.slice a2 m.rs.length p2), (.slice a3 m.qs.length p3), (.slice a4 m.gs.length p4)] (w2.setCells w.heap.size 0 [.string m.nm, .bool m.up, .int .i64 m.ck, .bool m.kn, .int .i64 m.se, (.slice a1 m.ws.length p1), (.slice a2 m.rs.length p2), (.slice a3 m.qs.length p3), (.slice a4 m.gs.length p4)])) := S2.out.all rfl _ rfl
  have S4 : Hid (Sc w #[.string m.nm, .bool true, .int .i64 m.ck, .bool m.kn, .int .i64 m.se, (.slice a1 m.ws.length p1), (.slice a2 m.rs.length p2), (.slice a3 m.qs.length p3), (.slice a4 m.gs.length p4)] ((w2.setCells w.heap.size 0 [.string m.nm, .bool m.up, .int .i64 m.ck, .bool m.kn, .int .i64 m.se, (.slice a1 m.ws.length p1), (.slice a2 m.rs.length p2), (.slice a3 m.qs.length p3), (.slice a4 m.gs.length p4)]).setCell ⟨w.heap.size, 1, none⟩ (.bool true))) := S3.out.set 1 (by simp) _
  have zb1 : w.heap.size + 1 < w1.heap.size := S1.out.f
  have zb : w.heap.size < w1.heap.size := by omega
  have ka := S3.out.b
  have kf := S3.out.c
  have kb := S4.out.b
  have kg := S4.out.c
  by_cases hc : m.ck < 1000000
  · go_wp2_with (first | (refine wpList_store_mid (by rfl) 55 _ _ (by rfl) w.heap.size 0 #[.string m.nm, .bool m.up, .int .i64 m.ck, .bool m.kn, .int .i64 m.se, (.slice a1 m.ws.length p1), (.slice a2 m.rs.length p2), (.slice a3 m.qs.length p3), (.slice a4 m.gs.length p4)] (by rfl) (by rfl) (by exact S2.out.box rfl) hinfo (by exact all_oneCell_toArray (ones m R2.out.a1 R2.out.a2 R2.out.a3 R2.out.a4)) ?_) | (refine wpList_store_mid (by rfl) 55 _ _ (by rfl) (w.heap.size + 1) 0 #[.string m.nm, .bool true, .int .i64 m.ck, .bool m.kn, .int .i64 m.se, (.slice a1 m.ws.length p1), (.slice a2 m.rs.length p2), (.slice a3 m.qs.length p3), (.slice a4 m.gs.length p4)] (by rfl) (by rfl) (by exact S4.out.d) hinfo (by exact all_oneCell_toArray (ones { m with up := true } R2.out.a1 R2.out.a2 R2.out.a3 R2.out.a4)) ?_))
    have hrg := World.rangeAt_setCells_same ((w2.setCells w.heap.size 0 [.string m.nm, .bool m.up, .int .i64 m.ck, .bool m.kn, .int .i64 m.se, (.slice a1 m.ws.length p1), (.slice a2 m.rs.length p2), (.slice a3 m.qs.length p3), (.slice a4 m.gs.length p4)]).setCell ⟨w.heap.size, 1, none⟩ (.bool true)) (w.heap.size + 1) 0 [.string m.nm, .bool true, .int .i64 m.ck, .bool m.kn, .int .i64 m.se, (.slice a1 m.ws.length p1), (.slice a2 m.rs.length p2), (.slice a3 m.qs.length p3), (.slice a4 m.gs.length p4)] S4.out.d
    have d0 := hrg 0 _ rfl
    have d1 := hrg 1 _ rfl
    have d2 := hrg 2 _ rfl
    have d3 := hrg 3 _ rfl
    have d4 := hrg 4 _ rfl
    have d5 := hrg 5 _ rfl
    have d6 := hrg 6 _ rfl
    have d7 := hrg 7 _ rfl
    have d8 := hrg 8 _ rfl
    simp only [Nat.zero_add] at d0 d1 d2 d3 d4 d5 d6 d7 d8
    exact bodyPost_ret (v := .agg #[.string m.nm, .bool true, .int .i64 m.ck, .bool m.kn, .int .i64 m.se, (.slice a1 m.ws.length p1), (.slice a2 m.rs.length p2), (.slice a3 m.qs.length p3), (.slice a4 m.gs.length p4)]) (by simp [results, Try.results35, go_sem, d0, d1, d2, d3, d4, d5, d6, d7, d8]) rfl ⟨⟨{ m with up := true }, _, _, _, _, rfl, rises_up hv.out hc, (((R2.out.ex ((Ex.refl _ _).cells _ _) zb).ex ((Ex.refl _ _).set 1 _) zb).ex ((Ex.refl _ _).cells _ _) zb1).low (Nat.le_of_lt zb) |>.rise⟩, S4.out.put _⟩
  · go_wp2_with (first | (refine wpList_store_mid (by rfl) 55 _ _ (by rfl) w.heap.size 0 #[.string m.nm, .bool m.up, .int .i64 m.ck, .bool m.kn, .int .i64 m.se, (.slice a1 m.ws.length p1), (.slice a2 m.rs.length p2), (.slice a3 m.qs.length p3), (.slice a4 m.gs.length p4)] (by rfl) (by rfl) (by exact S2.out.box rfl) hinfo (by exact all_oneCell_toArray (ones m R2.out.a1 R2.out.a2 R2.out.a3 R2.out.a4)) ?_) | (refine wpList_store_mid (by rfl) 55 _ _ (by rfl) (w.heap.size + 1) 0 #[.string m.nm, .bool m.up, .int .i64 m.ck, .bool m.kn, .int .i64 m.se, (.slice a1 m.ws.length p1), (.slice a2 m.rs.length p2), (.slice a3 m.qs.length p3), (.slice a4 m.gs.length p4)] (by rfl) (by rfl) (by exact S3.out.d) hinfo (by exact all_oneCell_toArray (ones m R2.out.a1 R2.out.a2 R2.out.a3 R2.out.a4)) ?_))
    have hrg := World.rangeAt_setCells_same (w2.setCells w.heap.size 0 [.string m.nm, .bool m.up, .int .i64 m.ck, .bool m.kn, .int .i64 m.se, (.slice a1 m.ws.length p1), (.slice a2 m.rs.length p2), (.slice a3 m.qs.length p3), (.slice a4 m.gs.length p4)]) (w.heap.size + 1) 0 [.string m.nm, .bool m.up, .int .i64 m.ck, .bool m.kn, .int .i64 m.se, (.slice a1 m.ws.length p1), (.slice a2 m.rs.length p2), (.slice a3 m.qs.length p3), (.slice a4 m.gs.length p4)] S3.out.d
    have d0 := hrg 0 _ rfl
    have d1 := hrg 1 _ rfl
    have d2 := hrg 2 _ rfl
    have d3 := hrg 3 _ rfl
    have d4 := hrg 4 _ rfl
    have d5 := hrg 5 _ rfl
    have d6 := hrg 6 _ rfl
    have d7 := hrg 7 _ rfl
    have d8 := hrg 8 _ rfl
    simp only [Nat.zero_add] at d0 d1 d2 d3 d4 d5 d6 d7 d8
    exact bodyPost_ret (v := .agg #[.string m.nm, .bool m.up, .int .i64 m.ck, .bool m.kn, .int .i64 m.se, (.slice a1 m.ws.length p1), (.slice a2 m.rs.length p2), (.slice a3 m.qs.length p3), (.slice a4 m.gs.length p4)]) (by simp [results, Try.results35, go_sem, d0, d1, d2, d3, d4, d5, d6, d7, d8]) rfl ⟨⟨{ m with up := m.up }, _, _, _, _, rfl, rises_stay hv.out (by omega), ((R2.out.ex ((Ex.refl _ _).cells _ _) zb).ex ((Ex.refl _ _).cells _ _) zb1).low (Nat.le_of_lt zb) |>.rise⟩, S3.out.put _⟩
end Go.Proofs.Ytmfcnckhgeggkab
