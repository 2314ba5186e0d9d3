/- MateRise: what it answers. -/
import Derived.Test.YtmfcnckhgeggkabMateC
import Derived.Test.YtmfcnckhgeggkabRiseI
import Derived.Test.YtmfcnckhgeggkabValidI2
import Derived.Test.YtmfcnckhgeggkabValidS
namespace Go.Proofs.Ytmfcnckhgeggkab
open Go.RowKit
set_option linter.unusedVariables false

set_option maxRecDepth 4000 in
set_option maxHeartbeats 4000000 in
theorem specRise (m : MateD) (b1 b2 b3 b4 : Nat) (w : World) (hL : Lists w m b1 b2 b3 b4) (hf : m.fits) :
    Calls Try.prog 34 #[.agg #[.string m.nm, .bool m.up, .int .i64 m.ck, .bool m.kn, .int .i64 m.se, .slice (some ⟨b1, 0, none⟩) m.ws.length m.ws.length, .slice (some ⟨b2, 0, none⟩) m.rs.length m.rs.length, .slice (some ⟨b3, 0, none⟩) m.qs.length m.qs.length, .slice (some ⟨b4, 0, none⟩) m.gs.length m.gs.length]] w fun e w' => (∃ r s1 s2 s3 s4, e = .returned (.agg #[.string r.nm, .bool r.up, .int .i64 r.ck, .bool r.kn, .int .i64 r.se, s1, s2, s3, s4]) ∧ Rises m r ∧ SlM w' r s1 s2 s3 s4 w.heap.size) ∧ Below w.heap.size w w' := by
  have S0 : Hid (Sc w #[.string m.nm, .bool m.up, .int .i64 m.ck, .bool m.kn, .int .i64 m.se, .slice (some ⟨b1, 0, none⟩) m.ws.length m.ws.length, .slice (some ⟨b2, 0, none⟩) m.rs.length m.rs.length, .slice (some ⟨b3, 0, none⟩) m.qs.length m.qs.length, .slice (some ⟨b4, 0, none⟩) m.gs.length m.gs.length] ((w.alloc (.cells #[.string m.nm, .bool m.up, .int .i64 m.ck, .bool m.kn, .int .i64 m.se, .slice (some ⟨b1, 0, none⟩) m.ws.length m.ws.length, .slice (some ⟨b2, 0, none⟩) m.rs.length m.rs.length, .slice (some ⟨b3, 0, none⟩) m.qs.length m.qs.length, .slice (some ⟨b4, 0, none⟩) m.gs.length m.gs.length] 55)).alloc (.cells #[.string { data := #[] }, .bool false, .int .i64 0, .bool false, .int .i64 0, .slice none 0 0, .slice none 0 0, .slice none 0 0, .slice none 0 0] 55))) := sc_new m b1 b2 b3 b4 w
  have hinfo : (Try.prog.info? 55).map (·.size) = some 9 := by kernel_rfl
  go_enter Try.func34, Try.ntmps34
  go_wp2_with fail
  refine (specValid m b1 b2 b3 b4 _ (hL.keep S0.out.e) hf).mono ?_
  rintro e w1 ⟨⟨q, rfl, hq⟩, c1⟩
  have S1 : Hid (Sc w #[.string m.nm, .bool m.up, .int .i64 m.ck, .bool m.kn, .int .i64 m.se, .slice (some ⟨b1, 0, none⟩) m.ws.length m.ws.length, .slice (some ⟨b2, 0, none⟩) m.rs.length m.rs.length, .slice (some ⟨b3, 0, none⟩) m.qs.length m.qs.length, .slice (some ⟨b4, 0, none⟩) m.gs.length m.gs.length] w1) := S0.out.below c1
  have Hq : Hid (SaysV q m) := hq
  clear hq c1
  have ka := S1.out.b
  have kf := S1.out.c
  cases q
  · go_wp2_with (refine wpList_store_mid (by rfl) 55 _ _ (by rfl) (w.heap.size + 1) 0 #[.string { data := #[] }, .bool false, .int .i64 0, .bool false, .int .i64 0, .slice none 0 0, .slice none 0 0, .slice none 0 0, .slice none 0 0] (by rfl) (by rfl) (by exact S1.out.d) hinfo (by exact all_oneCell_toArray zeros_one) ?_)
    have hrg := World.rangeAt_setCells_same w1 (w.heap.size + 1) 0 [.string { data := #[] }, .bool false, .int .i64 0, .bool false, .int .i64 0, .slice none 0 0, .slice none 0 0, .slice none 0 0, .slice none 0 0] S1.out.d
    have d0 := hrg 0 _ rfl
    have d1 := hrg 1 _ rfl
    have d2 := hrg 2 _ rfl
    have d3 := hrg 3 _ rfl
    have d4 := hrg 4 _ rfl
    have d5 := hrg 5 _ rfl
    have d6 := hrg 6 _ rfl
    have d7 := hrg 7 _ rfl
    have d8 := hrg 8 _ rfl
    simp only [Nat.zero_add] at d0 d1 d2 d3 d4 d5 d6 d7 d8
    exact bodyPost_ret (v := .agg #[.string { data := #[] }, .bool false, .int .i64 0, .bool false, .int .i64 0, .slice none 0 0, .slice none 0 0, .slice none 0 0, .slice none 0 0]) (by simp [results, Try.results34, go_sem, d0, d1, d2, d3, d4, d5, d6, d7, d8]) rfl ⟨⟨zeroD, _, _, _, _, rfl, Or.inr ⟨saysV_false Hq.out, rfl⟩, slm_zero _ _⟩, S1.out.put _⟩
  have hv : Hid (Valid m) := Hq.out.1 rfl
  go_wp2_with fail
  refine (l4Copy_any m b1 b2 b3 b4 _ (hL.keep S1.out.e) hf).mono ?_
  rintro e w2 ⟨⟨s1, s2, s3, s4, rfl, r⟩, c2⟩
  have S2 : Hid (Sc w #[.string m.nm, .bool m.up, .int .i64 m.ck, .bool m.kn, .int .i64 m.se, .slice (some ⟨b1, 0, none⟩) m.ws.length m.ws.length, .slice (some ⟨b2, 0, none⟩) m.rs.length m.rs.length, .slice (some ⟨b3, 0, none⟩) m.qs.length m.qs.length, .slice (some ⟨b4, 0, none⟩) m.gs.length m.gs.length] w2) := S1.out.below c2
  have R2 : Hid (SlM w2 m s1 s2 s3 s4 w1.heap.size) := r
  obtain ⟨a1, p1, hs1⟩ := W.Sl.shape r.a1
  obtain ⟨a2, p2, hs2⟩ := Sl.shape r.a2
  obtain ⟨a3, p3, hs3⟩ := A.Sl.shape r.a3
  obtain ⟨a4, p4, hs4⟩ := A.Sl.shape r.a4
  subst hs1 hs2 hs3 hs4
  clear r c2 ka kf
  have zb1 : w.heap.size + 1 < w1.heap.size := S1.out.f
  have zb : w.heap.size < w1.heap.size := by omega
  have zw : w.heap.size < w2.heap.size := by have := S2.out.f; omega
  have ka := S2.out.b
  have kf := S2.out.c
  by_cases hc : m.ck < 1000000
  · have S3 : Hid (Sc w #[.string m.nm, .bool m.up, .int .i64 m.ck, .bool m.kn, .int .i64 m.se, .slice (some ⟨b1, 0, none⟩) m.ws.length m.ws.length, .slice (some ⟨b2, 0, none⟩) m.rs.length m.rs.length, .slice (some ⟨b3, 0, none⟩) m.qs.length m.qs.length, .slice (some ⟨b4, 0, none⟩) m.gs.length m.gs.length] (w2.alloc (.cells #[.string m.nm, .bool true, .int .i64 m.ck, .bool m.kn, .int .i64 m.se, (.slice a1 m.ws.length p1), (.slice a2 m.rs.length p2), (.slice a3 m.qs.length p3), (.slice a4 m.gs.length p4)] 55))) := S2.out.below (bl_alloc (Below.refl _ _) _)
    have R3 : Hid (SlM (w2.alloc (.cells #[.string m.nm, .bool true, .int .i64 m.ck, .bool m.kn, .int .i64 m.se, (.slice a1 m.ws.length p1), (.slice a2 m.rs.length p2), (.slice a3 m.qs.length p3), (.slice a4 m.gs.length p4)] 55)) m (.slice a1 m.ws.length p1) (.slice a2 m.rs.length p2) (.slice a3 m.qs.length p3) (.slice a4 m.gs.length p4) w1.heap.size) := R2.out.keep (bl_alloc (Below.refl _ _) _)
    go_wp2_with (refine wpList_store_mid (by rfl) 55 _ _ (by rfl) (w.heap.size + 1) 0 #[.string m.nm, .bool true, .int .i64 m.ck, .bool m.kn, .int .i64 m.se, (.slice a1 m.ws.length p1), (.slice a2 m.rs.length p2), (.slice a3 m.qs.length p3), (.slice a4 m.gs.length p4)] (by rfl) (by rfl) (by exact S3.out.d) hinfo (by exact all_oneCell_toArray (ones { m with up := true } R2.out.a1 R2.out.a2 R2.out.a3 R2.out.a4)) ?_)
    have hrg := World.rangeAt_setCells_same (w2.alloc (.cells #[.string m.nm, .bool true, .int .i64 m.ck, .bool m.kn, .int .i64 m.se, (.slice a1 m.ws.length p1), (.slice a2 m.rs.length p2), (.slice a3 m.qs.length p3), (.slice a4 m.gs.length p4)] 55)) (w.heap.size + 1) 0 [.string m.nm, .bool true, .int .i64 m.ck, .bool m.kn, .int .i64 m.se, (.slice a1 m.ws.length p1), (.slice a2 m.rs.length p2), (.slice a3 m.qs.length p3), (.slice a4 m.gs.length p4)] S3.out.d
    have d0 := hrg 0 _ rfl
    have d1 := hrg 1 _ rfl
    have d2 := hrg 2 _ rfl
    have d3 := hrg 3 _ rfl
    have d4 := hrg 4 _ rfl
    have d5 := hrg 5 _ rfl
    have d6 := hrg 6 _ rfl
    have d7 := hrg 7 _ rfl
    have d8 := hrg 8 _ rfl
    simp only [Nat.zero_add] at d0 d1 d2 d3 d4 d5 d6 d7 d8
    exact bodyPost_ret (v := .agg #[.string m.nm, .bool true, .int .i64 m.ck, .bool m.kn, .int .i64 m.se, (.slice a1 m.ws.length p1), (.slice a2 m.rs.length p2), (.slice a3 m.qs.length p3), (.slice a4 m.gs.length p4)]) (by simp [results, Try.results34, go_sem, d0, d1, d2, d3, d4, d5, d6, d7, d8]) rfl ⟨⟨{ m with up := true }, _, _, _, _, rfl, rises_up hv.out hc, (R3.out.ex ((Ex.refl _ _).cells _ _) zb1).low (Nat.le_of_lt zb) |>.rise⟩, S3.out.put _⟩
  · have S3 : Hid (Sc w #[.string m.nm, .bool m.up, .int .i64 m.ck, .bool m.kn, .int .i64 m.se, .slice (some ⟨b1, 0, none⟩) m.ws.length m.ws.length, .slice (some ⟨b2, 0, none⟩) m.rs.length m.rs.length, .slice (some ⟨b3, 0, none⟩) m.qs.length m.qs.length, .slice (some ⟨b4, 0, none⟩) m.gs.length m.gs.length] (w2.alloc (.cells #[.string m.nm, .bool m.up, .int .i64 m.ck, .bool m.kn, .int .i64 m.se, (.slice a1 m.ws.length p1), (.slice a2 m.rs.length p2), (.slice a3 m.qs.length p3), (.slice a4 m.gs.length p4)] 55))) := S2.out.below (bl_alloc (Below.refl _ _) _)
    have R3 : Hid (SlM (w2.alloc (.cells #[.string m.nm, .bool m.up, .int .i64 m.ck, .bool m.kn, .int .i64 m.se, (.slice a1 m.ws.length p1), (.slice a2 m.rs.length p2), (.slice a3 m.qs.length p3), (.slice a4 m.gs.length p4)] 55)) m (.slice a1 m.ws.length p1) (.slice a2 m.rs.length p2) (.slice a3 m.qs.length p3) (.slice a4 m.gs.length p4) w1.heap.size) := R2.out.keep (bl_alloc (Below.refl _ _) _)
    go_wp2_with (refine wpList_store_mid (by rfl) 55 _ _ (by rfl) (w.heap.size + 1) 0 #[.string m.nm, .bool m.up, .int .i64 m.ck, .bool m.kn, .int .i64 m.se, (.slice a1 m.ws.length p1), (.slice a2 m.rs.length p2), (.slice a3 m.qs.length p3), (.slice a4 m.gs.length p4)] (by rfl) (by rfl) (by exact S3.out.d) hinfo (by exact all_oneCell_toArray (ones m R2.out.a1 R2.out.a2 R2.out.a3 R2.out.a4)) ?_)
    have hrg := World.rangeAt_setCells_same (w2.alloc (.cells #[.string m.nm, .bool m.up, .int .i64 m.ck, .bool m.kn, .int .i64 m.se, (.slice a1 m.ws.length p1), (.slice a2 m.rs.length p2), (.slice a3 m.qs.length p3), (.slice a4 m.gs.length p4)] 55)) (w.heap.size + 1) 0 [.string m.nm, .bool m.up, .int .i64 m.ck, .bool m.kn, .int .i64 m.se, (.slice a1 m.ws.length p1), (.slice a2 m.rs.length p2), (.slice a3 m.qs.length p3), (.slice a4 m.gs.length p4)] S3.out.d
    have d0 := hrg 0 _ rfl
    have d1 := hrg 1 _ rfl
    have d2 := hrg 2 _ rfl
    have d3 := hrg 3 _ rfl
    have d4 := hrg 4 _ rfl
    have d5 := hrg 5 _ rfl
    have d6 := hrg 6 _ rfl
    have d7 := hrg 7 _ rfl
    have d8 := hrg 8 _ rfl
    simp only [Nat.zero_add] at d0 d1 d2 d3 d4 d5 d6 d7 d8
    exact bodyPost_ret (v := .agg #[.string m.nm, .bool m.up, .int .i64 m.ck, .bool m.kn, .int .i64 m.se, (.slice a1 m.ws.length p1), (.slice a2 m.rs.length p2), (.slice a3 m.qs.length p3), (.slice a4 m.gs.length p4)]) (by simp [results, Try.results34, go_sem, d0, d1, d2, d3, d4, d5, d6, d7, d8]) rfl ⟨⟨{ m with up := m.up }, _, _, _, _, rfl, rises_stay hv.out (by omega), (R3.out.ex ((Ex.refl _ _).cells _ _) zb1).low (Nat.le_of_lt zb) |>.rise⟩, S3.out.put _⟩
end Go.Proofs.Ytmfcnckhgeggkab
