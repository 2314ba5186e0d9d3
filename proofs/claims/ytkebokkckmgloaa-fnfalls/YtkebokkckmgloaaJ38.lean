import Derived.Test.YtkebokkckmgloaaJ27
import Derived.Test.YtkebokkckmgloaaJ28
/- freshMate where lists may be nil. -/
namespace Go.Proofs.Ytkebokkckmgloaa
open Go.RowKit
set_option linter.unusedVariables false

set_option maxRecDepth 4000 in
set_option maxHeartbeats 4000000 in
theorem freshMateX (m : MateD) (x1 x2 x3 x4 : Option Addr) (n1 n2 n3 n4 : Nat) (w : World) (hL : SrcM w m x1 x2 x3 x4 n1 n2 n3 n4) (hf : m.fits) :
    Calls Try.prog 61 #[.agg #[.string m.nm, .bool m.up, .int .i64 m.ck, .bool m.kn, .int .i64 m.se, .slice x1 m.ws.length n1, .slice x2 m.rs.length n2, .slice x3 m.qs.length n3, .slice x4 m.gs.length n4]] w fun e w' => (∃ s1 s2 s3 s4, e = .returned (.agg #[.string m.nm, .bool m.up, .int .i64 m.ck, .bool m.kn, .int .i64 m.se, s1, s2, s3, s4]) ∧ SlM w' m s1 s2 s3 s4 w.heap.size) ∧ Below w.heap.size w w' := by
  have S0 : Hid (Sc w #[.string m.nm, .bool m.up, .int .i64 m.ck, .bool m.kn, .int .i64 m.se, .slice x1 m.ws.length n1, .slice x2 m.rs.length n2, .slice x3 m.qs.length n3, .slice x4 m.gs.length n4] ((w.alloc (.cells #[.string m.nm, .bool m.up, .int .i64 m.ck, .bool m.kn, .int .i64 m.se, .slice x1 m.ws.length n1, .slice x2 m.rs.length n2, .slice x3 m.qs.length n3, .slice x4 m.gs.length n4] 27)).alloc (.cells #[.string { data := #[] }, .bool false, .int .i64 0, .bool false, .int .i64 0, .slice none 0 0, .slice none 0 0, .slice none 0 0, .slice none 0 0] 27))) := sc_src m x1 x2 x3 x4 n1 n2 n3 n4 w
  have hinfo : (Try.prog.info? 27).map (·.size) = some 9 := by kernel_rfl
  go_enter Try.func61, Try.ntmps61
  go_wp2_with fail
  refine (W.fresh_src x1 n1 m.ws _ (hL.keep S0.out.e).r1 hf.k1).mono ?_
  rintro e w1 ⟨⟨s1, rfl, r1⟩, c1⟩
  obtain ⟨a1, p1, hs1⟩ := W.Sl.shape r1
  subst hs1
  have Q1 : Hid (W.Sl w1 (.slice a1 m.ws.length p1) m.ws ((w.alloc (.cells #[.string m.nm, .bool m.up, .int .i64 m.ck, .bool m.kn, .int .i64 m.se, .slice x1 m.ws.length n1, .slice x2 m.rs.length n2, .slice x3 m.qs.length n3, .slice x4 m.gs.length n4] 27)).alloc (.cells #[.string { data := #[] }, .bool false, .int .i64 0, .bool false, .int .i64 0, .slice none 0 0, .slice none 0 0, .slice none 0 0, .slice none 0 0] 27)).heap.size) := r1
  have Y1 : Hid (Below ((w.alloc (.cells #[.string m.nm, .bool m.up, .int .i64 m.ck, .bool m.kn, .int .i64 m.se, .slice x1 m.ws.length n1, .slice x2 m.rs.length n2, .slice x3 m.qs.length n3, .slice x4 m.gs.length n4] 27)).alloc (.cells #[.string { data := #[] }, .bool false, .int .i64 0, .bool false, .int .i64 0, .slice none 0 0, .slice none 0 0, .slice none 0 0, .slice none 0 0] 27)).heap.size ((w.alloc (.cells #[.string m.nm, .bool m.up, .int .i64 m.ck, .bool m.kn, .int .i64 m.se, .slice x1 m.ws.length n1, .slice x2 m.rs.length n2, .slice x3 m.qs.length n3, .slice x4 m.gs.length n4] 27)).alloc (.cells #[.string { data := #[] }, .bool false, .int .i64 0, .bool false, .int .i64 0, .slice none 0 0, .slice none 0 0, .slice none 0 0, .slice none 0 0] 27)) w1) := c1
  have T1 : Hid (Sc w #[.string m.nm, .bool m.up, .int .i64 m.ck, .bool m.kn, .int .i64 m.se, .slice x1 m.ws.length n1, .slice x2 m.rs.length n2, .slice x3 m.qs.length n3, .slice x4 m.gs.length n4] w1) := S0.out.below c1
  have ka1 := T1.out.b
  have kf1 := T1.out.c
  have kz1 := T1.out.f
  clear r1 c1
  have S1 : Hid (Sc w #[.string m.nm, .bool m.up, .int .i64 m.ck, .bool m.kn, .int .i64 m.se, (.slice a1 m.ws.length p1), .slice x2 m.rs.length n2, .slice x3 m.qs.length n3, .slice x4 m.gs.length n4] (w1.setCell ⟨w.heap.size, 5, none⟩ (.slice a1 m.ws.length p1))) := T1.out.set 5 (by simp) _
  have X1 : Hid (Ex w.heap.size w1 (w1.setCell ⟨w.heap.size, 5, none⟩ (.slice a1 m.ws.length p1))) := Ex.set (Ex.refl _ _) 5 _
  go_wp2_with fail
  clear ka1 kf1 kz1
  refine (fresh_src x2 n2 m.rs _ (hL.keep S1.out.e).r2 hf.k2).mono ?_
  rintro e w2 ⟨⟨s2, rfl, r2⟩, c2⟩
  obtain ⟨a2, p2, hs2⟩ := Sl.shape r2
  subst hs2
  have Q2 : Hid (Sl w2 (.slice a2 m.rs.length p2) m.rs (w1.setCell ⟨w.heap.size, 5, none⟩ (.slice a1 m.ws.length p1)).heap.size) := r2
  have Y2 : Hid (Below (w1.setCell ⟨w.heap.size, 5, none⟩ (.slice a1 m.ws.length p1)).heap.size (w1.setCell ⟨w.heap.size, 5, none⟩ (.slice a1 m.ws.length p1)) w2) := c2
  have T2 : Hid (Sc w #[.string m.nm, .bool m.up, .int .i64 m.ck, .bool m.kn, .int .i64 m.se, (.slice a1 m.ws.length p1), .slice x2 m.rs.length n2, .slice x3 m.qs.length n3, .slice x4 m.gs.length n4] w2) := S1.out.below c2
  have ka2 := T2.out.b
  have kf2 := T2.out.c
  have kz2 := T2.out.f
  clear r2 c2
  have S2 : Hid (Sc w #[.string m.nm, .bool m.up, .int .i64 m.ck, .bool m.kn, .int .i64 m.se, (.slice a1 m.ws.length p1), (.slice a2 m.rs.length p2), .slice x3 m.qs.length n3, .slice x4 m.gs.length n4] (w2.setCell ⟨w.heap.size, 6, none⟩ (.slice a2 m.rs.length p2))) := T2.out.set 6 (by simp) _
  have X2 : Hid (Ex w.heap.size w2 (w2.setCell ⟨w.heap.size, 6, none⟩ (.slice a2 m.rs.length p2))) := Ex.set (Ex.refl _ _) 6 _
  go_wp2_with fail
  clear ka2 kf2 kz2
  refine (A.fresh_src x3 n3 m.qs _ (hL.keep S2.out.e).r3 hf.k3).mono ?_
  rintro e w3 ⟨⟨s3, rfl, r3⟩, c3⟩
  obtain ⟨a3, p3, hs3⟩ := A.Sl.shape r3
  subst hs3
  have Q3 : Hid (A.Sl w3 (.slice a3 m.qs.length p3) m.qs (w2.setCell ⟨w.heap.size, 6, none⟩ (.slice a2 m.rs.length p2)).heap.size) := r3
  have Y3 : Hid (Below (w2.setCell ⟨w.heap.size, 6, none⟩ (.slice a2 m.rs.length p2)).heap.size (w2.setCell ⟨w.heap.size, 6, none⟩ (.slice a2 m.rs.length p2)) w3) := c3
  have T3 : Hid (Sc w #[.string m.nm, .bool m.up, .int .i64 m.ck, .bool m.kn, .int .i64 m.se, (.slice a1 m.ws.length p1), (.slice a2 m.rs.length p2), .slice x3 m.qs.length n3, .slice x4 m.gs.length n4] w3) := S2.out.below c3
  have ka3 := T3.out.b
  have kf3 := T3.out.c
  have kz3 := T3.out.f
  clear r3 c3
  have S3 : Hid (Sc w #[.string m.nm, .bool m.up, .int .i64 m.ck, .bool m.kn, .int .i64 m.se, (.slice a1 m.ws.length p1), (.slice a2 m.rs.length p2), (.slice a3 m.qs.length p3), .slice x4 m.gs.length n4] (w3.setCell ⟨w.heap.size, 7, none⟩ (.slice a3 m.qs.length p3))) := T3.out.set 7 (by simp) _
  have X3 : Hid (Ex w.heap.size w3 (w3.setCell ⟨w.heap.size, 7, none⟩ (.slice a3 m.qs.length p3))) := Ex.set (Ex.refl _ _) 7 _
  go_wp2_with fail
  clear ka3 kf3 kz3
  refine (A.fresh_src x4 n4 m.gs _ (hL.keep S3.out.e).r4 hf.k4).mono ?_
  rintro e w4 ⟨⟨s4, rfl, r4⟩, c4⟩
  obtain ⟨a4, p4, hs4⟩ := A.Sl.shape r4
  subst hs4
  have Q4 : Hid (A.Sl w4 (.slice a4 m.gs.length p4) m.gs (w3.setCell ⟨w.heap.size, 7, none⟩ (.slice a3 m.qs.length p3)).heap.size) := r4
  have Y4 : Hid (Below (w3.setCell ⟨w.heap.size, 7, none⟩ (.slice a3 m.qs.length p3)).heap.size (w3.setCell ⟨w.heap.size, 7, none⟩ (.slice a3 m.qs.length p3)) w4) := c4
  have T4 : Hid (Sc w #[.string m.nm, .bool m.up, .int .i64 m.ck, .bool m.kn, .int .i64 m.se, (.slice a1 m.ws.length p1), (.slice a2 m.rs.length p2), (.slice a3 m.qs.length p3), .slice x4 m.gs.length n4] w4) := S3.out.below c4
  have ka4 := T4.out.b
  have kf4 := T4.out.c
  have kz4 := T4.out.f
  clear r4 c4
  have S4 : Hid (Sc w #[.string m.nm, .bool m.up, .int .i64 m.ck, .bool m.kn, .int .i64 m.se, (.slice a1 m.ws.length p1), (.slice a2 m.rs.length p2), (.slice a3 m.qs.length p3), (.slice a4 m.gs.length p4)] (w4.setCell ⟨w.heap.size, 8, none⟩ (.slice a4 m.gs.length p4))) := T4.out.set 8 (by simp) _
  have X4 : Hid (Ex w.heap.size w4 (w4.setCell ⟨w.heap.size, 8, none⟩ (.slice a4 m.gs.length p4))) := Ex.set (Ex.refl _ _) 8 _
  have hx1 : Ex (w.heap.size + 1) (w4.setCell ⟨w.heap.size, 8, none⟩ (.slice a4 m.gs.length p4)) (World.setCells (w4.setCell ⟨w.heap.size, 8, none⟩ (.slice a4 m.gs.length p4)) (w.heap.size + 1) 0 [.string m.nm, .bool m.up, .int .i64 m.ck, .bool m.kn, .int .i64 m.se, (.slice a1 m.ws.length p1), (.slice a2 m.rs.length p2), (.slice a3 m.qs.length p3), (.slice a4 m.gs.length p4)]) := (Ex.refl _ _).cells _ _
  have P1 : Hid (W.Sl (World.setCells (w4.setCell ⟨w.heap.size, 8, none⟩ (.slice a4 m.gs.length p4)) (w.heap.size + 1) 0 [.string m.nm, .bool m.up, .int .i64 m.ck, .bool m.kn, .int .i64 m.se, (.slice a1 m.ws.length p1), (.slice a2 m.rs.length p2), (.slice a3 m.qs.length p3), (.slice a4 m.gs.length p4)]) (.slice a1 m.ws.length p1) m.ws w.heap.size) := W.Sl.low (((((((((Q1.out).grown (W.ex_grown X1.out) (ob_ne (N := w.heap.size + 1) (fun g hg => by have h1 := (Q1.out.lt g hg).1; have h2 := S0.out.f; omega) (by omega))).keep Y2.out).grown (W.ex_grown X2.out) (ob_ne (N := w.heap.size + 1) (fun g hg => by have h1 := (Q1.out.lt g hg).1; have h2 := S0.out.f; omega) (by omega))).keep Y3.out).grown (W.ex_grown X3.out) (ob_ne (N := w.heap.size + 1) (fun g hg => by have h1 := (Q1.out.lt g hg).1; have h2 := S0.out.f; omega) (by omega))).keep Y4.out).grown (W.ex_grown X4.out) (ob_ne (N := w.heap.size + 1) (fun g hg => by have h1 := (Q1.out.lt g hg).1; have h2 := S0.out.f; omega) (by omega))).grown (W.ex_grown hx1) (ob_ne (N := w.heap.size + 1) (fun g hg => by have h1 := (Q1.out.lt g hg).1; have h2 := S0.out.f; omega) (by omega))) (by have := S0.out.f; omega)
  have P2 : Hid (Sl (World.setCells (w4.setCell ⟨w.heap.size, 8, none⟩ (.slice a4 m.gs.length p4)) (w.heap.size + 1) 0 [.string m.nm, .bool m.up, .int .i64 m.ck, .bool m.kn, .int .i64 m.se, (.slice a1 m.ws.length p1), (.slice a2 m.rs.length p2), (.slice a3 m.qs.length p3), (.slice a4 m.gs.length p4)]) (.slice a2 m.rs.length p2) m.rs w.heap.size) := Sl.low (((((((Q2.out).grown (ex_grown X2.out) (ob_ne (N := w.heap.size + 1) (fun g hg => by have h1 := (Q2.out.lt g hg).1; have h2 := S1.out.f; omega) (by omega))).keep Y3.out).grown (ex_grown X3.out) (ob_ne (N := w.heap.size + 1) (fun g hg => by have h1 := (Q2.out.lt g hg).1; have h2 := S1.out.f; omega) (by omega))).keep Y4.out).grown (ex_grown X4.out) (ob_ne (N := w.heap.size + 1) (fun g hg => by have h1 := (Q2.out.lt g hg).1; have h2 := S1.out.f; omega) (by omega))).grown (ex_grown hx1) (ob_ne (N := w.heap.size + 1) (fun g hg => by have h1 := (Q2.out.lt g hg).1; have h2 := S1.out.f; omega) (by omega))) (by have := S1.out.f; omega)
  have P3 : Hid (A.Sl (World.setCells (w4.setCell ⟨w.heap.size, 8, none⟩ (.slice a4 m.gs.length p4)) (w.heap.size + 1) 0 [.string m.nm, .bool m.up, .int .i64 m.ck, .bool m.kn, .int .i64 m.se, (.slice a1 m.ws.length p1), (.slice a2 m.rs.length p2), (.slice a3 m.qs.length p3), (.slice a4 m.gs.length p4)]) (.slice a3 m.qs.length p3) m.qs w.heap.size) := A.Sl.low (((((Q3.out).grown (A.ex_grown X3.out) (ob_ne (N := w.heap.size + 1) (fun g hg => by have h1 := (Q3.out.lt g hg).1; have h2 := S2.out.f; omega) (by omega))).keep Y4.out).grown (A.ex_grown X4.out) (ob_ne (N := w.heap.size + 1) (fun g hg => by have h1 := (Q3.out.lt g hg).1; have h2 := S2.out.f; omega) (by omega))).grown (A.ex_grown hx1) (ob_ne (N := w.heap.size + 1) (fun g hg => by have h1 := (Q3.out.lt g hg).1; have h2 := S2.out.f; omega) (by omega))) (by have := S2.out.f; omega)
  have P4 : Hid (A.Sl (World.setCells (w4.setCell ⟨w.heap.size, 8, none⟩ (.slice a4 m.gs.length p4)) (w.heap.size + 1) 0 [.string m.nm, .bool m.up, .int .i64 m.ck, .bool m.kn, .int .i64 m.se, (.slice a1 m.ws.length p1), (.slice a2 m.rs.length p2), (.slice a3 m.qs.length p3), (.slice a4 m.gs.length p4)]) (.slice a4 m.gs.length p4) m.gs w.heap.size) := A.Sl.low (((Q4.out).grown (A.ex_grown X4.out) (ob_ne (N := w.heap.size + 1) (fun g hg => by have h1 := (Q4.out.lt g hg).1; have h2 := S3.out.f; omega) (by omega))).grown (A.ex_grown hx1) (ob_ne (N := w.heap.size + 1) (fun g hg => by have h1 := (Q4.out.lt g hg).1; have h2 := S3.out.f; omega) (by omega))) (by have := S3.out.f; omega)
  have D12 : Hid (Dif (.slice a1 m.ws.length p1) (.slice a2 m.rs.length p2)) := dif_lt (fun g hg => (Q1.out.lt g hg).2) (fun g hg => (Q2.out.lt g hg).1) (by have h0 := X1.out.size; omega)
  have D13 : Hid (Dif (.slice a1 m.ws.length p1) (.slice a3 m.qs.length p3)) := dif_lt (fun g hg => (Q1.out.lt g hg).2) (fun g hg => (Q3.out.lt g hg).1) (by have h0 := X1.out.size; have h1 := X2.out.size; have h2 := Y2.out.size; omega)
  have D14 : Hid (Dif (.slice a1 m.ws.length p1) (.slice a4 m.gs.length p4)) := dif_lt (fun g hg => (Q1.out.lt g hg).2) (fun g hg => (Q4.out.lt g hg).1) (by have h0 := X1.out.size; have h1 := X2.out.size; have h2 := X3.out.size; have h3 := Y2.out.size; have h4 := Y3.out.size; omega)
  have D23 : Hid (Dif (.slice a2 m.rs.length p2) (.slice a3 m.qs.length p3)) := dif_lt (fun g hg => (Q2.out.lt g hg).2) (fun g hg => (Q3.out.lt g hg).1) (by have h0 := X2.out.size; omega)
  have D24 : Hid (Dif (.slice a2 m.rs.length p2) (.slice a4 m.gs.length p4)) := dif_lt (fun g hg => (Q2.out.lt g hg).2) (fun g hg => (Q4.out.lt g hg).1) (by have h0 := X2.out.size; have h1 := X3.out.size; have h2 := Y3.out.size; omega)
  have D34 : Hid (Dif (.slice a3 m.qs.length p3) (.slice a4 m.gs.length p4)) := dif_lt (fun g hg => (Q3.out.lt g hg).2) (fun g hg => (Q4.out.lt g hg).1) (by have h0 := X3.out.size; omega)
  have LS : Hid (SlM (World.setCells (w4.setCell ⟨w.heap.size, 8, none⟩ (.slice a4 m.gs.length p4)) (w.heap.size + 1) 0 [.string m.nm, .bool m.up, .int .i64 m.ck, .bool m.kn, .int .i64 m.se, (.slice a1 m.ws.length p1), (.slice a2 m.rs.length p2), (.slice a3 m.qs.length p3), (.slice a4 m.gs.length p4)]) m (.slice a1 m.ws.length p1) (.slice a2 m.rs.length p2) (.slice a3 m.qs.length p3) (.slice a4 m.gs.length p4) w.heap.size) := ⟨P1.out, P2.out, P3.out, P4.out, D12.out, D13.out, D14.out, D23.out, D24.out, D34.out⟩
  have BE : Hid (Below w.heap.size w (World.setCells (w4.setCell ⟨w.heap.size, 8, none⟩ (.slice a4 m.gs.length p4)) (w.heap.size + 1) 0 [.string m.nm, .bool m.up, .int .i64 m.ck, .bool m.kn, .int .i64 m.se, (.slice a1 m.ws.length p1), (.slice a2 m.rs.length p2), (.slice a3 m.qs.length p3), (.slice a4 m.gs.length p4)])) := ⟨hx1.os.trans S4.out.e.os, hx1.tape.trans S4.out.e.tape, hx1.output.trans S4.out.e.output, Nat.le_trans S4.out.e.size hx1.size, fun k hk => (hx1.block k (Nat.lt_of_lt_of_le hk S4.out.e.size) (by omega)).trans (S4.out.e.block k hk)⟩
  have RG : Hid _ := World.rangeAt_setCells_same (w4.setCell ⟨w.heap.size, 8, none⟩ (.slice a4 m.gs.length p4)) (w.heap.size + 1) 0 [.string m.nm, .bool m.up, .int .i64 m.ck, .bool m.kn, .int .i64 m.se, (.slice a1 m.ws.length p1), (.slice a2 m.rs.length p2), (.slice a3 m.qs.length p3), (.slice a4 m.gs.length p4)] S4.out.d
  clear hx1 P1 P2 P3 P4
  go_wp2_with (refine wpList_store_mid (by rfl) 27 _ _ (by rfl) (w.heap.size + 1) 0 #[.string m.nm, .bool m.up, .int .i64 m.ck, .bool m.kn, .int .i64 m.se, (.slice a1 m.ws.length p1), (.slice a2 m.rs.length p2), (.slice a3 m.qs.length p3), (.slice a4 m.gs.length p4)] (by rfl) (by rfl) (by exact S4.out.d) hinfo (by exact all_oneCell_toArray (ones m Q1.out Q2.out Q3.out Q4.out)) ?_)
  have hrg := RG.out
  have d0 := hrg 0 _ rfl
  have d1 := hrg 1 _ rfl
  have d2 := hrg 2 _ rfl
  have d3 := hrg 3 _ rfl
  have d4 := hrg 4 _ rfl
  have d5 := hrg 5 _ rfl
  have d6 := hrg 6 _ rfl
  have d7 := hrg 7 _ rfl
  have d8 := hrg 8 _ rfl
  simp only [Nat.zero_add] at d0 d1 d2 d3 d4 d5 d6 d7 d8
  exact bodyPost_ret (v := .agg #[.string m.nm, .bool m.up, .int .i64 m.ck, .bool m.kn, .int .i64 m.se, (.slice a1 m.ws.length p1), (.slice a2 m.rs.length p2), (.slice a3 m.qs.length p3), (.slice a4 m.gs.length p4)]) (by simp [results, Try.results61, go_sem, d0, d1, d2, d3, d4, d5, d6, d7, d8]) rfl ⟨⟨_, _, _, _, rfl, LS.out⟩, BE.out⟩
end Go.Proofs.Ytkebokkckmgloaa
/- MateRise where lists may be nil: the program's side. -/
namespace Go.Proofs.Ytkebokkckmgloaa
open Go.RowKit
set_option linter.unusedVariables false

set_option maxRecDepth 4000 in
set_option maxHeartbeats 4000000 in
theorem implRiseX (m : MateD) (x1 x2 x3 x4 : Option Addr) (n1 n2 n3 n4 : Nat) (w : World) (hL : SrcM w m x1 x2 x3 x4 n1 n2 n3 n4) (hf : m.fits) :
    Calls Try.prog 16 #[.agg #[.string m.nm, .bool m.up, .int .i64 m.ck, .bool m.kn, .int .i64 m.se, .slice x1 m.ws.length n1, .slice x2 m.rs.length n2, .slice x3 m.qs.length n3, .slice x4 m.gs.length n4]] w fun e w' => (∃ r s1 s2 s3 s4, e = .returned (.agg #[.string r.nm, .bool r.up, .int .i64 r.ck, .bool r.kn, .int .i64 r.se, s1, s2, s3, s4]) ∧ Rises m r ∧ SlM w' r s1 s2 s3 s4 w.heap.size) ∧ Below w.heap.size w w' := by
  have S0 : Hid (Sc w #[.string m.nm, .bool m.up, .int .i64 m.ck, .bool m.kn, .int .i64 m.se, .slice x1 m.ws.length n1, .slice x2 m.rs.length n2, .slice x3 m.qs.length n3, .slice x4 m.gs.length n4] ((w.alloc (.cells #[.string m.nm, .bool m.up, .int .i64 m.ck, .bool m.kn, .int .i64 m.se, .slice x1 m.ws.length n1, .slice x2 m.rs.length n2, .slice x3 m.qs.length n3, .slice x4 m.gs.length n4] 27)).alloc (.cells #[.string { data := #[] }, .bool false, .int .i64 0, .bool false, .int .i64 0, .slice none 0 0, .slice none 0 0, .slice none 0 0, .slice none 0 0] 27))) := sc_src m x1 x2 x3 x4 n1 n2 n3 n4 w
  have hinfo : (Try.prog.info? 27).map (·.size) = some 9 := by kernel_rfl
  go_enter Try.func16, Try.ntmps16
  go_wp2_with fail
  refine (implValidX m x1 x2 x3 x4 n1 n2 n3 n4 _ (hL.keep S0.out.e).lists hL.cap hf).mono ?_
  rintro e w1 ⟨⟨q, rfl, hq⟩, c1⟩
  have S1 : Hid (Sc w #[.string m.nm, .bool m.up, .int .i64 m.ck, .bool m.kn, .int .i64 m.se, .slice x1 m.ws.length n1, .slice x2 m.rs.length n2, .slice x3 m.qs.length n3, .slice x4 m.gs.length n4] w1) := S0.out.below c1
  have Hq : Hid (SaysV q m) := hq
  clear hq c1
  have ka := S1.out.b
  have kf := S1.out.c
  cases q
  · go_wp2_with (refine wpList_store_mid (by rfl) 27 _ _ (by rfl) (w.heap.size + 1) 0 #[.string { data := #[] }, .bool false, .int .i64 0, .bool false, .int .i64 0, .slice none 0 0, .slice none 0 0, .slice none 0 0, .slice none 0 0] (by rfl) (by rfl) (by exact S1.out.d) hinfo (by exact all_oneCell_toArray zeros_one) ?_)
    have hrg := World.rangeAt_setCells_same w1 (w.heap.size + 1) 0 [.string { data := #[] }, .bool false, .int .i64 0, .bool false, .int .i64 0, .slice none 0 0, .slice none 0 0, .slice none 0 0, .slice none 0 0] S1.out.d
    have d0 := hrg 0 _ rfl
    have d1 := hrg 1 _ rfl
    have d2 := hrg 2 _ rfl
    have d3 := hrg 3 _ rfl
    have d4 := hrg 4 _ rfl
    have d5 := hrg 5 _ rfl
    have d6 := hrg 6 _ rfl
    have d7 := hrg 7 _ rfl
    have d8 := hrg 8 _ rfl
    simp only [Nat.zero_add] at d0 d1 d2 d3 d4 d5 d6 d7 d8
    exact bodyPost_ret (v := .agg #[.string { data := #[] }, .bool false, .int .i64 0, .bool false, .int .i64 0, .slice none 0 0, .slice none 0 0, .slice none 0 0, .slice none 0 0]) (by simp [results, Try.results16, go_sem, d0, d1, d2, d3, d4, d5, d6, d7, d8]) rfl ⟨⟨zeroD, _, _, _, _, rfl, Or.inr ⟨saysV_false Hq.out, rfl⟩, slm_zero _ _⟩, S1.out.put _⟩
  have hv : Hid (Valid m) := Hq.out.1 rfl
  have HC : Hid (m.ck < 1000000 ∨ ¬ m.ck < 1000000) := Decidable.em _
  go_wp2_with fail
  refine (freshMateX m x1 x2 x3 x4 n1 n2 n3 n4 _ (hL.keep S1.out.e) hf).mono ?_
  rintro e w2 ⟨⟨s1, s2, s3, s4, rfl, r⟩, c2⟩
  have S2 : Hid (Sc w #[.string m.nm, .bool m.up, .int .i64 m.ck, .bool m.kn, .int .i64 m.se, .slice x1 m.ws.length n1, .slice x2 m.rs.length n2, .slice x3 m.qs.length n3, .slice x4 m.gs.length n4] w2) := S1.out.below c2
  have R2 : Hid (SlM w2 m s1 s2 s3 s4 w1.heap.size) := r
  obtain ⟨a1, p1, hs1⟩ := W.Sl.shape r.a1
  obtain ⟨a2, p2, hs2⟩ := Sl.shape r.a2
  obtain ⟨a3, p3, hs3⟩ := A.Sl.shape r.a3
  obtain ⟨a4, p4, hs4⟩ := A.Sl.shape r.a4
  subst hs1 hs2 hs3 hs4
  clear r c2 ka kf
  have S3 : Hid (Sc w #[.string m.nm, .bool m.up, .int .i64 m.ck, .bool m.kn, .int .i64 m.se, (.slice a1 m.ws.length p1), (.slice a2 m.rs.length p2), (.slice a3 m.qs.length p3), (.slice a4 m.gs.length p4)] (w2.setCells w.heap.size 0 [.string m.nm, .bool m.up, .int .i64 m.ck, .bool m.kn, .int .i64 m.se, (.slice a1 m.ws.length p1), (.slice a2 m.rs.length p2), (.slice a3 m.qs.length p3), (.slice a4 m.gs.length p4)])) := S2.out.all rfl _ rfl
  have S4 : Hid (Sc w #[.string m.nm, .bool true, .int .i64 m.ck, .bool m.kn, .int .i64 m.se, (.slice a1 m.ws.length p1), (.slice a2 m.rs.length p2), (.slice a3 m.qs.length p3), (.slice a4 m.gs.length p4)] ((w2.setCells w.heap.size 0 [.string m.nm, .bool m.up, .int .i64 m.ck, .bool m.kn, .int .i64 m.se, (.slice a1 m.ws.length p1), (.slice a2 m.rs.length p2), (.slice a3 m.qs.length p3), (.slice a4 m.gs.length p4)]).setCell ⟨w.heap.size, 1, none⟩ (.bool true))) := S3.out.set 1 (by simp) _
  have zb1 : w.heap.size + 1 < w1.heap.size := S1.out.f
  have zb : w.heap.size < w1.heap.size := by omega
  have ka := S3.out.b
  have kf := S3.out.c
  have kb := S4.out.b
  have kg := S4.out.c
  by_cases hc : m.ck < 1000000
  · go_wp2_with (first | (refine wpList_store_mid (by rfl) 27 _ _ (by rfl) w.heap.size 0 #[.string m.nm, .bool m.up, .int .i64 m.ck, .bool m.kn, .int .i64 m.se, (.slice a1 m.ws.length p1), (.slice a2 m.rs.length p2), (.slice a3 m.qs.length p3), (.slice a4 m.gs.length p4)] (by rfl) (by rfl) (by exact S2.out.box rfl) hinfo (by exact all_oneCell_toArray (ones m R2.out.a1 R2.out.a2 R2.out.a3 R2.out.a4)) ?_) | (refine wpList_store_mid (by rfl) 27 _ _ (by rfl) (w.heap.size + 1) 0 #[.string m.nm, .bool true, .int .i64 m.ck, .bool m.kn, .int .i64 m.se, (.slice a1 m.ws.length p1), (.slice a2 m.rs.length p2), (.slice a3 m.qs.length p3), (.slice a4 m.gs.length p4)] (by rfl) (by rfl) (by exact S4.out.d) hinfo (by exact all_oneCell_toArray (ones { m with up := true } R2.out.a1 R2.out.a2 R2.out.a3 R2.out.a4)) ?_))
    have hrg := World.rangeAt_setCells_same ((w2.setCells w.heap.size 0 [.string m.nm, .bool m.up, .int .i64 m.ck, .bool m.kn, .int .i64 m.se, (.slice a1 m.ws.length p1), (.slice a2 m.rs.length p2), (.slice a3 m.qs.length p3), (.slice a4 m.gs.length p4)]).setCell ⟨w.heap.size, 1, none⟩ (.bool true)) (w.heap.size + 1) 0 [.string m.nm, .bool true, .int .i64 m.ck, .bool m.kn, .int .i64 m.se, (.slice a1 m.ws.length p1), (.slice a2 m.rs.length p2), (.slice a3 m.qs.length p3), (.slice a4 m.gs.length p4)] S4.out.d
    have d0 := hrg 0 _ rfl
    have d1 := hrg 1 _ rfl
    have d2 := hrg 2 _ rfl
    have d3 := hrg 3 _ rfl
    have d4 := hrg 4 _ rfl
    have d5 := hrg 5 _ rfl
    have d6 := hrg 6 _ rfl
    have d7 := hrg 7 _ rfl
    have d8 := hrg 8 _ rfl
    simp only [Nat.zero_add] at d0 d1 d2 d3 d4 d5 d6 d7 d8
    exact bodyPost_ret (v := .agg #[.string m.nm, .bool true, .int .i64 m.ck, .bool m.kn, .int .i64 m.se, (.slice a1 m.ws.length p1), (.slice a2 m.rs.length p2), (.slice a3 m.qs.length p3), (.slice a4 m.gs.length p4)]) (by simp [results, Try.results16, go_sem, d0, d1, d2, d3, d4, d5, d6, d7, d8]) rfl ⟨⟨{ m with up := true }, _, _, _, _, rfl, rises_up hv.out hc, (((R2.out.ex ((Ex.refl _ _).cells _ _) zb).ex ((Ex.refl _ _).set 1 _) zb).ex ((Ex.refl _ _).cells _ _) zb1).low (Nat.le_of_lt zb) |>.rise⟩, S4.out.put _⟩
  · go_wp2_with (first | (refine wpList_store_mid (by rfl) 27 _ _ (by rfl) w.heap.size 0 #[.string m.nm, .bool m.up, .int .i64 m.ck, .bool m.kn, .int .i64 m.se, (.slice a1 m.ws.length p1), (.slice a2 m.rs.length p2), (.slice a3 m.qs.length p3), (.slice a4 m.gs.length p4)] (by rfl) (by rfl) (by exact S2.out.box rfl) hinfo (by exact all_oneCell_toArray (ones m R2.out.a1 R2.out.a2 R2.out.a3 R2.out.a4)) ?_) | (refine wpList_store_mid (by rfl) 27 _ _ (by rfl) (w.heap.size + 1) 0 #[.string m.nm, .bool m.up, .int .i64 m.ck, .bool m.kn, .int .i64 m.se, (.slice a1 m.ws.length p1), (.slice a2 m.rs.length p2), (.slice a3 m.qs.length p3), (.slice a4 m.gs.length p4)] (by rfl) (by rfl) (by exact S3.out.d) hinfo (by exact all_oneCell_toArray (ones m R2.out.a1 R2.out.a2 R2.out.a3 R2.out.a4)) ?_))
    have hrg := World.rangeAt_setCells_same (w2.setCells w.heap.size 0 [.string m.nm, .bool m.up, .int .i64 m.ck, .bool m.kn, .int .i64 m.se, (.slice a1 m.ws.length p1), (.slice a2 m.rs.length p2), (.slice a3 m.qs.length p3), (.slice a4 m.gs.length p4)]) (w.heap.size + 1) 0 [.string m.nm, .bool m.up, .int .i64 m.ck, .bool m.kn, .int .i64 m.se, (.slice a1 m.ws.length p1), (.slice a2 m.rs.length p2), (.slice a3 m.qs.length p3), (.slice a4 m.gs.length p4)] S3.out.d
    have d0 := hrg 0 _ rfl
    have d1 := hrg 1 _ rfl
    have d2 := hrg 2 _ rfl
    have d3 := hrg 3 _ rfl
    have d4 := hrg 4 _ rfl
    have d5 := hrg 5 _ rfl
    have d6 := hrg 6 _ rfl
    have d7 := hrg 7 _ rfl
    have d8 := hrg 8 _ rfl
    simp only [Nat.zero_add] at d0 d1 d2 d3 d4 d5 d6 d7 d8
    exact bodyPost_ret (v := .agg #[.string m.nm, .bool m.up, .int .i64 m.ck, .bool m.kn, .int .i64 m.se, (.slice a1 m.ws.length p1), (.slice a2 m.rs.length p2), (.slice a3 m.qs.length p3), (.slice a4 m.gs.length p4)]) (by simp [results, Try.results16, go_sem, d0, d1, d2, d3, d4, d5, d6, d7, d8]) rfl ⟨⟨{ m with up := m.up }, _, _, _, _, rfl, rises_stay hv.out (by omega), ((R2.out.ex ((Ex.refl _ _).cells _ _) zb).ex ((Ex.refl _ _).cells _ _) zb1).low (Nat.le_of_lt zb) |>.rise⟩, S3.out.put _⟩
end Go.Proofs.Ytkebokkckmgloaa
