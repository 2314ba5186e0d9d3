import Derived.Test.YtkebokkckmgloaaJ27
import Derived.Test.YtkebokkckmgloaaJ28
import Derived.Test.YtkebokkckmgloaaJ06
import Derived.Laws.StructEq
/- MateRise where lists may be nil: the specification's side. -/
namespace Go.Proofs.Ytkebokkckmgloaa
open Go.RowKit
set_option linter.unusedVariables false

set_option maxRecDepth 4000 in
set_option maxHeartbeats 4000000 in
theorem specRiseX (m : MateD) (x1 x2 x3 x4 : Option Addr) (n1 n2 n3 n4 : Nat) (w : World) (hL : SrcM w m x1 x2 x3 x4 n1 n2 n3 n4) (hf : m.fits) :
    Calls Try.prog 19 #[.agg #[.string m.nm, .bool m.up, .int .i64 m.ck, .bool m.kn, .int .i64 m.se, .slice x1 m.ws.length n1, .slice x2 m.rs.length n2, .slice x3 m.qs.length n3, .slice x4 m.gs.length n4]] w fun e w' => (∃ r s1 s2 s3 s4, e = .returned (.agg #[.string r.nm, .bool r.up, .int .i64 r.ck, .bool r.kn, .int .i64 r.se, s1, s2, s3, s4]) ∧ Rises m r ∧ SlM w' r s1 s2 s3 s4 w.heap.size) ∧ Below w.heap.size w w' := by
  have S0 : Hid (Sc w #[.string m.nm, .bool m.up, .int .i64 m.ck, .bool m.kn, .int .i64 m.se, .slice x1 m.ws.length n1, .slice x2 m.rs.length n2, .slice x3 m.qs.length n3, .slice x4 m.gs.length n4] ((w.alloc (.cells #[.string m.nm, .bool m.up, .int .i64 m.ck, .bool m.kn, .int .i64 m.se, .slice x1 m.ws.length n1, .slice x2 m.rs.length n2, .slice x3 m.qs.length n3, .slice x4 m.gs.length n4] 27)).alloc (.cells #[.string { data := #[] }, .bool false, .int .i64 0, .bool false, .int .i64 0, .slice none 0 0, .slice none 0 0, .slice none 0 0, .slice none 0 0] 27))) := sc_src m x1 x2 x3 x4 n1 n2 n3 n4 w
  have hinfo : (Try.prog.info? 27).map (·.size) = some 9 := by kernel_rfl
  go_enter Try.func19, Try.ntmps19
  go_wp2_with fail
  refine (specValidX m x1 x2 x3 x4 n1 n2 n3 n4 _ (hL.keep S0.out.e).lists hf).mono ?_
  rintro e w1 ⟨⟨q, rfl, hq⟩, c1⟩
  have S1 : Hid (Sc w #[.string m.nm, .bool m.up, .int .i64 m.ck, .bool m.kn, .int .i64 m.se, .slice x1 m.ws.length n1, .slice x2 m.rs.length n2, .slice x3 m.qs.length n3, .slice x4 m.gs.length n4] w1) := S0.out.below c1
  have Hq : Hid (SaysV q m) := hq
  clear hq c1
  have ka := S1.out.b
  have kf := S1.out.c
  cases q
  · go_wp2_with (refine wpList_store_mid (by rfl) 27 _ _ (by rfl) (w.heap.size + 1) 0 #[.string { data := #[] }, .bool false, .int .i64 0, .bool false, .int .i64 0, .slice none 0 0, .slice none 0 0, .slice none 0 0, .slice none 0 0] (by rfl) (by rfl) (by exact S1.out.d) hinfo (by exact all_oneCell_toArray zeros_one) ?_)
    have hrg := World.rangeAt_setCells_same w1 (w.heap.size + 1) 0 [.string { data := #[] }, .bool false, .int .i64 0, .bool false, .int .i64 0, .slice none 0 0, .slice none 0 0, .slice none 0 0, .slice none 0 0] S1.out.d
    have d0 := hrg 0 _ rfl
    have d1 := hrg 1 _ rfl
    have d2 := hrg 2 _ rfl
    have d3 := hrg 3 _ rfl
    have d4 := hrg 4 _ rfl
    have d5 := hrg 5 _ rfl
    have d6 := hrg 6 _ rfl
    have d7 := hrg 7 _ rfl
    have d8 := hrg 8 _ rfl
    simp only [Nat.zero_add] at d0 d1 d2 d3 d4 d5 d6 d7 d8
    exact bodyPost_ret (v := .agg #[.string { data := #[] }, .bool false, .int .i64 0, .bool false, .int .i64 0, .slice none 0 0, .slice none 0 0, .slice none 0 0, .slice none 0 0]) (by simp [results, Try.results19, go_sem, d0, d1, d2, d3, d4, d5, d6, d7, d8]) rfl ⟨⟨zeroD, _, _, _, _, rfl, Or.inr ⟨saysV_false Hq.out, rfl⟩, slm_zero _ _⟩, S1.out.put _⟩
  have hv : Hid (Valid m) := Hq.out.1 rfl
  go_wp2_with fail
  refine (l4Copy_src m x1 x2 x3 x4 n1 n2 n3 n4 _ (hL.keep S1.out.e).r1 (hL.keep S1.out.e).r2 (hL.keep S1.out.e).r3 (hL.keep S1.out.e).r4 ⟨hf.k1, hf.k2, hf.k3, hf.k4⟩).mono ?_
  rintro e w2 ⟨⟨s1, s2, s3, s4, rfl, r⟩, c2⟩
  have S2 : Hid (Sc w #[.string m.nm, .bool m.up, .int .i64 m.ck, .bool m.kn, .int .i64 m.se, .slice x1 m.ws.length n1, .slice x2 m.rs.length n2, .slice x3 m.qs.length n3, .slice x4 m.gs.length n4] w2) := S1.out.below c2
  have R2 : Hid (SlM w2 m s1 s2 s3 s4 w1.heap.size) := r
  obtain ⟨a1, p1, hs1⟩ := W.Sl.shape r.a1
  obtain ⟨a2, p2, hs2⟩ := Sl.shape r.a2
  obtain ⟨a3, p3, hs3⟩ := A.Sl.shape r.a3
  obtain ⟨a4, p4, hs4⟩ := A.Sl.shape r.a4
  subst hs1 hs2 hs3 hs4
  clear r c2 ka kf
  have zb1 : w.heap.size + 1 < w1.heap.size := S1.out.f
  have zb : w.heap.size < w1.heap.size := by omega
  have zw : w.heap.size < w2.heap.size := by have := S2.out.f; omega
  have ka := S2.out.b
  have kf := S2.out.c
  by_cases hc : m.ck < 1000000
  · have S3 : Hid (Sc w #[.string m.nm, .bool m.up, .int .i64 m.ck, .bool m.kn, .int .i64 m.se, .slice x1 m.ws.length n1, .slice x2 m.rs.length n2, .slice x3 m.qs.length n3, .slice x4 m.gs.length n4] (w2.alloc (.cells #[.string m.nm, .bool true, .int .i64 m.ck, .bool m.kn, .int .i64 m.se, (.slice a1 m.ws.length p1), (.slice a2 m.rs.length p2), (.slice a3 m.qs.length p3), (.slice a4 m.gs.length p4)] 27))) := S2.out.below (bl_alloc (Below.refl _ _) _)
    have R3 : Hid (SlM (w2.alloc (.cells #[.string m.nm, .bool true, .int .i64 m.ck, .bool m.kn, .int .i64 m.se, (.slice a1 m.ws.length p1), (.slice a2 m.rs.length p2), (.slice a3 m.qs.length p3), (.slice a4 m.gs.length p4)] 27)) m (.slice a1 m.ws.length p1) (.slice a2 m.rs.length p2) (.slice a3 m.qs.length p3) (.slice a4 m.gs.length p4) w1.heap.size) := R2.out.keep (bl_alloc (Below.refl _ _) _)
    go_wp2_with (refine wpList_store_mid (by rfl) 27 _ _ (by rfl) (w.heap.size + 1) 0 #[.string m.nm, .bool true, .int .i64 m.ck, .bool m.kn, .int .i64 m.se, (.slice a1 m.ws.length p1), (.slice a2 m.rs.length p2), (.slice a3 m.qs.length p3), (.slice a4 m.gs.length p4)] (by rfl) (by rfl) (by exact S3.out.d) hinfo (by exact all_oneCell_toArray (ones { m with up := true } R2.out.a1 R2.out.a2 R2.out.a3 R2.out.a4)) ?_)
    have hrg := World.rangeAt_setCells_same (w2.alloc (.cells #[.string m.nm, .bool true, .int .i64 m.ck, .bool m.kn, .int .i64 m.se, (.slice a1 m.ws.length p1), (.slice a2 m.rs.length p2), (.slice a3 m.qs.length p3), (.slice a4 m.gs.length p4)] 27)) (w.heap.size + 1) 0 [.string m.nm, .bool true, .int .i64 m.ck, .bool m.kn, .int .i64 m.se, (.slice a1 m.ws.length p1), (.slice a2 m.rs.length p2), (.slice a3 m.qs.length p3), (.slice a4 m.gs.length p4)] S3.out.d
    have d0 := hrg 0 _ rfl
    have d1 := hrg 1 _ rfl
    have d2 := hrg 2 _ rfl
    have d3 := hrg 3 _ rfl
    have d4 := hrg 4 _ rfl
    have d5 := hrg 5 _ rfl
    have d6 := hrg 6 _ rfl
    have d7 := hrg 7 _ rfl
    have d8 := hrg 8 _ rfl
    simp only [Nat.zero_add] at d0 d1 d2 d3 d4 d5 d6 d7 d8
    exact bodyPost_ret (v := .agg #[.string m.nm, .bool true, .int .i64 m.ck, .bool m.kn, .int .i64 m.se, (.slice a1 m.ws.length p1), (.slice a2 m.rs.length p2), (.slice a3 m.qs.length p3), (.slice a4 m.gs.length p4)]) (by simp [results, Try.results19, go_sem, d0, d1, d2, d3, d4, d5, d6, d7, d8]) rfl ⟨⟨{ m with up := true }, _, _, _, _, rfl, rises_up hv.out hc, (R3.out.ex ((Ex.refl _ _).cells _ _) zb1).low (Nat.le_of_lt zb) |>.rise⟩, S3.out.put _⟩
  · have S3 : Hid (Sc w #[.string m.nm, .bool m.up, .int .i64 m.ck, .bool m.kn, .int .i64 m.se, .slice x1 m.ws.length n1, .slice x2 m.rs.length n2, .slice x3 m.qs.length n3, .slice x4 m.gs.length n4] (w2.alloc (.cells #[.string m.nm, .bool m.up, .int .i64 m.ck, .bool m.kn, .int .i64 m.se, (.slice a1 m.ws.length p1), (.slice a2 m.rs.length p2), (.slice a3 m.qs.length p3), (.slice a4 m.gs.length p4)] 27))) := S2.out.below (bl_alloc (Below.refl _ _) _)
    have R3 : Hid (SlM (w2.alloc (.cells #[.string m.nm, .bool m.up, .int .i64 m.ck, .bool m.kn, .int .i64 m.se, (.slice a1 m.ws.length p1), (.slice a2 m.rs.length p2), (.slice a3 m.qs.length p3), (.slice a4 m.gs.length p4)] 27)) m (.slice a1 m.ws.length p1) (.slice a2 m.rs.length p2) (.slice a3 m.qs.length p3) (.slice a4 m.gs.length p4) w1.heap.size) := R2.out.keep (bl_alloc (Below.refl _ _) _)
    go_wp2_with (refine wpList_store_mid (by rfl) 27 _ _ (by rfl) (w.heap.size + 1) 0 #[.string m.nm, .bool m.up, .int .i64 m.ck, .bool m.kn, .int .i64 m.se, (.slice a1 m.ws.length p1), (.slice a2 m.rs.length p2), (.slice a3 m.qs.length p3), (.slice a4 m.gs.length p4)] (by rfl) (by rfl) (by exact S3.out.d) hinfo (by exact all_oneCell_toArray (ones m R2.out.a1 R2.out.a2 R2.out.a3 R2.out.a4)) ?_)
    have hrg := World.rangeAt_setCells_same (w2.alloc (.cells #[.string m.nm, .bool m.up, .int .i64 m.ck, .bool m.kn, .int .i64 m.se, (.slice a1 m.ws.length p1), (.slice a2 m.rs.length p2), (.slice a3 m.qs.length p3), (.slice a4 m.gs.length p4)] 27)) (w.heap.size + 1) 0 [.string m.nm, .bool m.up, .int .i64 m.ck, .bool m.kn, .int .i64 m.se, (.slice a1 m.ws.length p1), (.slice a2 m.rs.length p2), (.slice a3 m.qs.length p3), (.slice a4 m.gs.length p4)] S3.out.d
    have d0 := hrg 0 _ rfl
    have d1 := hrg 1 _ rfl
    have d2 := hrg 2 _ rfl
    have d3 := hrg 3 _ rfl
    have d4 := hrg 4 _ rfl
    have d5 := hrg 5 _ rfl
    have d6 := hrg 6 _ rfl
    have d7 := hrg 7 _ rfl
    have d8 := hrg 8 _ rfl
    simp only [Nat.zero_add] at d0 d1 d2 d3 d4 d5 d6 d7 d8
    exact bodyPost_ret (v := .agg #[.string m.nm, .bool m.up, .int .i64 m.ck, .bool m.kn, .int .i64 m.se, (.slice a1 m.ws.length p1), (.slice a2 m.rs.length p2), (.slice a3 m.qs.length p3), (.slice a4 m.gs.length p4)]) (by simp [results, Try.results19, go_sem, d0, d1, d2, d3, d4, d5, d6, d7, d8]) rfl ⟨⟨{ m with up := m.up }, _, _, _, _, rfl, rises_stay hv.out (by omega), (R3.out.ex ((Ex.refl _ _).cells _ _) zb1).low (Nat.le_of_lt zb) |>.rise⟩, S3.out.put _⟩
end Go.Proofs.Ytkebokkckmgloaa
/- Are two wants the same? -/
namespace Go.Proofs.Ytkebokkckmgloaa
open Go.RowKit
set_option linter.unusedVariables false

/-- Are two wants the same? -/
def sameW (c h c2 h2 : ByteArray) (v p s d g v2 p2 s2 d2 g2 : Int) : Bool := c2.toList == c.toList && (v2 == v && (h2.toList == h.toList && (p2 == p && (s2 == s && (d2 == d && g2 == g)))))
theorem eql_want (c h c2 h2 : ByteArray) (v p s d g v2 p2 s2 d2 g2 : Int) (w : World) : Sem.run Try.prog (binOp .eql 36 (.agg #[.string c2, .int .i64 v2, .string h2, .int .i64 p2, .int .i64 s2, .int .i64 d2, .int .i64 g2]) (.agg #[.string c, .int .i64 v, .string h, .int .i64 p, .int .i64 s, .int .i64 d, .int .i64 g])) w = .ok (.bool (sameW c h c2 h2 v p s d g v2 p2 s2 d2 g2)) w := by
  unfold sameW
  rw [run_eql_struct, run_equalIn_agg _ _ _ _ _ (by kernel_rfl) (by kernel_rfl)]
  simp only [Program.fieldsOf, Try.underlying36, Op.eqFields]
  simp [go_sem, Try.underlying9, Try.underlying3]
  (repeat' split) <;> simp_all
theorem neq_want (c h c2 h2 : ByteArray) (v p s d g v2 p2 s2 d2 g2 : Int) (w : World) : Sem.run Try.prog (binOp .neq 36 (.agg #[.string c2, .int .i64 v2, .string h2, .int .i64 p2, .int .i64 s2, .int .i64 d2, .int .i64 g2]) (.agg #[.string c, .int .i64 v, .string h, .int .i64 p, .int .i64 s, .int .i64 d, .int .i64 g])) w = .ok (.bool (!sameW c h c2 h2 v p s d g v2 p2 s2 d2 g2)) w := by
  have hq := eql_want c h c2 h2 v p s d g v2 p2 s2 d2 g2 w
  rw [run_eql_struct] at hq
  rw [run_neq_struct]
  cases hr : (Op.equalIn 10000 36 (.agg #[.string c2, .int .i64 v2, .string h2, .int .i64 p2, .int .i64 s2, .int .i64 d2, .int .i64 g2]) (.agg #[.string c, .int .i64 v, .string h, .int .i64 p, .int .i64 s, .int .i64 d, .int .i64 g])).run Try.prog w with
  | ok b w1 => rw [hr] at hq; simp at hq ⊢; obtain ⟨rfl, rfl⟩ := hq; simp
  | halt x w1 => rw [hr] at hq; simp [Result.andThen] at hq
end Go.Proofs.Ytkebokkckmgloaa
