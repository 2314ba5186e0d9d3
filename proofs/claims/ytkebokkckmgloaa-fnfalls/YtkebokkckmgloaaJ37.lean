import Derived.Test.YtkebokkckmgloaaJ28
import Derived.Test.YtkebokkckmgloaaJ11
import Derived.Sort.Walk0
import Derived.Test.YtkebokkckmgloaaJ27
/- A mate that fell is valid, and so it is when it rose. -/
namespace Go.Proofs.Ytkebokkckmgloaa
open Go.RowKit
set_option linter.unusedVariables false

theorem blt_trans {x y z : List UInt8} (h1 : Op.bytesLess x y = true) (h2 : Op.bytesLess y z = true) : Op.bytesLess x z = true := by
  rw [bytesLess_eq] at h1 h2 ⊢
  exact decide_eq_true (List.lt_trans (of_decide_eq_true h1) (of_decide_eq_true h2))
/-- Runs that are such, one by one and in order. -/
def RunsP (clock : Int) (rs : List RunD) : Prop := (∀ r ∈ rs, r.ok clock = true) ∧ rs.Pairwise (fun q r => Op.bytesLess q.c.toList r.c.toList = true)
theorem pair_of_adj {rs : List RunD} (h : ∀ j q r, rs[j]? = some q → rs[j + 1]? = some r → Op.bytesLess q.c.toList r.c.toList = true) : rs.Pairwise (fun q r => Op.bytesLess q.c.toList r.c.toList = true) := by
  induction rs with
  | nil => exact List.Pairwise.nil
  | cons a l ih =>
    have hl := ih (fun j q r hq hr => h (j + 1) q r (by simpa using hq) (by simpa using hr))
    refine List.Pairwise.cons ?_ hl
    cases l with
    | nil => intro b hb; cases hb
    | cons c l' =>
      have h0 := h 0 a c rfl rfl
      intro b hb
      rcases List.mem_cons.1 hb with rfl | hb
      · exact h0
      · exact blt_trans h0 (List.rel_of_pairwise_cons hl hb)
theorem allOkP_iff (clock : Int) (rs : List RunD) : AllOk clock rs rs.length ↔ RunsP clock rs := by
  constructor
  · intro h
    have hs : ∀ j r, rs[j]? = some r → stepOk clock rs j r = true := fun j r hr => h j r ((List.getElem?_eq_some_iff.1 hr).1) hr
    refine ⟨fun r hr => ?_, pair_of_adj fun j q r hq hr => ?_⟩
    · obtain ⟨j, hj⟩ := List.getElem?_of_mem hr
      have := hs j r hj
      simp only [stepOk, Bool.and_eq_true] at this
      exact this.1
    · have := hs (j + 1) r hr
      simp only [stepOk, Bool.and_eq_true, hq] at this
      exact this.2
  · rintro ⟨h1, h2⟩ j r hj hr
    have ho := h1 r (List.mem_of_getElem? hr)
    cases j with
    | zero => simp [stepOk, ho]
    | succ i =>
      have hi : i < rs.length := by omega
      have hq : rs[i]? = some rs[i] := List.getElem?_eq_getElem hi
      have := List.pairwise_iff_getElem.1 h2 i (i + 1) hi hj (by omega)
      rw [List.getElem?_eq_getElem hj] at hr
      cases hr
      simp [stepOk, ho, hq, ascB, this]
theorem killD_ok {clock : Int} {r : RunD} (h : r.ok clock = true) : (killD r).ok clock = true := by
  simp only [RunD.ok, runB, Bool.and_eq_true] at h ⊢
  obtain ⟨h1, h2, h3, h4, h5, h6⟩ := h
  exact ⟨h1, by simp [killD, inB], by simp [killD, leftB], h4, h5, by simp [killD, aliveB]⟩
theorem fallP {clock : Int} {mach : Bool} {rs : List RunD} (h : RunsP clock rs) : RunsP clock (fallR mach rs) := by
  unfold fallR
  split
  · refine ⟨fun x hx => ?_, ?_⟩
    · obtain ⟨y, hy, rfl⟩ := List.mem_map.1 hx
      exact killD_ok (h.1 y (List.mem_filter.1 (List.mem_filter.1 hy).1).1)
    · rw [List.pairwise_map]
      exact (h.2.filter _).filter _
  · exact ⟨fun x hx => h.1 x (List.mem_filter.1 hx).1, h.2.filter _⟩
theorem fall_held {mach : Bool} {rs : List RunD} : ∀ r ∈ fallR mach rs, heldB r = true := by
  intro r hr
  unfold fallR at hr
  split at hr
  · obtain ⟨y, hy, rfl⟩ := List.mem_map.1 hr
    have := (List.mem_filter.1 hy).2
    simp only [heldB, killD, this, Bool.or_true]
  · have := (List.mem_filter.1 hr).2
    simp only [heldB, this, Bool.true_or]
theorem zero_not : ¬ Valid zeroD := fun h => by
  have h1 := h.1
  revert h1
  show partsB zeroD = true → False
  decide
theorem valid_fell {mach : Bool} {m : MateD} (h : Valid m) : Valid (fellD mach m) := by
  obtain ⟨h1, -, ⟨h3, h4⟩, -, -, -⟩ := h
  refine ⟨?_, ⟨⟨Nat.zero_le _, ⟨fun j r hj hr => by simp [fellD] at hr, fun j q r hj hq hr => by simp [fellD] at hq, fun j r hj hr => by simp [fellD] at hr⟩⟩, Or.inr rfl⟩, ⟨Nat.le_trans (fallR_len _ _) h3, (allOkP_iff _ _).2 (fallP ((allOkP_iff _ _).1 h4))⟩, ⟨⟨Nat.zero_le _, fun j q r hj hq hr => by simp [fellD] at hq, fun r hr => by cases hr⟩, ⟨Nat.zero_le _, fun j q r hj hq hr => by simp [fellD] at hq, fun r hr => by cases hr⟩⟩, (fun r hr => by cases hr), Or.inr ⟨rfl, rfl, rfl, fall_held⟩⟩
  simp only [partsB, fellD, Bool.and_eq_true] at h1 ⊢
  exact ⟨h1.1, h1.2.1, by decide⟩
theorem valid_rose {mach : Bool} {m : MateD} {u : Bool} (h : Valid (fellD mach m)) : Valid { fellD mach m with up := u } := by
  obtain ⟨h1, h2, h3, h4, h5, h6⟩ := h
  refine ⟨h1, h2, h3, h4, h5, Or.inr ?_⟩
  rcases h6 with h6 | h6
  · cases h6
  · exact h6
/-- What lives, behind a fall. -/
theorem fall_lives (mach : Bool) (rs : List RunD) : (fallR mach rs).filter (fun r => aliveB r.a) = if mach = true then [] else rs.filter (fun r => aliveB r.a) := by
  unfold fallR
  split
  · rw [List.filter_eq_nil_iff]
    intro x hx
    obtain ⟨y, -, rfl⟩ := List.mem_map.1 hx
    simp [killD, aliveB]
  · rw [List.filter_filter]
    simp
end Go.Proofs.Ytkebokkckmgloaa
/- MateFall where lists may be nil: the program's side. -/
namespace Go.Proofs.Ytkebokkckmgloaa
open Go.RowKit
set_option linter.unusedVariables false

set_option maxRecDepth 4000 in
set_option maxHeartbeats 4000000 in
theorem fallenX (mach : Bool) (m : MateD) (x1 x2 x3 x4 : Option Addr) (n1 n2 n3 n4 : Nat) (w : World) (hL : SrcM w m x1 x2 x3 x4 n1 n2 n3 n4) (hf : m.fits) :
    Calls Try.prog 60 #[.agg #[.string m.nm, .bool m.up, .int .i64 m.ck, .bool m.kn, .int .i64 m.se, .slice x1 m.ws.length n1, .slice x2 m.rs.length n2, .slice x3 m.qs.length n3, .slice x4 m.gs.length n4], .bool mach] w fun e w' => (∃ s, e = .returned (.agg #[.string m.nm, .bool false, .int .i64 m.ck, .bool false, .int .i64 0, .slice none 0 0, s, .slice none 0 0, .slice none 0 0]) ∧ Sl w' s (fallR mach m.rs) w.heap.size) ∧ Below w.heap.size w w' := by
  have S0 : Hid (Sc w #[.string m.nm, .bool m.up, .int .i64 m.ck, .bool m.kn, .int .i64 m.se, .slice x1 m.ws.length n1, .slice x2 m.rs.length n2, .slice x3 m.qs.length n3, .slice x4 m.gs.length n4] ((w.alloc (.cells #[.string m.nm, .bool m.up, .int .i64 m.ck, .bool m.kn, .int .i64 m.se, .slice x1 m.ws.length n1, .slice x2 m.rs.length n2, .slice x3 m.qs.length n3, .slice x4 m.gs.length n4] 27)).alloc (.cells #[.string { data := #[] }, .bool false, .int .i64 0, .bool false, .int .i64 0, .slice none 0 0, .slice none 0 0, .slice none 0 0, .slice none 0 0] 27))) := sc_src m x1 x2 x3 x4 n1 n2 n3 n4 w
  have hinfo : (Try.prog.info? 27).map (·.size) = some 9 := by kernel_rfl
  have hL0 := hL.keep S0.out.e
  have G0 : Hid (Gv ((w.alloc (.cells #[.string m.nm, .bool m.up, .int .i64 m.ck, .bool m.kn, .int .i64 m.se, .slice x1 m.ws.length n1, .slice x2 m.rs.length n2, .slice x3 m.qs.length n3, .slice x4 m.gs.length n4] 27)).alloc (.cells #[.string { data := #[] }, .bool false, .int .i64 0, .bool false, .int .i64 0, .slice none 0 0, .slice none 0 0, .slice none 0 0, .slice none 0 0] 27)) x2 m.rs) := hL0.lists.r2
  clear hL0
  go_enter Try.func60, Try.ntmps60
  go_wp2_with fail
  refine (filterAlive x2 _ m.rs _ G0.out hf.k2).mono ?_
  rintro e w1 ⟨⟨v1, rfl, r⟩, c⟩
  obtain ⟨l1, hl1⟩ : ∃ l, l = m.rs.filter (fun r => aliveB r.a) := ⟨_, rfl⟩
  have Hl1 : Hid _ := hl1
  have l1k : l1.length ≤ 1048576 := by rw [hl1]; exact Nat.le_trans (List.length_filter_le _ _) hf.k2
  rw [← hl1] at r
  obtain ⟨a1, p1, hs1⟩ := Sl.shape r
  subst hs1
  have S1 : Hid (Sc w #[.string m.nm, .bool m.up, .int .i64 m.ck, .bool m.kn, .int .i64 m.se, .slice x1 m.ws.length n1, .slice x2 m.rs.length n2, .slice x3 m.qs.length n3, .slice x4 m.gs.length n4] w1) := S0.out.below c
  have Q1 : Hid (Sl w1 (.slice a1 l1.length p1) l1 ((w.alloc (.cells #[.string m.nm, .bool m.up, .int .i64 m.ck, .bool m.kn, .int .i64 m.se, .slice x1 m.ws.length n1, .slice x2 m.rs.length n2, .slice x3 m.qs.length n3, .slice x4 m.gs.length n4] 27)).alloc (.cells #[.string { data := #[] }, .bool false, .int .i64 0, .bool false, .int .i64 0, .slice none 0 0, .slice none 0 0, .slice none 0 0, .slice none 0 0] 27)).heap.size) := r
  clear r c hl1
  have ka := S1.out.b
  have kf := S1.out.c
  cases mach
  · go_wp2_with (refine wpList_store_mid (by rfl) 27 _ _ (by rfl) (w.heap.size + 1) 0 #[.string m.nm, .bool false, .int .i64 m.ck, .bool false, .int .i64 0, .slice none 0 0, .slice a1 l1.length p1, .slice none 0 0, .slice none 0 0] (by rfl) (by rfl) (by exact S1.out.d) hinfo (by exact all_oneCell_toArray (fell_one m a1 l1.length p1)) ?_)
    have hrg := World.rangeAt_setCells_same w1 (w.heap.size + 1) 0 [.string m.nm, .bool false, .int .i64 m.ck, .bool false, .int .i64 0, .slice none 0 0, .slice a1 l1.length p1, .slice none 0 0, .slice none 0 0] S1.out.d
    have d0 := hrg 0 _ rfl
    have d1 := hrg 1 _ rfl
    have d2 := hrg 2 _ rfl
    have d3 := hrg 3 _ rfl
    have d4 := hrg 4 _ rfl
    have d5 := hrg 5 _ rfl
    have d6 := hrg 6 _ rfl
    have d7 := hrg 7 _ rfl
    have d8 := hrg 8 _ rfl
    simp only [Nat.zero_add] at d0 d1 d2 d3 d4 d5 d6 d7 d8
    exact bodyPost_ret (v := .agg #[.string m.nm, .bool false, .int .i64 m.ck, .bool false, .int .i64 0, .slice none 0 0, .slice a1 l1.length p1, .slice none 0 0, .slice none 0 0]) (by simp [results, Try.results60, go_sem, d0, d1, d2, d3, d4, d5, d6, d7, d8]) rfl ⟨⟨_, rfl, by rw [show fallR false m.rs = l1 from Hl1.out.symm]; exact (Q1.out.exb ((Ex.refl _ _).cells _ _) (by have := S0.out.f; omega)).low (by have := S0.out.f; omega)⟩, S1.out.put _⟩
  · go_wp2_with fail
    refine (filterHolds a1 p1 l1 _ Q1.out.gv l1k).mono ?_
    rintro e w2 ⟨⟨v2, rfl, r⟩, c⟩
    obtain ⟨l2, hl2⟩ : ∃ l, l = l1.filter (fun r => !r.h.toList.isEmpty) := ⟨_, rfl⟩
    have Hl2 : Hid _ := hl2
    have l2k : l2.length ≤ 1048576 := by rw [hl2]; exact Nat.le_trans (List.length_filter_le _ _) l1k
    rw [← hl2] at r
    obtain ⟨a2, p2, hs2⟩ := Sl.shape r
    subst hs2
    have S2 : Hid (Sc w #[.string m.nm, .bool m.up, .int .i64 m.ck, .bool m.kn, .int .i64 m.se, .slice x1 m.ws.length n1, .slice x2 m.rs.length n2, .slice x3 m.qs.length n3, .slice x4 m.gs.length n4] w2) := S1.out.below c
    have Q2 : Hid (Sl w2 (.slice a2 l2.length p2) l2 w1.heap.size) := r
    clear r c hl2 ka kf Q1
    go_wp2_with fail
    refine (killed_any a2 p2 l2 _ Q2.out.gv l2k).mono ?_
    rintro e w3 ⟨⟨v3, rfl, r⟩, c⟩
    obtain ⟨l3, hl3⟩ : ∃ l, l = l2.map killD := ⟨_, rfl⟩
    have Hl3 : Hid _ := hl3
    rw [← hl3] at r
    obtain ⟨a3, p3, hs3⟩ := Sl.shape r
    subst hs3
    have S3 : Hid (Sc w #[.string m.nm, .bool m.up, .int .i64 m.ck, .bool m.kn, .int .i64 m.se, .slice x1 m.ws.length n1, .slice x2 m.rs.length n2, .slice x3 m.qs.length n3, .slice x4 m.gs.length n4] w3) := S2.out.below c
    have Q3 : Hid (Sl w3 (.slice a3 l3.length p3) l3 w2.heap.size) := r
    clear r c hl3 Q2
    have ka := S3.out.b
    have kf := S3.out.c
    go_wp2_with (refine wpList_store_mid (by rfl) 27 _ _ (by rfl) (w.heap.size + 1) 0 #[.string m.nm, .bool false, .int .i64 m.ck, .bool false, .int .i64 0, .slice none 0 0, .slice a3 l3.length p3, .slice none 0 0, .slice none 0 0] (by rfl) (by rfl) (by exact S3.out.d) hinfo (by exact all_oneCell_toArray (fell_one m a3 l3.length p3)) ?_)
    have hrg := World.rangeAt_setCells_same w3 (w.heap.size + 1) 0 [.string m.nm, .bool false, .int .i64 m.ck, .bool false, .int .i64 0, .slice none 0 0, .slice a3 l3.length p3, .slice none 0 0, .slice none 0 0] S3.out.d
    have d0 := hrg 0 _ rfl
    have d1 := hrg 1 _ rfl
    have d2 := hrg 2 _ rfl
    have d3 := hrg 3 _ rfl
    have d4 := hrg 4 _ rfl
    have d5 := hrg 5 _ rfl
    have d6 := hrg 6 _ rfl
    have d7 := hrg 7 _ rfl
    have d8 := hrg 8 _ rfl
    simp only [Nat.zero_add] at d0 d1 d2 d3 d4 d5 d6 d7 d8
    exact bodyPost_ret (v := .agg #[.string m.nm, .bool false, .int .i64 m.ck, .bool false, .int .i64 0, .slice none 0 0, .slice a3 l3.length p3, .slice none 0 0, .slice none 0 0]) (by simp [results, Try.results60, go_sem, d0, d1, d2, d3, d4, d5, d6, d7, d8]) rfl ⟨⟨_, rfl, by rw [show fallR true m.rs = l3 from by rw [Hl3.out, Hl2.out, Hl1.out]; rfl]; exact (Q3.out.exb ((Ex.refl _ _).cells _ _) (by have := S2.out.f; omega)).low (by have := S2.out.f; omega)⟩, S3.out.put _⟩

set_option maxRecDepth 4000 in
set_option maxHeartbeats 4000000 in
theorem implFallX (mach : Bool) (m : MateD) (x1 x2 x3 x4 : Option Addr) (n1 n2 n3 n4 : Nat) (w : World) (hL : SrcM w m x1 x2 x3 x4 n1 n2 n3 n4) (hf : m.fits) :
    Calls Try.prog 15 #[.agg #[.string m.nm, .bool m.up, .int .i64 m.ck, .bool m.kn, .int .i64 m.se, .slice x1 m.ws.length n1, .slice x2 m.rs.length n2, .slice x3 m.qs.length n3, .slice x4 m.gs.length n4], .bool mach] w fun e w' => (∃ r s1 s2 s3 s4, e = .returned (.agg #[.string r.nm, .bool r.up, .int .i64 r.ck, .bool r.kn, .int .i64 r.se, s1, s2, s3, s4]) ∧ Falls mach m r ∧ SlM w' r s1 s2 s3 s4 w.heap.size) ∧ Below w.heap.size w w' := by
  have S0 : Hid (Sc w #[.string m.nm, .bool m.up, .int .i64 m.ck, .bool m.kn, .int .i64 m.se, .slice x1 m.ws.length n1, .slice x2 m.rs.length n2, .slice x3 m.qs.length n3, .slice x4 m.gs.length n4] ((w.alloc (.cells #[.string m.nm, .bool m.up, .int .i64 m.ck, .bool m.kn, .int .i64 m.se, .slice x1 m.ws.length n1, .slice x2 m.rs.length n2, .slice x3 m.qs.length n3, .slice x4 m.gs.length n4] 27)).alloc (.cells #[.string { data := #[] }, .bool false, .int .i64 0, .bool false, .int .i64 0, .slice none 0 0, .slice none 0 0, .slice none 0 0, .slice none 0 0] 27))) := sc_src m x1 x2 x3 x4 n1 n2 n3 n4 w
  have hinfo : (Try.prog.info? 27).map (·.size) = some 9 := by kernel_rfl
  go_enter Try.func15, Try.ntmps15
  go_wp2_with fail
  refine (implValidX m x1 x2 x3 x4 n1 n2 n3 n4 _ (hL.keep S0.out.e).lists hL.cap hf).mono ?_
  rintro e w1 ⟨⟨q, rfl, hq⟩, c1⟩
  have S1 : Hid (Sc w #[.string m.nm, .bool m.up, .int .i64 m.ck, .bool m.kn, .int .i64 m.se, .slice x1 m.ws.length n1, .slice x2 m.rs.length n2, .slice x3 m.qs.length n3, .slice x4 m.gs.length n4] w1) := S0.out.below c1
  have Hq : Hid (SaysV q m) := hq
  clear hq c1
  have ka := S1.out.b
  have kf := S1.out.c
  cases q
  · go_wp2_with (refine wpList_store_mid (by rfl) 27 _ _ (by rfl) (w.heap.size + 1) 0 #[.string { data := #[] }, .bool false, .int .i64 0, .bool false, .int .i64 0, .slice none 0 0, .slice none 0 0, .slice none 0 0, .slice none 0 0] (by rfl) (by rfl) (by exact S1.out.d) hinfo (by exact all_oneCell_toArray zeros_one) ?_)
    have hrg := World.rangeAt_setCells_same w1 (w.heap.size + 1) 0 [.string { data := #[] }, .bool false, .int .i64 0, .bool false, .int .i64 0, .slice none 0 0, .slice none 0 0, .slice none 0 0, .slice none 0 0] S1.out.d
    have d0 := hrg 0 _ rfl
    have d1 := hrg 1 _ rfl
    have d2 := hrg 2 _ rfl
    have d3 := hrg 3 _ rfl
    have d4 := hrg 4 _ rfl
    have d5 := hrg 5 _ rfl
    have d6 := hrg 6 _ rfl
    have d7 := hrg 7 _ rfl
    have d8 := hrg 8 _ rfl
    simp only [Nat.zero_add] at d0 d1 d2 d3 d4 d5 d6 d7 d8
    exact bodyPost_ret (v := .agg #[.string { data := #[] }, .bool false, .int .i64 0, .bool false, .int .i64 0, .slice none 0 0, .slice none 0 0, .slice none 0 0, .slice none 0 0]) (by simp [results, Try.results15, go_sem, d0, d1, d2, d3, d4, d5, d6, d7, d8]) rfl ⟨⟨zeroD, _, _, _, _, rfl, Or.inr ⟨saysV_false Hq.out, rfl⟩, slm_zero _ _⟩, S1.out.put _⟩
  have hv : Hid (Valid m) := Hq.out.1 rfl
  go_wp2_with fail
  refine (fallenX mach m x1 x2 x3 x4 n1 n2 n3 n4 _ (hL.keep S1.out.e) hf).mono ?_
  rintro e w2 ⟨⟨s2, rfl, r⟩, c2⟩
  obtain ⟨l2, hl2⟩ : ∃ l, l = fallR mach m.rs := ⟨_, rfl⟩
  have Hl2 : Hid _ := hl2
  rw [← hl2] at r
  have S2 : Hid (Sc w #[.string m.nm, .bool m.up, .int .i64 m.ck, .bool m.kn, .int .i64 m.se, .slice x1 m.ws.length n1, .slice x2 m.rs.length n2, .slice x3 m.qs.length n3, .slice x4 m.gs.length n4] w2) := S1.out.below c2
  obtain ⟨a2, p2, hs2⟩ := Sl.shape r
  subst hs2
  have Q2 : Hid (Sl w2 (.slice a2 l2.length p2) l2 w1.heap.size) := r
  clear r c2 ka kf hl2
  have zb1 : w.heap.size + 1 < w1.heap.size := S1.out.f
  go_wp2_with (refine wpList_store_mid (by rfl) 27 _ _ (by rfl) (w.heap.size + 1) 0 #[.string m.nm, .bool false, .int .i64 m.ck, .bool false, .int .i64 0, .slice none 0 0, .slice a2 l2.length p2, .slice none 0 0, .slice none 0 0] (by rfl) (by rfl) (by exact S2.out.d) hinfo (by exact all_oneCell_toArray (fell_one m a2 l2.length p2)) ?_)
  have Q3 : Sl (w2.setCells (w.heap.size + 1) 0 [.string m.nm, .bool false, .int .i64 m.ck, .bool false, .int .i64 0, .slice none 0 0, .slice a2 l2.length p2, .slice none 0 0, .slice none 0 0]) (.slice a2 l2.length p2) (fallR mach m.rs) w.heap.size := by rw [← Hl2.out]; exact (Q2.out.exb ((Ex.refl _ _).cells _ _) zb1).low (by omega)
  have hrg := World.rangeAt_setCells_same w2 (w.heap.size + 1) 0 [.string m.nm, .bool false, .int .i64 m.ck, .bool false, .int .i64 0, .slice none 0 0, .slice a2 l2.length p2, .slice none 0 0, .slice none 0 0] S2.out.d
  have d0 := hrg 0 _ rfl
  have d1 := hrg 1 _ rfl
  have d2 := hrg 2 _ rfl
  have d3 := hrg 3 _ rfl
  have d4 := hrg 4 _ rfl
  have d5 := hrg 5 _ rfl
  have d6 := hrg 6 _ rfl
  have d7 := hrg 7 _ rfl
  have d8 := hrg 8 _ rfl
  simp only [Nat.zero_add] at d0 d1 d2 d3 d4 d5 d6 d7 d8
  exact bodyPost_ret (v := .agg #[.string m.nm, .bool false, .int .i64 m.ck, .bool false, .int .i64 0, .slice none 0 0, .slice a2 l2.length p2, .slice none 0 0, .slice none 0 0]) (by simp [results, Try.results15, go_sem, d0, d1, d2, d3, d4, d5, d6, d7, d8]) rfl ⟨⟨fellD mach m, _, _, _, _, rfl, Or.inl ⟨hv.out, rfl⟩, slm_fell Q3⟩, S2.out.put _⟩
end Go.Proofs.Ytkebokkckmgloaa
