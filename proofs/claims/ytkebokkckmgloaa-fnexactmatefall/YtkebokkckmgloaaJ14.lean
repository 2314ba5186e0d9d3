import Derived.Test.YtkebokkckmgloaaJ13
import Derived.Test.YtkebokkckmgloaaJ12
import Derived.Test.YtkebokkckmgloaaJ08
import Derived.Laws.AppendOwnNone
/- MateFall: the program's side. -/
namespace Go.Proofs.Ytkebokkckmgloaa
open Go.RowKit
set_option linter.unusedVariables false

/-- What a fall leaves of runs. -/
def fallR (mach : Bool) (rs : List RunD) : List RunD := if mach = true then ((rs.filter (fun r => aliveB r.a)).filter (fun r => !r.h.toList.isEmpty)).map killD else rs.filter (fun r => aliveB r.a)
theorem fallR_len (mach : Bool) (rs : List RunD) : (fallR mach rs).length ≤ rs.length := by
  unfold fallR
  split
  · rw [List.length_map]; exact Nat.le_trans (List.length_filter_le _ _) (List.length_filter_le _ _)
  · exact List.length_filter_le _ _
def fellD (mach : Bool) (m : MateD) : MateD := ⟨m.nm, false, m.ck, false, 0, [], fallR mach m.rs, [], []⟩
def Falls (mach : Bool) (m r : MateD) : Prop := (Valid m ∧ r = fellD mach m) ∨ (¬ Valid m ∧ r = zeroD)
theorem Falls.one {mach : Bool} {m r r' : MateD} (h : Falls mach m r) (h' : Falls mach m r') : r = r' := by
  rcases h with ⟨h1, rfl⟩ | ⟨h1, rfl⟩ <;> rcases h' with ⟨h2, rfl⟩ | ⟨h2, rfl⟩
  · rfl
  · exact (h2 h1).elim
  · exact (h1 h2).elim
  · rfl
theorem fell_one (m : MateD) (a : Option Addr) (n p : Nat) : ∀ u ∈ ([.string m.nm, .bool false, .int .i64 m.ck, .bool false, .int .i64 0, .slice none 0 0, .slice a n p, .slice none 0 0, .slice none 0 0] : List Value), u.oneCell' = true := by
  intro u hu
  simp only [List.mem_cons, List.not_mem_nil, or_false] at hu
  rcases hu with rfl | rfl | rfl | rfl | rfl | rfl | rfl | rfl | rfl <;> rfl
theorem dif_none (a : Value) : Dif a (.slice none 0 0) := by
  cases h : a.ownBlock with
  | none => exact Or.inl h
  | some g => exact Or.inr (by rw [h]; simp [Value.ownBlock])
theorem slm_fell {w : World} {mach : Bool} {m : MateD} {s : Value} {B : Nat} (h : Sl w s (fallR mach m.rs) B) : SlM w (fellD mach m) (.slice none 0 0) s (.slice none 0 0) (.slice none 0 0) B :=
  ⟨Or.inl ⟨rfl, rfl⟩, h, Or.inl ⟨rfl, rfl⟩, Or.inl ⟨rfl, rfl⟩, Or.inl rfl, Or.inl rfl, Or.inl rfl, dif_none _, dif_none _, Or.inl rfl⟩
theorem Sl.exb {w w' : World} {v : Value} {l : List RunD} {B k : Nat} (h : Sl w v l B) (he : Ex k w w') (hk : k < B) : Sl w' v l B :=
  h.grown (ex_grown he) (ob_ne (N := k) (fun g hg => Nat.lt_of_lt_of_le hk (h.lt g hg).1) (Nat.le_refl _))

set_option maxRecDepth 4000 in
set_option maxHeartbeats 4000000 in
theorem fallen_any (mach : Bool) (m : MateD) (b1 b2 b3 b4 : Nat) (w : World) (hL : Lists w m b1 b2 b3 b4) (hf : m.fits) :
    Calls Try.prog 60 #[.agg #[.string m.nm, .bool m.up, .int .i64 m.ck, .bool m.kn, .int .i64 m.se, .slice (some ⟨b1, 0, none⟩) m.ws.length m.ws.length, .slice (some ⟨b2, 0, none⟩) m.rs.length m.rs.length, .slice (some ⟨b3, 0, none⟩) m.qs.length m.qs.length, .slice (some ⟨b4, 0, none⟩) m.gs.length m.gs.length], .bool mach] w fun e w' => (∃ s, e = .returned (.agg #[.string m.nm, .bool false, .int .i64 m.ck, .bool false, .int .i64 0, .slice none 0 0, s, .slice none 0 0, .slice none 0 0]) ∧ Sl w' s (fallR mach m.rs) w.heap.size) ∧ Below w.heap.size w w' := by
  have S0 : Hid (Sc w #[.string m.nm, .bool m.up, .int .i64 m.ck, .bool m.kn, .int .i64 m.se, .slice (some ⟨b1, 0, none⟩) m.ws.length m.ws.length, .slice (some ⟨b2, 0, none⟩) m.rs.length m.rs.length, .slice (some ⟨b3, 0, none⟩) m.qs.length m.qs.length, .slice (some ⟨b4, 0, none⟩) m.gs.length m.gs.length] ((w.alloc (.cells #[.string m.nm, .bool m.up, .int .i64 m.ck, .bool m.kn, .int .i64 m.se, .slice (some ⟨b1, 0, none⟩) m.ws.length m.ws.length, .slice (some ⟨b2, 0, none⟩) m.rs.length m.rs.length, .slice (some ⟨b3, 0, none⟩) m.qs.length m.qs.length, .slice (some ⟨b4, 0, none⟩) m.gs.length m.gs.length] 27)).alloc (.cells #[.string { data := #[] }, .bool false, .int .i64 0, .bool false, .int .i64 0, .slice none 0 0, .slice none 0 0, .slice none 0 0, .slice none 0 0] 27))) := sc_new m b1 b2 b3 b4 w
  have hinfo : (Try.prog.info? 27).map (·.size) = some 9 := by kernel_rfl
  have hL0 := hL.keep S0.out.e
  have G0 : Hid (Gv ((w.alloc (.cells #[.string m.nm, .bool m.up, .int .i64 m.ck, .bool m.kn, .int .i64 m.se, .slice (some ⟨b1, 0, none⟩) m.ws.length m.ws.length, .slice (some ⟨b2, 0, none⟩) m.rs.length m.rs.length, .slice (some ⟨b3, 0, none⟩) m.qs.length m.qs.length, .slice (some ⟨b4, 0, none⟩) m.gs.length m.gs.length] 27)).alloc (.cells #[.string { data := #[] }, .bool false, .int .i64 0, .bool false, .int .i64 0, .slice none 0 0, .slice none 0 0, .slice none 0 0, .slice none 0 0] 27)) (some ⟨b2, 0, none⟩) m.rs) := Or.inr ⟨b2, rfl, hL0.l2, hL0.r2⟩
  clear hL0
  go_enter Try.func60, Try.ntmps60
  go_wp2_with fail
  refine (filterAlive (some ⟨b2, 0, none⟩) _ m.rs _ G0.out hf.k2).mono ?_
  rintro e w1 ⟨⟨v1, rfl, r⟩, c⟩
  obtain ⟨l1, hl1⟩ : ∃ l, l = m.rs.filter (fun r => aliveB r.a) := ⟨_, rfl⟩
  have Hl1 : Hid _ := hl1
  have l1k : l1.length ≤ 1048576 := by rw [hl1]; exact Nat.le_trans (List.length_filter_le _ _) hf.k2
  rw [← hl1] at r
  obtain ⟨a1, p1, hs1⟩ := Sl.shape r
  subst hs1
  have S1 : Hid (Sc w #[.string m.nm, .bool m.up, .int .i64 m.ck, .bool m.kn, .int .i64 m.se, .slice (some ⟨b1, 0, none⟩) m.ws.length m.ws.length, .slice (some ⟨b2, 0, none⟩) m.rs.length m.rs.length, .slice (some ⟨b3, 0, none⟩) m.qs.length m.qs.length, .slice (some ⟨b4, 0, none⟩) m.gs.length m.gs.length] w1) := S0.out.below c
  have Q1 : Hid (Sl w1 (.slice a1 l1.length p1) l1 ((w.alloc (.cells #[.string m.nm, .bool m.up, .int .i64 m.ck, .bool m.kn, .int .i64 m.se, .slice (some ⟨b1, 0, none⟩) m.ws.length m.ws.length, .slice (some ⟨b2, 0, none⟩) m.rs.length m.rs.length, .slice (some ⟨b3, 0, none⟩) m.qs.length m.qs.length, .slice (some ⟨b4, 0, none⟩) m.gs.length m.gs.length] 27)).alloc (.cells #[.string { data := #[] }, .bool false, .int .i64 0, .bool false, .int .i64 0, .slice none 0 0, .slice none 0 0, .slice none 0 0, .slice none 0 0] 27)).heap.size) := r
  clear r c hl1
  have ka := S1.out.b
  have kf := S1.out.c
  cases mach
  · go_wp2_with (refine wpList_store_mid (by rfl) 27 _ _ (by rfl) (w.heap.size + 1) 0 #[.string m.nm, .bool false, .int .i64 m.ck, .bool false, .int .i64 0, .slice none 0 0, .slice a1 l1.length p1, .slice none 0 0, .slice none 0 0] (by rfl) (by rfl) (by exact S1.out.d) hinfo (by exact all_oneCell_toArray (fell_one m a1 l1.length p1)) ?_)
    have hrg := World.rangeAt_setCells_same w1 (w.heap.size + 1) 0 [.string m.nm, .bool false, .int .i64 m.ck, .bool false, .int .i64 0, .slice none 0 0, .slice a1 l1.length p1, .slice none 0 0, .slice none 0 0] S1.out.d
    have d0 := hrg 0 _ rfl
    have d1 := hrg 1 _ rfl
    have d2 := hrg 2 _ rfl
    have d3 := hrg 3 _ rfl
    have d4 := hrg 4 _ rfl
    have d5 := hrg 5 _ rfl
    have d6 := hrg 6 _ rfl
    have d7 := hrg 7 _ rfl
    have d8 := hrg 8 _ rfl
    simp only [Nat.zero_add] at d0 d1 d2 d3 d4 d5 d6 d7 d8
    exact bodyPost_ret (v := .agg #[.string m.nm, .bool false, .int .i64 m.ck, .bool false, .int .i64 0, .slice none 0 0, .slice a1 l1.length p1, .slice none 0 0, .slice none 0 0]) (by simp [results, Try.results60, go_sem, d0, d1, d2, d3, d4, d5, d6, d7, d8]) rfl ⟨⟨_, rfl, by rw [show fallR false m.rs = l1 from Hl1.out.symm]; exact (Q1.out.exb ((Ex.refl _ _).cells _ _) (by have := S0.out.f; omega)).low (by have := S0.out.f; omega)⟩, S1.out.put _⟩
  · go_wp2_with fail
    refine (filterHolds a1 p1 l1 _ Q1.out.gv l1k).mono ?_
    rintro e w2 ⟨⟨v2, rfl, r⟩, c⟩
    obtain ⟨l2, hl2⟩ : ∃ l, l = l1.filter (fun r => !r.h.toList.isEmpty) := ⟨_, rfl⟩
    have Hl2 : Hid _ := hl2
    have l2k : l2.length ≤ 1048576 := by rw [hl2]; exact Nat.le_trans (List.length_filter_le _ _) l1k
    rw [← hl2] at r
    obtain ⟨a2, p2, hs2⟩ := Sl.shape r
    subst hs2
    have S2 : Hid (Sc w #[.string m.nm, .bool m.up, .int .i64 m.ck, .bool m.kn, .int .i64 m.se, .slice (some ⟨b1, 0, none⟩) m.ws.length m.ws.length, .slice (some ⟨b2, 0, none⟩) m.rs.length m.rs.length, .slice (some ⟨b3, 0, none⟩) m.qs.length m.qs.length, .slice (some ⟨b4, 0, none⟩) m.gs.length m.gs.length] w2) := S1.out.below c
    have Q2 : Hid (Sl w2 (.slice a2 l2.length p2) l2 w1.heap.size) := r
    clear r c hl2 ka kf Q1
    go_wp2_with fail
    refine (killed_any a2 p2 l2 _ Q2.out.gv l2k).mono ?_
    rintro e w3 ⟨⟨v3, rfl, r⟩, c⟩
    obtain ⟨l3, hl3⟩ : ∃ l, l = l2.map killD := ⟨_, rfl⟩
    have Hl3 : Hid _ := hl3
    rw [← hl3] at r
    obtain ⟨a3, p3, hs3⟩ := Sl.shape r
    subst hs3
    have S3 : Hid (Sc w #[.string m.nm, .bool m.up, .int .i64 m.ck, .bool m.kn, .int .i64 m.se, .slice (some ⟨b1, 0, none⟩) m.ws.length m.ws.length, .slice (some ⟨b2, 0, none⟩) m.rs.length m.rs.length, .slice (some ⟨b3, 0, none⟩) m.qs.length m.qs.length, .slice (some ⟨b4, 0, none⟩) m.gs.length m.gs.length] w3) := S2.out.below c
    have Q3 : Hid (Sl w3 (.slice a3 l3.length p3) l3 w2.heap.size) := r
    clear r c hl3 Q2
    have ka := S3.out.b
    have kf := S3.out.c
    go_wp2_with (refine wpList_store_mid (by rfl) 27 _ _ (by rfl) (w.heap.size + 1) 0 #[.string m.nm, .bool false, .int .i64 m.ck, .bool false, .int .i64 0, .slice none 0 0, .slice a3 l3.length p3, .slice none 0 0, .slice none 0 0] (by rfl) (by rfl) (by exact S3.out.d) hinfo (by exact all_oneCell_toArray (fell_one m a3 l3.length p3)) ?_)
    have hrg := World.rangeAt_setCells_same w3 (w.heap.size + 1) 0 [.string m.nm, .bool false, .int .i64 m.ck, .bool false, .int .i64 0, .slice none 0 0, .slice a3 l3.length p3, .slice none 0 0, .slice none 0 0] S3.out.d
    have d0 := hrg 0 _ rfl
    have d1 := hrg 1 _ rfl
    have d2 := hrg 2 _ rfl
    have d3 := hrg 3 _ rfl
    have d4 := hrg 4 _ rfl
    have d5 := hrg 5 _ rfl
    have d6 := hrg 6 _ rfl
    have d7 := hrg 7 _ rfl
    have d8 := hrg 8 _ rfl
    simp only [Nat.zero_add] at d0 d1 d2 d3 d4 d5 d6 d7 d8
    exact bodyPost_ret (v := .agg #[.string m.nm, .bool false, .int .i64 m.ck, .bool false, .int .i64 0, .slice none 0 0, .slice a3 l3.length p3, .slice none 0 0, .slice none 0 0]) (by simp [results, Try.results60, go_sem, d0, d1, d2, d3, d4, d5, d6, d7, d8]) rfl ⟨⟨_, rfl, by rw [show fallR true m.rs = l3 from by rw [Hl3.out, Hl2.out, Hl1.out]; rfl]; exact (Q3.out.exb ((Ex.refl _ _).cells _ _) (by have := S2.out.f; omega)).low (by have := S2.out.f; omega)⟩, S3.out.put _⟩

set_option maxRecDepth 4000 in
set_option maxHeartbeats 4000000 in
theorem implFall (mach : Bool) (m : MateD) (b1 b2 b3 b4 : Nat) (w : World) (hL : Lists w m b1 b2 b3 b4) (hf : m.fits) :
    Calls Try.prog 15 #[.agg #[.string m.nm, .bool m.up, .int .i64 m.ck, .bool m.kn, .int .i64 m.se, .slice (some ⟨b1, 0, none⟩) m.ws.length m.ws.length, .slice (some ⟨b2, 0, none⟩) m.rs.length m.rs.length, .slice (some ⟨b3, 0, none⟩) m.qs.length m.qs.length, .slice (some ⟨b4, 0, none⟩) m.gs.length m.gs.length], .bool mach] w fun e w' => (∃ r s1 s2 s3 s4, e = .returned (.agg #[.string r.nm, .bool r.up, .int .i64 r.ck, .bool r.kn, .int .i64 r.se, s1, s2, s3, s4]) ∧ Falls mach m r ∧ SlM w' r s1 s2 s3 s4 w.heap.size) ∧ Below w.heap.size w w' := by
  have S0 : Hid (Sc w #[.string m.nm, .bool m.up, .int .i64 m.ck, .bool m.kn, .int .i64 m.se, .slice (some ⟨b1, 0, none⟩) m.ws.length m.ws.length, .slice (some ⟨b2, 0, none⟩) m.rs.length m.rs.length, .slice (some ⟨b3, 0, none⟩) m.qs.length m.qs.length, .slice (some ⟨b4, 0, none⟩) m.gs.length m.gs.length] ((w.alloc (.cells #[.string m.nm, .bool m.up, .int .i64 m.ck, .bool m.kn, .int .i64 m.se, .slice (some ⟨b1, 0, none⟩) m.ws.length m.ws.length, .slice (some ⟨b2, 0, none⟩) m.rs.length m.rs.length, .slice (some ⟨b3, 0, none⟩) m.qs.length m.qs.length, .slice (some ⟨b4, 0, none⟩) m.gs.length m.gs.length] 27)).alloc (.cells #[.string { data := #[] }, .bool false, .int .i64 0, .bool false, .int .i64 0, .slice none 0 0, .slice none 0 0, .slice none 0 0, .slice none 0 0] 27))) := sc_new m b1 b2 b3 b4 w
  have hinfo : (Try.prog.info? 27).map (·.size) = some 9 := by kernel_rfl
  go_enter Try.func15, Try.ntmps15
  go_wp2_with fail
  refine (implValid m b1 b2 b3 b4 _ (hL.keep S0.out.e) hf).mono ?_
  rintro e w1 ⟨⟨q, rfl, hq⟩, c1⟩
  have S1 : Hid (Sc w #[.string m.nm, .bool m.up, .int .i64 m.ck, .bool m.kn, .int .i64 m.se, .slice (some ⟨b1, 0, none⟩) m.ws.length m.ws.length, .slice (some ⟨b2, 0, none⟩) m.rs.length m.rs.length, .slice (some ⟨b3, 0, none⟩) m.qs.length m.qs.length, .slice (some ⟨b4, 0, none⟩) m.gs.length m.gs.length] w1) := S0.out.below c1
  have Hq : Hid (SaysV q m) := hq
  clear hq c1
  have ka := S1.out.b
  have kf := S1.out.c
  cases q
  · go_wp2_with (refine wpList_store_mid (by rfl) 27 _ _ (by rfl) (w.heap.size + 1) 0 #[.string { data := #[] }, .bool false, .int .i64 0, .bool false, .int .i64 0, .slice none 0 0, .slice none 0 0, .slice none 0 0, .slice none 0 0] (by rfl) (by rfl) (by exact S1.out.d) hinfo (by exact all_oneCell_toArray zeros_one) ?_)
    have hrg := World.rangeAt_setCells_same w1 (w.heap.size + 1) 0 [.string { data := #[] }, .bool false, .int .i64 0, .bool false, .int .i64 0, .slice none 0 0, .slice none 0 0, .slice none 0 0, .slice none 0 0] S1.out.d
    have d0 := hrg 0 _ rfl
    have d1 := hrg 1 _ rfl
    have d2 := hrg 2 _ rfl
    have d3 := hrg 3 _ rfl
    have d4 := hrg 4 _ rfl
    have d5 := hrg 5 _ rfl
    have d6 := hrg 6 _ rfl
    have d7 := hrg 7 _ rfl
    have d8 := hrg 8 _ rfl
    simp only [Nat.zero_add] at d0 d1 d2 d3 d4 d5 d6 d7 d8
    exact bodyPost_ret (v := .agg #[.string { data := #[] }, .bool false, .int .i64 0, .bool false, .int .i64 0, .slice none 0 0, .slice none 0 0, .slice none 0 0, .slice none 0 0]) (by simp [results, Try.results15, go_sem, d0, d1, d2, d3, d4, d5, d6, d7, d8]) rfl ⟨⟨zeroD, _, _, _, _, rfl, Or.inr ⟨saysV_false Hq.out, rfl⟩, slm_zero _ _⟩, S1.out.put _⟩
  have hv : Hid (Valid m) := Hq.out.1 rfl
  go_wp2_with fail
  refine (fallen_any mach m b1 b2 b3 b4 _ (hL.keep S1.out.e) hf).mono ?_
  rintro e w2 ⟨⟨s2, rfl, r⟩, c2⟩
  obtain ⟨l2, hl2⟩ : ∃ l, l = fallR mach m.rs := ⟨_, rfl⟩
  have Hl2 : Hid _ := hl2
  rw [← hl2] at r
  have S2 : Hid (Sc w #[.string m.nm, .bool m.up, .int .i64 m.ck, .bool m.kn, .int .i64 m.se, .slice (some ⟨b1, 0, none⟩) m.ws.length m.ws.length, .slice (some ⟨b2, 0, none⟩) m.rs.length m.rs.length, .slice (some ⟨b3, 0, none⟩) m.qs.length m.qs.length, .slice (some ⟨b4, 0, none⟩) m.gs.length m.gs.length] w2) := S1.out.below c2
  obtain ⟨a2, p2, hs2⟩ := Sl.shape r
  subst hs2
  have Q2 : Hid (Sl w2 (.slice a2 l2.length p2) l2 w1.heap.size) := r
  clear r c2 ka kf hl2
  have zb1 : w.heap.size + 1 < w1.heap.size := S1.out.f
  go_wp2_with (refine wpList_store_mid (by rfl) 27 _ _ (by rfl) (w.heap.size + 1) 0 #[.string m.nm, .bool false, .int .i64 m.ck, .bool false, .int .i64 0, .slice none 0 0, .slice a2 l2.length p2, .slice none 0 0, .slice none 0 0] (by rfl) (by rfl) (by exact S2.out.d) hinfo (by exact all_oneCell_toArray (fell_one m a2 l2.length p2)) ?_)
  have Q3 : Sl (w2.setCells (w.heap.size + 1) 0 [.string m.nm, .bool false, .int .i64 m.ck, .bool false, .int .i64 0, .slice none 0 0, .slice a2 l2.length p2, .slice none 0 0, .slice none 0 0]) (.slice a2 l2.length p2) (fallR mach m.rs) w.heap.size := by rw [← Hl2.out]; exact (Q2.out.exb ((Ex.refl _ _).cells _ _) zb1).low (by omega)
  have hrg := World.rangeAt_setCells_same w2 (w.heap.size + 1) 0 [.string m.nm, .bool false, .int .i64 m.ck, .bool false, .int .i64 0, .slice none 0 0, .slice a2 l2.length p2, .slice none 0 0, .slice none 0 0] S2.out.d
  have d0 := hrg 0 _ rfl
  have d1 := hrg 1 _ rfl
  have d2 := hrg 2 _ rfl
  have d3 := hrg 3 _ rfl
  have d4 := hrg 4 _ rfl
  have d5 := hrg 5 _ rfl
  have d6 := hrg 6 _ rfl
  have d7 := hrg 7 _ rfl
  have d8 := hrg 8 _ rfl
  simp only [Nat.zero_add] at d0 d1 d2 d3 d4 d5 d6 d7 d8
  exact bodyPost_ret (v := .agg #[.string m.nm, .bool false, .int .i64 m.ck, .bool false, .int .i64 0, .slice none 0 0, .slice a2 l2.length p2, .slice none 0 0, .slice none 0 0]) (by simp [results, Try.results15, go_sem, d0, d1, d2, d3, d4, d5, d6, d7, d8]) rfl ⟨⟨fellD mach m, _, _, _, _, rfl, Or.inl ⟨hv.out, rfl⟩, slm_fell Q3⟩, S2.out.put _⟩
end Go.Proofs.Ytkebokkckmgloaa
/- A mate whose lists may be nil is copied: the specification's side. -/
namespace Go.Proofs.Ytkebokkckmgloaa
open Go.RowKit
set_option linter.unusedVariables false

/-- Where a list comes from: nil, or a block. -/
def W.Src (w : World) (a : Option Addr) (c : Nat) (l : List W.WantD) : Prop := (a = none ∧ c = 0 ∧ l = []) ∨ ∃ g, a = some ⟨g, 0, none⟩ ∧ g < w.heap.size ∧ W.RowsAt w g 0 l
theorem W.Src.keep {w w' : World} {a : Option Addr} {c : Nat} {l : List W.WantD} (h : W.Src w a c l) (hb : Below w.heap.size w w') : W.Src w' a c l := by
  rcases h with h | ⟨g, h1, h2, h3⟩
  · exact Or.inl h
  · exact Or.inr ⟨g, h1, Nat.lt_of_lt_of_le h2 hb.size, h3.keep h2 hb⟩
theorem W.Sl.src {w : World} {a : Option Addr} {c B : Nat} {l : List W.WantD} (h : W.Sl w (.slice a l.length c) l B) : W.Src w a c l := by
  rcases h with ⟨h, rfl⟩ | ⟨g, cap, h0, h1, h2, h3, h4⟩
  · cases h; exact Or.inl ⟨rfl, rfl, rfl⟩
  · cases h0; exact Or.inr ⟨g, rfl, h2, h3⟩
theorem W.wp_copy {ops : Array Oper} {rest : List Oper} {o : Oper} {a : Act} {Q : Exit → Act → World → Prop} (Wo : World) (hgd : o.guard = none) (s x : Operand)
    (ho : o.op = .call { callee := .builtin .append, args := #[s, x], argTypes := #[23, 23] })
    (l : List W.WantD) (ad : Option Addr) (c : Nat) (hs : a.eval s = .slice (some ⟨Wo.heap.size, 0, none⟩) 0 0) (hx : a.eval x = .slice ad l.length c) (hsrc : W.Src Wo ad c l) (hl : l.length ≤ 1048576)
    (h : ∀ s' w', W.Sl w' s' l Wo.heap.size → Below Wo.heap.size Wo w' → wpList Try.prog ops Q rest (a.put o.dst s') w') : wpList Try.prog ops Q (o :: rest) a (Wo.alloc (.cells #[] 36)) := by
  obtain ⟨i0, hi, hz0, hz1, hz2⟩ := info_parts W.infoR
  have hown : (Wo.alloc (.cells #[] 36)).ownsRow Wo.heap.size 36 7 (.slice (some ⟨Wo.heap.size, 0, none⟩) 0 0) 0 [] := World.ownsRow_made Wo #[] 0 (Nat.le_refl _) (Nat.zero_le _) rfl
  have hb : Below Wo.heap.size Wo (Wo.alloc (.cells #[] 36)) := bl_alloc (Below.refl _ _) _
  rcases hsrc with ⟨rfl, rfl, rfl⟩ | ⟨g, rfl, hg, hr⟩
  · exact wpList_append_own_none hgd s x 23 ho Wo.heap.size 36 i0 7 Try.underlying23 hi _ 0 [] hs hown hx (h _ _ (W.Sl.of_owns (l := []) hown) hb)
  · refine wpList_append_own _ hgd s x 23 ho Wo.heap.size 36 i0 _ 7 72 Try.underlying23 hi hz0 hz1 hz2 rfl (by decide) _ 0 [] hs hown ⟨g, 0, none⟩ l.length c (W.flatR l) hx (W.flatR_len _) (W.flat_cells (hr.keep hg hb)) (W.flatR_one _) (by unfold maxLen; omega) (by omega) hb.size ?_
    intro s' w' ho' hg' hn'
    exact h s' w' (W.Sl.of_owns (by simpa using ho')) (Below.grown hb hg' hb.size (fun j hj => by cases hj; exact Nat.le_refl _))
/-- Where a list comes from: nil, or a block. -/
def Src (w : World) (a : Option Addr) (c : Nat) (l : List RunD) : Prop := (a = none ∧ c = 0 ∧ l = []) ∨ ∃ g, a = some ⟨g, 0, none⟩ ∧ g < w.heap.size ∧ RowsAt w g 0 l
theorem Src.keep {w w' : World} {a : Option Addr} {c : Nat} {l : List RunD} (h : Src w a c l) (hb : Below w.heap.size w w') : Src w' a c l := by
  rcases h with h | ⟨g, h1, h2, h3⟩
  · exact Or.inl h
  · exact Or.inr ⟨g, h1, Nat.lt_of_lt_of_le h2 hb.size, h3.keep h2 hb⟩
theorem Sl.src {w : World} {a : Option Addr} {c B : Nat} {l : List RunD} (h : Sl w (.slice a l.length c) l B) : Src w a c l := by
  rcases h with ⟨h, rfl⟩ | ⟨g, cap, h0, h1, h2, h3, h4⟩
  · cases h; exact Or.inl ⟨rfl, rfl, rfl⟩
  · cases h0; exact Or.inr ⟨g, rfl, h2, h3⟩
theorem wp_copy {ops : Array Oper} {rest : List Oper} {o : Oper} {a : Act} {Q : Exit → Act → World → Prop} (Wo : World) (hgd : o.guard = none) (s x : Operand)
    (ho : o.op = .call { callee := .builtin .append, args := #[s, x], argTypes := #[24, 24] })
    (l : List RunD) (ad : Option Addr) (c : Nat) (hs : a.eval s = .slice (some ⟨Wo.heap.size, 0, none⟩) 0 0) (hx : a.eval x = .slice ad l.length c) (hsrc : Src Wo ad c l) (hl : l.length ≤ 1048576)
    (h : ∀ s' w', Sl w' s' l Wo.heap.size → Below Wo.heap.size Wo w' → wpList Try.prog ops Q rest (a.put o.dst s') w') : wpList Try.prog ops Q (o :: rest) a (Wo.alloc (.cells #[] 38)) := by
  obtain ⟨i0, hi, hz0, hz1, hz2⟩ := info_parts infoR
  have hown : (Wo.alloc (.cells #[] 38)).ownsRow Wo.heap.size 38 11 (.slice (some ⟨Wo.heap.size, 0, none⟩) 0 0) 0 [] := World.ownsRow_made Wo #[] 0 (Nat.le_refl _) (Nat.zero_le _) rfl
  have hb : Below Wo.heap.size Wo (Wo.alloc (.cells #[] 38)) := bl_alloc (Below.refl _ _) _
  rcases hsrc with ⟨rfl, rfl, rfl⟩ | ⟨g, rfl, hg, hr⟩
  · exact wpList_append_own_none hgd s x 24 ho Wo.heap.size 38 i0 11 Try.underlying24 hi _ 0 [] hs hown hx (h _ _ (Sl.of_owns (l := []) hown) hb)
  · refine wpList_append_own _ hgd s x 24 ho Wo.heap.size 38 i0 _ 11 104 Try.underlying24 hi hz0 hz1 hz2 rfl (by decide) _ 0 [] hs hown ⟨g, 0, none⟩ l.length c (flatR l) hx (flatR_len _) (flat_cells (hr.keep hg hb)) (flatR_one _) (by unfold maxLen; omega) (by omega) hb.size ?_
    intro s' w' ho' hg' hn'
    exact h s' w' (Sl.of_owns (by simpa using ho')) (Below.grown hb hg' hb.size (fun j hj => by cases hj; exact Nat.le_refl _))
/-- Where a list comes from: nil, or a block. -/
def A.Src (w : World) (a : Option Addr) (c : Nat) (l : List A.AskD) : Prop := (a = none ∧ c = 0 ∧ l = []) ∨ ∃ g, a = some ⟨g, 0, none⟩ ∧ g < w.heap.size ∧ A.RowsAt w g 0 l
theorem A.Src.keep {w w' : World} {a : Option Addr} {c : Nat} {l : List A.AskD} (h : A.Src w a c l) (hb : Below w.heap.size w w') : A.Src w' a c l := by
  rcases h with h | ⟨g, h1, h2, h3⟩
  · exact Or.inl h
  · exact Or.inr ⟨g, h1, Nat.lt_of_lt_of_le h2 hb.size, h3.keep h2 hb⟩
theorem A.Sl.src {w : World} {a : Option Addr} {c B : Nat} {l : List A.AskD} (h : A.Sl w (.slice a l.length c) l B) : A.Src w a c l := by
  rcases h with ⟨h, rfl⟩ | ⟨g, cap, h0, h1, h2, h3, h4⟩
  · cases h; exact Or.inl ⟨rfl, rfl, rfl⟩
  · cases h0; exact Or.inr ⟨g, rfl, h2, h3⟩
theorem A.wp_copy {ops : Array Oper} {rest : List Oper} {o : Oper} {a : Act} {Q : Exit → Act → World → Prop} (Wo : World) (hgd : o.guard = none) (s x : Operand)
    (ho : o.op = .call { callee := .builtin .append, args := #[s, x], argTypes := #[25, 25] })
    (l : List A.AskD) (ad : Option Addr) (c : Nat) (hs : a.eval s = .slice (some ⟨Wo.heap.size, 0, none⟩) 0 0) (hx : a.eval x = .slice ad l.length c) (hsrc : A.Src Wo ad c l) (hl : l.length ≤ 1048576)
    (h : ∀ s' w', A.Sl w' s' l Wo.heap.size → Below Wo.heap.size Wo w' → wpList Try.prog ops Q rest (a.put o.dst s') w') : wpList Try.prog ops Q (o :: rest) a (Wo.alloc (.cells #[] 99)) := by
  obtain ⟨i0, hi, hz0, hz1, hz2⟩ := info_parts A.infoR
  have hown : (Wo.alloc (.cells #[] 99)).ownsRow Wo.heap.size 99 4 (.slice (some ⟨Wo.heap.size, 0, none⟩) 0 0) 0 [] := World.ownsRow_made Wo #[] 0 (Nat.le_refl _) (Nat.zero_le _) rfl
  have hb : Below Wo.heap.size Wo (Wo.alloc (.cells #[] 99)) := bl_alloc (Below.refl _ _) _
  rcases hsrc with ⟨rfl, rfl, rfl⟩ | ⟨g, rfl, hg, hr⟩
  · exact wpList_append_own_none hgd s x 25 ho Wo.heap.size 99 i0 4 Try.underlying25 hi _ 0 [] hs hown hx (h _ _ (A.Sl.of_owns (l := []) hown) hb)
  · refine wpList_append_own _ hgd s x 25 ho Wo.heap.size 99 i0 _ 4 48 Try.underlying25 hi hz0 hz1 hz2 rfl (by decide) _ 0 [] hs hown ⟨g, 0, none⟩ l.length c (A.flatR l) hx (A.flatR_len _) (A.flat_cells (hr.keep hg hb)) (A.flatR_one _) (by unfold maxLen; omega) (by omega) hb.size ?_
    intro s' w' ho' hg' hn'
    exact h s' w' (A.Sl.of_owns (by simpa using ho')) (Below.grown hb hg' hb.size (fun j hj => by cases hj; exact Nat.le_refl _))
theorem sc_src (m : MateD) (x1 x2 x3 x4 : Option Addr) (c1 c2 c3 c4 : Nat) (w : World) : Sc w #[.string m.nm, .bool m.up, .int .i64 m.ck, .bool m.kn, .int .i64 m.se, .slice x1 m.ws.length c1, .slice x2 m.rs.length c2, .slice x3 m.qs.length c3, .slice x4 m.gs.length c4] ((w.alloc (.cells #[.string m.nm, .bool m.up, .int .i64 m.ck, .bool m.kn, .int .i64 m.se, .slice x1 m.ws.length c1, .slice x2 m.rs.length c2, .slice x3 m.qs.length c3, .slice x4 m.gs.length c4] 27)).alloc (.cells #[.string { data := #[] }, .bool false, .int .i64 0, .bool false, .int .i64 0, .slice none 0 0, .slice none 0 0, .slice none 0 0, .slice none 0 0] 27)) :=
  ⟨fun k => by simp [go_sem], fun k => by simp [go_sem], fun j hj => ⟨by simp [go_sem] <;> omega, by simp [go_sem]⟩, bl_alloc (bl_alloc (Below.refl _ _) _) _, by simp⟩

set_option maxRecDepth 4000 in
set_option maxHeartbeats 4000000 in
theorem l4Copy_src (m : MateD) (x1 x2 x3 x4 : Option Addr) (c1 c2 c3 c4 : Nat) (w : World) (h1 : W.Src w x1 c1 m.ws) (h2 : Src w x2 c2 m.rs) (h3 : A.Src w x3 c3 m.qs) (h4 : A.Src w x4 c4 m.gs) (hf : Lens m) :
    Calls Try.prog 64 #[.agg #[.string m.nm, .bool m.up, .int .i64 m.ck, .bool m.kn, .int .i64 m.se, .slice x1 m.ws.length c1, .slice x2 m.rs.length c2, .slice x3 m.qs.length c3, .slice x4 m.gs.length c4]] w fun e w' => (∃ s1 s2 s3 s4, e = .returned (.agg #[.string m.nm, .bool m.up, .int .i64 m.ck, .bool m.kn, .int .i64 m.se, s1, s2, s3, s4]) ∧ SlM w' m s1 s2 s3 s4 w.heap.size) ∧ Below w.heap.size w w' := by
  have S0 : Hid (Sc w #[.string m.nm, .bool m.up, .int .i64 m.ck, .bool m.kn, .int .i64 m.se, .slice x1 m.ws.length c1, .slice x2 m.rs.length c2, .slice x3 m.qs.length c3, .slice x4 m.gs.length c4] ((w.alloc (.cells #[.string m.nm, .bool m.up, .int .i64 m.ck, .bool m.kn, .int .i64 m.se, .slice x1 m.ws.length c1, .slice x2 m.rs.length c2, .slice x3 m.qs.length c3, .slice x4 m.gs.length c4] 27)).alloc (.cells #[.string { data := #[] }, .bool false, .int .i64 0, .bool false, .int .i64 0, .slice none 0 0, .slice none 0 0, .slice none 0 0, .slice none 0 0] 27))) := sc_src m x1 x2 x3 x4 c1 c2 c3 c4 w
  have hinfo : (Try.prog.info? 27).map (·.size) = some 9 := by kernel_rfl
  have nbw := build0w
  have nbr := build0r
  have nba := build0a
  have kz0 : w.heap.size < w.heap.size + 1 := by omega
  have H1 : Hid (W.Src w x1 c1 m.ws) := h1
  have H2 : Hid (Src w x2 c2 m.rs) := h2
  have H3 : Hid (A.Src w x3 c3 m.qs) := h3
  have H4 : Hid (A.Src w x4 c4 m.gs) := h4
  clear h1 h2 h3 h4
  go_enter Try.func64, Try.ntmps64
  go_wp2_with (first | (at_builtin; refine W.wp_copy ((w.alloc (.cells #[.string m.nm, .bool m.up, .int .i64 m.ck, .bool m.kn, .int .i64 m.se, .slice x1 m.ws.length c1, .slice x2 m.rs.length c2, .slice x3 m.qs.length c3, .slice x4 m.gs.length c4] 27)).alloc (.cells #[.string { data := #[] }, .bool false, .int .i64 0, .bool false, .int .i64 0, .slice none 0 0, .slice none 0 0, .slice none 0 0, .slice none 0 0] 27)) rfl (.tmp 3) (.tmp 5) rfl m.ws x1 c1 (by first | rfl | simp [Act.eval]) (by first | rfl | simp [Act.eval]) (W.Src.keep H1.out S0.out.e) hf.k1 ?_; intro s1 w1 r1 y1; obtain ⟨a1, p1, hs1⟩ := W.Sl.shape r1; subst hs1; have Y1 : Hid (Below ((w.alloc (.cells #[.string m.nm, .bool m.up, .int .i64 m.ck, .bool m.kn, .int .i64 m.se, .slice x1 m.ws.length c1, .slice x2 m.rs.length c2, .slice x3 m.qs.length c3, .slice x4 m.gs.length c4] 27)).alloc (.cells #[.string { data := #[] }, .bool false, .int .i64 0, .bool false, .int .i64 0, .slice none 0 0, .slice none 0 0, .slice none 0 0, .slice none 0 0] 27)).heap.size ((w.alloc (.cells #[.string m.nm, .bool m.up, .int .i64 m.ck, .bool m.kn, .int .i64 m.se, .slice x1 m.ws.length c1, .slice x2 m.rs.length c2, .slice x3 m.qs.length c3, .slice x4 m.gs.length c4] 27)).alloc (.cells #[.string { data := #[] }, .bool false, .int .i64 0, .bool false, .int .i64 0, .slice none 0 0, .slice none 0 0, .slice none 0 0, .slice none 0 0] 27)) w1) := y1; have Q1 : Hid (W.Sl w1 (.slice a1 m.ws.length p1) m.ws ((w.alloc (.cells #[.string m.nm, .bool m.up, .int .i64 m.ck, .bool m.kn, .int .i64 m.se, .slice x1 m.ws.length c1, .slice x2 m.rs.length c2, .slice x3 m.qs.length c3, .slice x4 m.gs.length c4] 27)).alloc (.cells #[.string { data := #[] }, .bool false, .int .i64 0, .bool false, .int .i64 0, .slice none 0 0, .slice none 0 0, .slice none 0 0, .slice none 0 0] 27)).heap.size) := r1; have T1 : Hid (Sc w #[.string m.nm, .bool m.up, .int .i64 m.ck, .bool m.kn, .int .i64 m.se, .slice x1 m.ws.length c1, .slice x2 m.rs.length c2, .slice x3 m.qs.length c3, .slice x4 m.gs.length c4] w1) := S0.out.below Y1.out; have S1 : Hid (Sc w #[.string m.nm, .bool m.up, .int .i64 m.ck, .bool m.kn, .int .i64 m.se, (.slice a1 m.ws.length p1), .slice x2 m.rs.length c2, .slice x3 m.qs.length c3, .slice x4 m.gs.length c4] (w1.setCell ⟨w.heap.size, 5, none⟩ (.slice a1 m.ws.length p1))) := T1.out.set 5 (by simp) _; have X1 : Hid (Ex w.heap.size w1 (w1.setCell ⟨w.heap.size, 5, none⟩ (.slice a1 m.ws.length p1))) := Ex.set (Ex.refl _ _) 5 _; clear r1 y1; have ka1 := T1.out.b; have kf1 := T1.out.c; have kz1 : w.heap.size < w1.heap.size := by have := T1.out.f; omega) | (at_builtin; refine wp_copy (w1.setCell ⟨w.heap.size, 5, none⟩ (.slice a1 m.ws.length p1)) rfl (.tmp 8) (.tmp 10) rfl m.rs x2 c2 (by first | rfl | simp [Act.eval]) (by first | rfl | simp [Act.eval]) (Src.keep H2.out S1.out.e) hf.k2 ?_; intro s2 w2 r2 y2; obtain ⟨a2, p2, hs2⟩ := Sl.shape r2; subst hs2; have Y2 : Hid (Below (w1.setCell ⟨w.heap.size, 5, none⟩ (.slice a1 m.ws.length p1)).heap.size (w1.setCell ⟨w.heap.size, 5, none⟩ (.slice a1 m.ws.length p1)) w2) := y2; have Q2 : Hid (Sl w2 (.slice a2 m.rs.length p2) m.rs (w1.setCell ⟨w.heap.size, 5, none⟩ (.slice a1 m.ws.length p1)).heap.size) := r2; have T2 : Hid (Sc w #[.string m.nm, .bool m.up, .int .i64 m.ck, .bool m.kn, .int .i64 m.se, (.slice a1 m.ws.length p1), .slice x2 m.rs.length c2, .slice x3 m.qs.length c3, .slice x4 m.gs.length c4] w2) := S1.out.below Y2.out; have S2 : Hid (Sc w #[.string m.nm, .bool m.up, .int .i64 m.ck, .bool m.kn, .int .i64 m.se, (.slice a1 m.ws.length p1), (.slice a2 m.rs.length p2), .slice x3 m.qs.length c3, .slice x4 m.gs.length c4] (w2.setCell ⟨w.heap.size, 6, none⟩ (.slice a2 m.rs.length p2))) := T2.out.set 6 (by simp) _; have X2 : Hid (Ex w.heap.size w2 (w2.setCell ⟨w.heap.size, 6, none⟩ (.slice a2 m.rs.length p2))) := Ex.set (Ex.refl _ _) 6 _; clear r2 y2; have ka2 := T2.out.b; have kf2 := T2.out.c; have kz2 : w.heap.size < w2.heap.size := by have := T2.out.f; omega) | (at_builtin; refine A.wp_copy (w2.setCell ⟨w.heap.size, 6, none⟩ (.slice a2 m.rs.length p2)) rfl (.tmp 13) (.tmp 15) rfl m.qs x3 c3 (by first | rfl | simp [Act.eval]) (by first | rfl | simp [Act.eval]) (A.Src.keep H3.out S2.out.e) hf.k3 ?_; intro s3 w3 r3 y3; obtain ⟨a3, p3, hs3⟩ := A.Sl.shape r3; subst hs3; have Y3 : Hid (Below (w2.setCell ⟨w.heap.size, 6, none⟩ (.slice a2 m.rs.length p2)).heap.size (w2.setCell ⟨w.heap.size, 6, none⟩ (.slice a2 m.rs.length p2)) w3) := y3; have Q3 : Hid (A.Sl w3 (.slice a3 m.qs.length p3) m.qs (w2.setCell ⟨w.heap.size, 6, none⟩ (.slice a2 m.rs.length p2)).heap.size) := r3; have T3 : Hid (Sc w #[.string m.nm, .bool m.up, .int .i64 m.ck, .bool m.kn, .int .i64 m.se, (.slice a1 m.ws.length p1), (.slice a2 m.rs.length p2), .slice x3 m.qs.length c3, .slice x4 m.gs.length c4] w3) := S2.out.below Y3.out; have S3 : Hid (Sc w #[.string m.nm, .bool m.up, .int .i64 m.ck, .bool m.kn, .int .i64 m.se, (.slice a1 m.ws.length p1), (.slice a2 m.rs.length p2), (.slice a3 m.qs.length p3), .slice x4 m.gs.length c4] (w3.setCell ⟨w.heap.size, 7, none⟩ (.slice a3 m.qs.length p3))) := T3.out.set 7 (by simp) _; have X3 : Hid (Ex w.heap.size w3 (w3.setCell ⟨w.heap.size, 7, none⟩ (.slice a3 m.qs.length p3))) := Ex.set (Ex.refl _ _) 7 _; clear r3 y3; have ka3 := T3.out.b; have kf3 := T3.out.c; have kz3 : w.heap.size < w3.heap.size := by have := T3.out.f; omega) | (at_builtin; refine A.wp_copy (w3.setCell ⟨w.heap.size, 7, none⟩ (.slice a3 m.qs.length p3)) rfl (.tmp 18) (.tmp 20) rfl m.gs x4 c4 (by first | rfl | simp [Act.eval]) (by first | rfl | simp [Act.eval]) (A.Src.keep H4.out S3.out.e) hf.k4 ?_; intro s4 w4 r4 y4; obtain ⟨a4, p4, hs4⟩ := A.Sl.shape r4; subst hs4; have Y4 : Hid (Below (w3.setCell ⟨w.heap.size, 7, none⟩ (.slice a3 m.qs.length p3)).heap.size (w3.setCell ⟨w.heap.size, 7, none⟩ (.slice a3 m.qs.length p3)) w4) := y4; have Q4 : Hid (A.Sl w4 (.slice a4 m.gs.length p4) m.gs (w3.setCell ⟨w.heap.size, 7, none⟩ (.slice a3 m.qs.length p3)).heap.size) := r4; have T4 : Hid (Sc w #[.string m.nm, .bool m.up, .int .i64 m.ck, .bool m.kn, .int .i64 m.se, (.slice a1 m.ws.length p1), (.slice a2 m.rs.length p2), (.slice a3 m.qs.length p3), .slice x4 m.gs.length c4] w4) := S3.out.below Y4.out; have S4 : Hid (Sc w #[.string m.nm, .bool m.up, .int .i64 m.ck, .bool m.kn, .int .i64 m.se, (.slice a1 m.ws.length p1), (.slice a2 m.rs.length p2), (.slice a3 m.qs.length p3), (.slice a4 m.gs.length p4)] (w4.setCell ⟨w.heap.size, 8, none⟩ (.slice a4 m.gs.length p4))) := T4.out.set 8 (by simp) _; have X4 : Hid (Ex w.heap.size w4 (w4.setCell ⟨w.heap.size, 8, none⟩ (.slice a4 m.gs.length p4))) := Ex.set (Ex.refl _ _) 8 _; clear r4 y4; have ka4 := T4.out.b; have kf4 := T4.out.c; have kz4 : w.heap.size < w4.heap.size := by have := T4.out.f; omega) | (refine wpList_store_mid (by rfl) 27 _ _ (by rfl) (w.heap.size + 1) 0 #[.string m.nm, .bool m.up, .int .i64 m.ck, .bool m.kn, .int .i64 m.se, (.slice a1 m.ws.length p1), (.slice a2 m.rs.length p2), (.slice a3 m.qs.length p3), (.slice a4 m.gs.length p4)] (by rfl) (by rfl) (by exact S4.out.d) hinfo (by exact all_oneCell_toArray (ones m Q1.out Q2.out Q3.out Q4.out)) ?_))
  have hx1 : Ex (w.heap.size + 1) (w4.setCell ⟨w.heap.size, 8, none⟩ (.slice a4 m.gs.length p4)) (World.setCells (w4.setCell ⟨w.heap.size, 8, none⟩ (.slice a4 m.gs.length p4)) (w.heap.size + 1) 0 [.string m.nm, .bool m.up, .int .i64 m.ck, .bool m.kn, .int .i64 m.se, (.slice a1 m.ws.length p1), (.slice a2 m.rs.length p2), (.slice a3 m.qs.length p3), (.slice a4 m.gs.length p4)]) := (Ex.refl _ _).cells _ _
  have P1 : Hid (W.Sl (World.setCells (w4.setCell ⟨w.heap.size, 8, none⟩ (.slice a4 m.gs.length p4)) (w.heap.size + 1) 0 [.string m.nm, .bool m.up, .int .i64 m.ck, .bool m.kn, .int .i64 m.se, (.slice a1 m.ws.length p1), (.slice a2 m.rs.length p2), (.slice a3 m.qs.length p3), (.slice a4 m.gs.length p4)]) (.slice a1 m.ws.length p1) m.ws w.heap.size) := W.Sl.low (((((((((Q1.out).grown (W.ex_grown X1.out) (ob_ne (N := w.heap.size + 1) (fun g hg => by have h1 := (Q1.out.lt g hg).1; have h2 := S0.out.f; omega) (by omega))).keep Y2.out).grown (W.ex_grown X2.out) (ob_ne (N := w.heap.size + 1) (fun g hg => by have h1 := (Q1.out.lt g hg).1; have h2 := S0.out.f; omega) (by omega))).keep Y3.out).grown (W.ex_grown X3.out) (ob_ne (N := w.heap.size + 1) (fun g hg => by have h1 := (Q1.out.lt g hg).1; have h2 := S0.out.f; omega) (by omega))).keep Y4.out).grown (W.ex_grown X4.out) (ob_ne (N := w.heap.size + 1) (fun g hg => by have h1 := (Q1.out.lt g hg).1; have h2 := S0.out.f; omega) (by omega))).grown (W.ex_grown hx1) (ob_ne (N := w.heap.size + 1) (fun g hg => by have h1 := (Q1.out.lt g hg).1; have h2 := S0.out.f; omega) (by omega))) (by have := S0.out.f; omega)
  have P2 : Hid (Sl (World.setCells (w4.setCell ⟨w.heap.size, 8, none⟩ (.slice a4 m.gs.length p4)) (w.heap.size + 1) 0 [.string m.nm, .bool m.up, .int .i64 m.ck, .bool m.kn, .int .i64 m.se, (.slice a1 m.ws.length p1), (.slice a2 m.rs.length p2), (.slice a3 m.qs.length p3), (.slice a4 m.gs.length p4)]) (.slice a2 m.rs.length p2) m.rs w.heap.size) := Sl.low (((((((Q2.out).grown (ex_grown X2.out) (ob_ne (N := w.heap.size + 1) (fun g hg => by have h1 := (Q2.out.lt g hg).1; have h2 := S1.out.f; omega) (by omega))).keep Y3.out).grown (ex_grown X3.out) (ob_ne (N := w.heap.size + 1) (fun g hg => by have h1 := (Q2.out.lt g hg).1; have h2 := S1.out.f; omega) (by omega))).keep Y4.out).grown (ex_grown X4.out) (ob_ne (N := w.heap.size + 1) (fun g hg => by have h1 := (Q2.out.lt g hg).1; have h2 := S1.out.f; omega) (by omega))).grown (ex_grown hx1) (ob_ne (N := w.heap.size + 1) (fun g hg => by have h1 := (Q2.out.lt g hg).1; have h2 := S1.out.f; omega) (by omega))) (by have := S1.out.f; omega)
  have P3 : Hid (A.Sl (World.setCells (w4.setCell ⟨w.heap.size, 8, none⟩ (.slice a4 m.gs.length p4)) (w.heap.size + 1) 0 [.string m.nm, .bool m.up, .int .i64 m.ck, .bool m.kn, .int .i64 m.se, (.slice a1 m.ws.length p1), (.slice a2 m.rs.length p2), (.slice a3 m.qs.length p3), (.slice a4 m.gs.length p4)]) (.slice a3 m.qs.length p3) m.qs w.heap.size) := A.Sl.low (((((Q3.out).grown (A.ex_grown X3.out) (ob_ne (N := w.heap.size + 1) (fun g hg => by have h1 := (Q3.out.lt g hg).1; have h2 := S2.out.f; omega) (by omega))).keep Y4.out).grown (A.ex_grown X4.out) (ob_ne (N := w.heap.size + 1) (fun g hg => by have h1 := (Q3.out.lt g hg).1; have h2 := S2.out.f; omega) (by omega))).grown (A.ex_grown hx1) (ob_ne (N := w.heap.size + 1) (fun g hg => by have h1 := (Q3.out.lt g hg).1; have h2 := S2.out.f; omega) (by omega))) (by have := S2.out.f; omega)
  have P4 : Hid (A.Sl (World.setCells (w4.setCell ⟨w.heap.size, 8, none⟩ (.slice a4 m.gs.length p4)) (w.heap.size + 1) 0 [.string m.nm, .bool m.up, .int .i64 m.ck, .bool m.kn, .int .i64 m.se, (.slice a1 m.ws.length p1), (.slice a2 m.rs.length p2), (.slice a3 m.qs.length p3), (.slice a4 m.gs.length p4)]) (.slice a4 m.gs.length p4) m.gs w.heap.size) := A.Sl.low (((Q4.out).grown (A.ex_grown X4.out) (ob_ne (N := w.heap.size + 1) (fun g hg => by have h1 := (Q4.out.lt g hg).1; have h2 := S3.out.f; omega) (by omega))).grown (A.ex_grown hx1) (ob_ne (N := w.heap.size + 1) (fun g hg => by have h1 := (Q4.out.lt g hg).1; have h2 := S3.out.f; omega) (by omega))) (by have := S3.out.f; omega)
  have D12 : Hid (Dif (.slice a1 m.ws.length p1) (.slice a2 m.rs.length p2)) := dif_lt (fun g hg => (Q1.out.lt g hg).2) (fun g hg => (Q2.out.lt g hg).1) (by have h0 := X1.out.size; omega)
  have D13 : Hid (Dif (.slice a1 m.ws.length p1) (.slice a3 m.qs.length p3)) := dif_lt (fun g hg => (Q1.out.lt g hg).2) (fun g hg => (Q3.out.lt g hg).1) (by have h0 := X1.out.size; have h1 := X2.out.size; have h2 := Y2.out.size; omega)
  have D14 : Hid (Dif (.slice a1 m.ws.length p1) (.slice a4 m.gs.length p4)) := dif_lt (fun g hg => (Q1.out.lt g hg).2) (fun g hg => (Q4.out.lt g hg).1) (by have h0 := X1.out.size; have h1 := X2.out.size; have h2 := X3.out.size; have h3 := Y2.out.size; have h4 := Y3.out.size; omega)
  have D23 : Hid (Dif (.slice a2 m.rs.length p2) (.slice a3 m.qs.length p3)) := dif_lt (fun g hg => (Q2.out.lt g hg).2) (fun g hg => (Q3.out.lt g hg).1) (by have h0 := X2.out.size; omega)
  have D24 : Hid (Dif (.slice a2 m.rs.length p2) (.slice a4 m.gs.length p4)) := dif_lt (fun g hg => (Q2.out.lt g hg).2) (fun g hg => (Q4.out.lt g hg).1) (by have h0 := X2.out.size; have h1 := X3.out.size; have h2 := Y3.out.size; omega)
  have D34 : Hid (Dif (.slice a3 m.qs.length p3) (.slice a4 m.gs.length p4)) := dif_lt (fun g hg => (Q3.out.lt g hg).2) (fun g hg => (Q4.out.lt g hg).1) (by have h0 := X3.out.size; omega)
  have LS : Hid (SlM (World.setCells (w4.setCell ⟨w.heap.size, 8, none⟩ (.slice a4 m.gs.length p4)) (w.heap.size + 1) 0 [.string m.nm, .bool m.up, .int .i64 m.ck, .bool m.kn, .int .i64 m.se, (.slice a1 m.ws.length p1), (.slice a2 m.rs.length p2), (.slice a3 m.qs.length p3), (.slice a4 m.gs.length p4)]) m (.slice a1 m.ws.length p1) (.slice a2 m.rs.length p2) (.slice a3 m.qs.length p3) (.slice a4 m.gs.length p4) w.heap.size) := ⟨P1.out, P2.out, P3.out, P4.out, D12.out, D13.out, D14.out, D23.out, D24.out, D34.out⟩
  have BE : Hid (Below w.heap.size w (World.setCells (w4.setCell ⟨w.heap.size, 8, none⟩ (.slice a4 m.gs.length p4)) (w.heap.size + 1) 0 [.string m.nm, .bool m.up, .int .i64 m.ck, .bool m.kn, .int .i64 m.se, (.slice a1 m.ws.length p1), (.slice a2 m.rs.length p2), (.slice a3 m.qs.length p3), (.slice a4 m.gs.length p4)])) := ⟨hx1.os.trans S4.out.e.os, hx1.tape.trans S4.out.e.tape, hx1.output.trans S4.out.e.output, Nat.le_trans S4.out.e.size hx1.size, fun k hk => (hx1.block k (Nat.lt_of_lt_of_le hk S4.out.e.size) (by omega)).trans (S4.out.e.block k hk)⟩
  have RG : Hid _ := World.rangeAt_setCells_same (w4.setCell ⟨w.heap.size, 8, none⟩ (.slice a4 m.gs.length p4)) (w.heap.size + 1) 0 [.string m.nm, .bool m.up, .int .i64 m.ck, .bool m.kn, .int .i64 m.se, (.slice a1 m.ws.length p1), (.slice a2 m.rs.length p2), (.slice a3 m.qs.length p3), (.slice a4 m.gs.length p4)] S4.out.d
  clear hx1 P1 P2 P3 P4
  have hrg := RG.out
  have d0 := hrg 0 _ rfl
  have d1 := hrg 1 _ rfl
  have d2 := hrg 2 _ rfl
  have d3 := hrg 3 _ rfl
  have d4 := hrg 4 _ rfl
  have d5 := hrg 5 _ rfl
  have d6 := hrg 6 _ rfl
  have d7 := hrg 7 _ rfl
  have d8 := hrg 8 _ rfl
  simp only [Nat.zero_add] at d0 d1 d2 d3 d4 d5 d6 d7 d8
  exact bodyPost_ret (v := .agg #[.string m.nm, .bool m.up, .int .i64 m.ck, .bool m.kn, .int .i64 m.se, (.slice a1 m.ws.length p1), (.slice a2 m.rs.length p2), (.slice a3 m.qs.length p3), (.slice a4 m.gs.length p4)]) (by simp [results, Try.results64, go_sem, d0, d1, d2, d3, d4, d5, d6, d7, d8]) rfl ⟨⟨_, _, _, _, rfl, LS.out⟩, BE.out⟩
end Go.Proofs.Ytkebokkckmgloaa
