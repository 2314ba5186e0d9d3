import Derived.Test.YtkebokkckmgloaaJ27
import Derived.Test.YtkebokkckmgloaaJ28
import Derived.Test.YtkebokkckmgloaaJ24
import Derived.Deep.RegionHeld3
import Derived.Maps.AppendAt
import Derived.Deep.DeepCutAuto
import Derived.Laws.Pointers
import Derived.StillTactics
/- MateFall where lists may be nil: the specification's side. -/
namespace Go.Proofs.Ytkebokkckmgloaa
open Go.RowKit
set_option linter.unusedVariables false

set_option maxRecDepth 4000 in
set_option maxHeartbeats 4000000 in
theorem specFallX (mach : Bool) (m : MateD) (x1 x2 x3 x4 : Option Addr) (n1 n2 n3 n4 : Nat) (w : World) (hL : SrcM w m x1 x2 x3 x4 n1 n2 n3 n4) (hf : m.fits) :
    Calls Try.prog 18 #[.agg #[.string m.nm, .bool m.up, .int .i64 m.ck, .bool m.kn, .int .i64 m.se, .slice x1 m.ws.length n1, .slice x2 m.rs.length n2, .slice x3 m.qs.length n3, .slice x4 m.gs.length n4], .bool mach] w fun e w' => (∃ r s1 s2 s3 s4, e = .returned (.agg #[.string r.nm, .bool r.up, .int .i64 r.ck, .bool r.kn, .int .i64 r.se, s1, s2, s3, s4]) ∧ Falls mach m r ∧ SlM w' r s1 s2 s3 s4 w.heap.size) ∧ Below w.heap.size w w' := by
  have S0 : Hid (Sc w #[.string m.nm, .bool m.up, .int .i64 m.ck, .bool m.kn, .int .i64 m.se, .slice x1 m.ws.length n1, .slice x2 m.rs.length n2, .slice x3 m.qs.length n3, .slice x4 m.gs.length n4] ((w.alloc (.cells #[.string m.nm, .bool m.up, .int .i64 m.ck, .bool m.kn, .int .i64 m.se, .slice x1 m.ws.length n1, .slice x2 m.rs.length n2, .slice x3 m.qs.length n3, .slice x4 m.gs.length n4] 27)).alloc (.cells #[.string { data := #[] }, .bool false, .int .i64 0, .bool false, .int .i64 0, .slice none 0 0, .slice none 0 0, .slice none 0 0, .slice none 0 0] 27))) := sc_src m x1 x2 x3 x4 n1 n2 n3 n4 w
  have hinfo : (Try.prog.info? 27).map (·.size) = some 9 := by kernel_rfl
  obtain ⟨i0, hi, hz0, hz1, hz2⟩ := info_parts infoR
  go_enter Try.func18, Try.ntmps18
  go_wp2_with fail
  refine (specValidX m x1 x2 x3 x4 n1 n2 n3 n4 _ (hL.keep S0.out.e).lists hf).mono ?_
  rintro e w1 ⟨⟨q, rfl, hq⟩, c1⟩
  have S1 : Hid (Sc w #[.string m.nm, .bool m.up, .int .i64 m.ck, .bool m.kn, .int .i64 m.se, .slice x1 m.ws.length n1, .slice x2 m.rs.length n2, .slice x3 m.qs.length n3, .slice x4 m.gs.length n4] w1) := S0.out.below c1
  have Hq : Hid (SaysV q m) := hq
  clear hq c1
  have ka := S1.out.b
  have kf := S1.out.c
  cases q
  · go_wp2_with (refine wpList_store_mid (by rfl) 27 _ _ (by rfl) (w.heap.size + 1) 0 #[.string { data := #[] }, .bool false, .int .i64 0, .bool false, .int .i64 0, .slice none 0 0, .slice none 0 0, .slice none 0 0, .slice none 0 0] (by rfl) (by rfl) (by exact S1.out.d) hinfo (by exact all_oneCell_toArray zeros_one) ?_)
    have hrg := World.rangeAt_setCells_same w1 (w.heap.size + 1) 0 [.string { data := #[] }, .bool false, .int .i64 0, .bool false, .int .i64 0, .slice none 0 0, .slice none 0 0, .slice none 0 0, .slice none 0 0] S1.out.d
    have d0 := hrg 0 _ rfl
    have d1 := hrg 1 _ rfl
    have d2 := hrg 2 _ rfl
    have d3 := hrg 3 _ rfl
    have d4 := hrg 4 _ rfl
    have d5 := hrg 5 _ rfl
    have d6 := hrg 6 _ rfl
    have d7 := hrg 7 _ rfl
    have d8 := hrg 8 _ rfl
    simp only [Nat.zero_add] at d0 d1 d2 d3 d4 d5 d6 d7 d8
    exact bodyPost_ret (v := .agg #[.string { data := #[] }, .bool false, .int .i64 0, .bool false, .int .i64 0, .slice none 0 0, .slice none 0 0, .slice none 0 0, .slice none 0 0]) (by simp [results, Try.results18, go_sem, d0, d1, d2, d3, d4, d5, d6, d7, d8]) rfl ⟨⟨zeroD, _, _, _, _, rfl, Or.inr ⟨saysV_false Hq.out, rfl⟩, slm_zero _ _⟩, S1.out.put _⟩
  have hv : Hid (Valid m) := Hq.out.1 rfl
  have F0 : Hid (Fs w #[.string m.nm, .bool m.up, .int .i64 m.ck, .bool m.kn, .int .i64 m.se, .slice x1 m.ws.length n1, .slice x2 m.rs.length n2, .slice x3 m.qs.length n3, .slice x4 m.gs.length n4] m w1.heap.size (.slice none 0 0) (w1.alloc (.cells #[.string m.nm, .bool false, .int .i64 m.ck, .bool false, .int .i64 0, .slice none 0 0, .slice none 0 0, .slice none 0 0, .slice none 0 0] 27))) := fs_new S1.out
  have HL : Hid _ := hL
  have hk2 := hf.k2
  clear hL
  go_wp2_with fail
  clear ka kf
  go_loopw [6] (fun i wx => ∃ (k : Nat), k ≤ m.rs.length ∧ i = .int .i64 k ∧ ∃ v, Fs w #[.string m.nm, .bool m.up, .int .i64 m.ck, .bool m.kn, .int .i64 m.se, .slice x1 m.ws.length n1, .slice x2 m.rs.length n2, .slice x3 m.qs.length n3, .slice x4 m.gs.length n4] m w1.heap.size v wx ∧ wx.ownsRow (w1.heap.size + 1) 38 11 v (fallR mach (m.rs.take k)).length (flatR (fallR mach (m.rs.take k)))) (fun i _ => m.rs.length - (intOf i).toNat)
  case atStart => exact ⟨0, Nat.zero_le _, rfl, _, F0.out, by cases mach <;> exact World.ownsRow_nil _ _ _ _⟩
  case round =>
    obtain ⟨k, hk, rfl, v, hF, hown⟩ := hrel
    have F : Hid (Fs w #[.string m.nm, .bool m.up, .int .i64 m.ck, .bool m.kn, .int .i64 m.se, .slice x1 m.ws.length n1, .slice x2 m.rs.length n2, .slice x3 m.qs.length n3, .slice x4 m.gs.length n4] m w1.heap.size v wr) := hF
    have ka := hF.s.b
    have kf := hF.s.c
    have kb := hF.b
    have kc := hF.c
    have kl := hF.l
    have kw := hF.lw
    have km : w.heap.size < wr.heap.size := by omega
    clear hF
    by_cases hlt : k < m.rs.length
    · obtain ⟨r, hr⟩ : ∃ r, m.rs[k]? = some r := ⟨m.rs[k], List.getElem?_eq_getElem hlt⟩
      have Hr : Hid _ := hr
      obtain ⟨b2, hx2, hb2, hR2⟩ := (HL.out.keep F.out.s.e).lists.r2.resolve_left (fun h => by rw [h] at hlt; simp at hlt)
      subst hx2
      obtain ⟨c0, c1, c2, c3, c4, c5, c6, c7, c8, c9, c10⟩ := hR2.at hr
      simp only [Nat.zero_add] at c0 c1 c2 c3 c4 c5 c6 c7 c8 c9 c10
      obtain ⟨n, hn⟩ : ∃ n, n = (fallR mach (m.rs.take k)).length := ⟨_, rfl⟩
      obtain ⟨xs, hxs⟩ : ∃ xs, xs = flatR (fallR mach (m.rs.take k)) := ⟨_, rfl⟩
      have hnk : n ≤ 1048576 := by rw [hn]; exact Nat.le_trans (fallR_len _ _) (by rw [List.length_take]; omega)
      rw [← hn, ← hxs] at hown
      have Ho : Hid (wr.ownsRow (w1.heap.size + 1) 38 11 v n xs) := hown
      have Hn : Hid _ := hn
      have Hx : Hid _ := hxs
      clear hr hown hn hxs
      cases mach
      · cases hal : aliveB r.a
        · go_wp2_with (go_at_call 22; refine (specAlive_x r.c r.h r.v r.p r.s r.d r.g r.a r.b r.i r.u _).mono ?_; rintro e w' ⟨rfl, rfl⟩)
          refine ⟨⟨k + 1, by omega, by go_num, ⟨v, F.out.below (by repeat (first | exact Below.refl _ _ | refine bl_alloc ?_ _)), ?_⟩⟩, by simp [intOf]; omega⟩
          rw [fallR_none Hr.out (by simp [fallR, hal]), ← Hn.out, ← Hx.out]
          exact owns_below Ho.out (by repeat (first | exact Below.refl _ _ | refine bl_alloc ?_ _))
        · go_wp2_with (first | (go_at_call 22; refine (specAlive_x r.c r.h r.v r.p r.s r.d r.g r.a r.b r.i r.u _).mono ?_; rintro e w' ⟨rfl, rfl⟩) | (at_builtin; refine wpList_append_own _ rfl _ _ 24 rfl (w1.heap.size + 1) 38 i0 _ 11 104 Try.underlying24 hi hz0 hz1 hz2 rfl (by decide) v n _ (by first | rfl | simp [Act.eval]) (by exact owns_below Ho.out (by repeat (first | exact Below.refl _ _ | refine bl_alloc ?_ _))) ⟨_, 0, none⟩ 1 1 r.cells rfl rfl (new_cells _ _ (by simp) _ _ _ rfl) (cellsR_one _) (by unfold maxLen; omega) (by omega) (by have := F.out.l; simp; omega) ?_; intro v' w2 ho2 hg2 hn2; obtain ⟨a9, p9, hs9⟩ := owns_shape ho2; subst hs9; have F2 : Hid (Fs w #[.string m.nm, .bool m.up, .int .i64 m.ck, .bool m.kn, .int .i64 m.se, .slice x1 m.ws.length n1, .slice (some ⟨b2, 0, none⟩) m.rs.length n2, .slice x3 m.qs.length n3, .slice x4 m.gs.length n4] m w1.heap.size v w2) := Fs.off (P := fun j => v.ownBlock = some j) (F.out.below (by repeat (first | exact Below.refl _ _ | refine bl_alloc ?_ _))) (Off.of_grown hg2 (fun j hj => hj)) (fun j hj => owns_ge Ho.out j hj); have kb2 := F2.out.b; have kc2 := F2.out.c; have kl2 := F2.out.l))
          refine ⟨⟨k + 1, by omega, by go_num, ⟨_, F2.out.set, ?_⟩⟩, by simp [intOf]; omega⟩
          rw [fallR_step Hr.out, show fallR _ [r] = [r] from (by simp [fallR, hal]), List.length_append, flatR_append, ← Hn.out, ← Hx.out]
          refine owns_ex ?_ ((Ex.refl _ _).set 6 _) (Nat.lt_succ_self _)
          simpa [flatR] using ho2
      · cases hal : aliveB r.a
        · go_wp2_with (go_at_call 22; refine (specAlive_x r.c r.h r.v r.p r.s r.d r.g r.a r.b r.i r.u _).mono ?_; rintro e w' ⟨rfl, rfl⟩)
          refine ⟨⟨k + 1, by omega, by go_num, ⟨v, F.out.below (by repeat (first | exact Below.refl _ _ | refine bl_alloc ?_ _)), ?_⟩⟩, by simp [intOf]; omega⟩
          rw [fallR_none Hr.out (by simp [fallR, hal]), ← Hn.out, ← Hx.out]
          exact owns_below Ho.out (by repeat (first | exact Below.refl _ _ | refine bl_alloc ?_ _))
        · cases hh : r.h.toList.isEmpty
          · go_wp2_with (first | (go_at_call 22; refine (specAlive_x r.c r.h r.v r.p r.s r.d r.g r.a r.b r.i r.u _).mono ?_; rintro e w' ⟨rfl, rfl⟩) | (at_builtin; refine wpList_append_own _ rfl _ _ 24 rfl (w1.heap.size + 1) 38 i0 _ 11 104 Try.underlying24 hi hz0 hz1 hz2 rfl (by decide) v n _ (by first | rfl | simp [Act.eval]) (by exact owns_below Ho.out (by repeat (first | exact Below.refl _ _ | refine bl_alloc ?_ _))) ⟨_, 0, none⟩ 1 1 ({ r with a := 2, b := 0 } : RunD).cells rfl rfl (new_cells _ _ (by simp) _ _ _ rfl) (cellsR_one _) (by unfold maxLen; omega) (by omega) (by have := F.out.l; simp; omega) ?_; intro v' w2 ho2 hg2 hn2; obtain ⟨a9, p9, hs9⟩ := owns_shape ho2; subst hs9; have F2 : Hid (Fs w #[.string m.nm, .bool m.up, .int .i64 m.ck, .bool m.kn, .int .i64 m.se, .slice x1 m.ws.length n1, .slice (some ⟨b2, 0, none⟩) m.rs.length n2, .slice x3 m.qs.length n3, .slice x4 m.gs.length n4] m w1.heap.size v w2) := Fs.off (P := fun j => v.ownBlock = some j) (F.out.below (by repeat (first | exact Below.refl _ _ | refine bl_alloc ?_ _))) (Off.of_grown hg2 (fun j hj => hj)) (fun j hj => owns_ge Ho.out j hj); have kb2 := F2.out.b; have kc2 := F2.out.c; have kl2 := F2.out.l))
            refine ⟨⟨k + 1, by omega, by go_num, ⟨_, F2.out.set, ?_⟩⟩, by simp [intOf]; omega⟩
            rw [fallR_step Hr.out, show fallR _ [r] = [({ r with a := 2, b := 0 } : RunD)] from (by simp [fallR, killD, hal, hh]), List.length_append, flatR_append, ← Hn.out, ← Hx.out]
            refine owns_ex ?_ ((Ex.refl _ _).set 6 _) (Nat.lt_succ_self _)
            simpa [flatR] using ho2
          · go_wp2_with (go_at_call 22; refine (specAlive_x r.c r.h r.v r.p r.s r.d r.g r.a r.b r.i r.u _).mono ?_; rintro e w' ⟨rfl, rfl⟩)
            refine ⟨⟨k + 1, by omega, by go_num, ⟨v, F.out.below (by repeat (first | exact Below.refl _ _ | refine bl_alloc ?_ _)), ?_⟩⟩, by simp [intOf]; omega⟩
            rw [fallR_none Hr.out (by simp [fallR, hal, hh]), ← Hn.out, ← Hx.out]
            exact owns_below Ho.out (by repeat (first | exact Below.refl _ _ | refine bl_alloc ?_ _))
    · have hk' : k = m.rs.length := by omega
      subst hk'
      rw [List.take_of_length_le (Nat.le_refl _)] at hown
      have hsl : Sl wr v (fallR mach m.rs) (w1.heap.size + 1) := Sl.of_owns hown
      obtain ⟨l2, hl2⟩ : ∃ l, l = fallR mach m.rs := ⟨_, rfl⟩
      have Hl2 : Hid _ := hl2
      have l2k : l2.length ≤ 1048576 := by rw [hl2]; exact Nat.le_trans (fallR_len _ _) hk2
      rw [← hl2] at hsl
      obtain ⟨a2, p2, hs2⟩ := Sl.shape hsl
      subst hs2
      have Hs : Hid (Sl wr (.slice a2 l2.length p2) l2 (w1.heap.size + 1)) := hsl
      clear hsl hown hl2
      go_wp2_with fail
      refine (l4Copy_src ⟨m.nm, false, m.ck, false, 0, [], l2, [], []⟩ none a2 none none 0 p2 0 0 _ (Or.inl ⟨rfl, rfl, rfl⟩) Hs.out.src (Or.inl ⟨rfl, rfl, rfl⟩) (Or.inl ⟨rfl, rfl, rfl⟩) ⟨Nat.zero_le _, l2k, Nat.zero_le _, Nat.zero_le _⟩).mono ?_
      rintro e w5 ⟨⟨s1, s2, s3, s4, rfl, R⟩, c⟩
      have S5 : Hid (Sc w #[.string m.nm, .bool m.up, .int .i64 m.ck, .bool m.kn, .int .i64 m.se, .slice x1 m.ws.length n1, .slice x2 m.rs.length n2, .slice x3 m.qs.length n3, .slice x4 m.gs.length n4] w5) := F.out.s.below c
      obtain ⟨a1, p1, hs1⟩ : ∃ a c, s1 = .slice a 0 c := W.Sl.shape R.a1
      obtain ⟨a6, p6, hs2⟩ : ∃ a c, s2 = .slice a l2.length c := Sl.shape R.a2
      obtain ⟨a3, p3, hs3⟩ : ∃ a c, s3 = .slice a 0 c := A.Sl.shape R.a3
      obtain ⟨a4, p4, hs4⟩ : ∃ a c, s4 = .slice a 0 c := A.Sl.shape R.a4
      subst hs1 hs2 hs3 hs4
      have R5 : Hid (SlM w5 ⟨m.nm, false, m.ck, false, 0, [], l2, [], []⟩ (.slice a1 0 p1) (.slice a6 l2.length p6) (.slice a3 0 p3) (.slice a4 0 p4) wr.heap.size) := R
      have zb1 : w.heap.size + 1 < wr.heap.size := by omega
      have hB5 := c.size
      clear R c ka kf kb kc kl kw
      have ka := S5.out.b
      have kf := S5.out.c
      go_wp2_with (refine wpList_store_mid (by rfl) 27 _ _ (by rfl) (w.heap.size + 1) 0 #[.string m.nm, .bool false, .int .i64 m.ck, .bool false, .int .i64 0, .slice a1 0 p1, .slice a6 l2.length p6, .slice a3 0 p3, .slice a4 0 p4] (by rfl) (by rfl) (by exact S5.out.d) hinfo (by exact all_oneCell_toArray (fell_four m a1 a6 a3 a4 l2.length p1 p6 p3 p4)) ?_)
      have hl2 := Hl2.out
      subst hl2
      have hrg := World.rangeAt_setCells_same w5 (w.heap.size + 1) 0 [.string m.nm, .bool false, .int .i64 m.ck, .bool false, .int .i64 0, .slice a1 0 p1, .slice a6 (fallR mach m.rs).length p6, .slice a3 0 p3, .slice a4 0 p4] S5.out.d
      have d0 := hrg 0 _ rfl
      have d1 := hrg 1 _ rfl
      have d2 := hrg 2 _ rfl
      have d3 := hrg 3 _ rfl
      have d4 := hrg 4 _ rfl
      have d5 := hrg 5 _ rfl
      have d6 := hrg 6 _ rfl
      have d7 := hrg 7 _ rfl
      have d8 := hrg 8 _ rfl
      simp only [Nat.zero_add] at d0 d1 d2 d3 d4 d5 d6 d7 d8
      exact bodyPost_ret (v := .agg #[.string m.nm, .bool false, .int .i64 m.ck, .bool false, .int .i64 0, .slice a1 0 p1, .slice a6 (fallR mach m.rs).length p6, .slice a3 0 p3, .slice a4 0 p4]) (by simp [results, Try.results18, go_sem, d0, d1, d2, d3, d4, d5, d6, d7, d8]) rfl ⟨⟨fellD mach m, _, _, _, _, rfl, Or.inl ⟨hv.out, rfl⟩, (R5.out.ex ((Ex.refl _ _).cells _ _) zb1).low (by omega)⟩, S5.out.put _⟩
end Go.Proofs.Ytkebokkckmgloaa
/- What a drawn mate may be. -/
namespace Go.Proofs.Ytkebokkckmgloaa
open Go.RowKit
set_option linter.unusedVariables false

/-- What a drawn mate's parts may be. -/
structure Drawn (m : MateD) : Prop where
  n : m.nm.size ≤ maxLen
  c0 : 0 ≤ m.ck
  c1 : m.ck ≤ 1000
  w1 : m.ws.length ≤ 4
  w2 : ∀ x ∈ m.ws, x.fits
  r1 : m.rs.length ≤ 4
  r2 : ∀ x ∈ m.rs, Small x
  q1 : m.qs.length ≤ 3
  q2 : ∀ x ∈ m.qs, x.fits
  g1 : m.gs.length ≤ 3
  g2 : ∀ x ∈ m.gs, x.fits
theorem Small.fits {r : RunD} (h : Small r) : r.fits := ⟨h.1, h.2.1, by have := h.2.2.1.2; omega, by have := h.2.2.2.1.1; omega⟩
theorem Drawn.fits {m : MateD} (h : Drawn m) : m.fits := ⟨h.n, h.w2, fun x hx => (h.r2 x hx).fits, h.q2, h.g2, by have := h.w1; omega, by have := h.r1; omega, by have := h.q1; omega, by have := h.g1; omega⟩
theorem drawn_fell {mach : Bool} {m r : MateD} (h : Drawn m) (hf : Falls mach m r) : Drawn r := by
  rcases hf with ⟨-, rfl⟩ | ⟨-, rfl⟩
  · refine ⟨h.n, h.c0, h.c1, Nat.zero_le _, (fun x hx => by cases hx), Nat.le_trans (fallR_len _ _) h.r1, ?_, Nat.zero_le _, (fun x hx => by cases hx), Nat.zero_le _, (fun x hx => by cases hx)⟩
    intro x hx
    have hx : x ∈ fallR mach m.rs := hx
    unfold fallR at hx
    split at hx
    · obtain ⟨y, hy, rfl⟩ := List.mem_map.1 hx
      have := h.r2 y (List.mem_filter.1 (List.mem_filter.1 hy).1).1
      exact ⟨this.1, this.2.1, ⟨Int.le_refl _, by show (0 : Int) ≤ 1000; omega⟩, this.2.2.2.1, this.2.2.2.2⟩
    · exact h.r2 x (List.mem_filter.1 hx).1
  · exact ⟨Nat.zero_le _, Int.le_refl _, by show (0 : Int) ≤ 1000; omega, Nat.zero_le _, (fun x hx => by cases hx), Nat.zero_le _, (fun x hx => by cases hx), Nat.zero_le _, (fun x hx => by cases hx), Nat.zero_le _, (fun x hx => by cases hx)⟩
theorem there_sub {x : World} {b n o l : Nat} (h : x.there b 0 n) (hl : o + l ≤ n) : x.there b o l := fun j hj => by
  have h1 := h (o + j) (by omega)
  rwa [Nat.zero_add] at h1
theorem there4a (y : World) (t : TypeId) : (y.alloc (.cells #[.string { data := #[] }, .string { data := #[] }, .int .i64 0, .int .i64 0] t)).there y.heap.size 0 4 :=
  fun j hj => ⟨by simp [go_sem]; omega, by simp [go_sem]⟩
theorem ne_lt {v : Value} {a u : Nat} (h : ∀ j, v.ownBlock = some j → j < a) (hu : a ≤ u) : v.ownBlock ≠ some u := fun e => by have := h u e; omega
theorem cell_at {x : World} {b n : Nat} (h : x.there b 0 n) (j : Nat) (hj : j < n) : (∃ v, x.cell? ⟨b, j, none⟩ = some v) ∧ x.frozen? ⟨b, j, none⟩ = false := by
  have h1 := h j hj
  rw [Nat.zero_add] at h1
  exact ⟨Option.isSome_iff_exists.1 h1.1, h1.2⟩
theorem bl_dnF {k : Nat} {w w' : World} (h : Below k w w') {n : Nat} : Below k w (w'.drewN n) := ⟨h.os, h.tape, h.output, h.size, h.block⟩
theorem ask_set {y : World} {u i : Nat} {vs : List Value} {v : Value} (h : y.rangeAt u 0 vs) (ht : y.there u 0 4) (hl : vs.length = 4) (hi : i < 4) : (y.setCell ⟨u, i, none⟩ v).rangeAt u 0 (vs.set i v) := by
  obtain ⟨⟨x1, k1⟩, -⟩ := cell_at ht i hi
  intro a w hw
  rw [Nat.zero_add]
  by_cases e : a = i
  · subst e
    rw [List.getElem?_set_self (by omega)] at hw
    cases hw
    exact World.cell?_setCell_same _ _ _ k1
  · rw [List.getElem?_set_ne (fun e' => e e'.symm)] at hw
    rw [World.cell?_setCell_other _ _ _ _ (fun e' => e (by have := congrArg Addr.off e'; exact this.symm))]
    have := h a w hw
    rwa [Nat.zero_add] at this
theorem ask_set1 {y : World} {u : Nat} {h c d : ByteArray} {f t : Int} (h1 : y.rangeAt u 0 [.string h, .string c, .int .i64 f, .int .i64 t]) (ht : y.there u 0 4) : (y.setCell ⟨u, 1, none⟩ (.string d)).rangeAt u 0 [.string h, .string d, .int .i64 f, .int .i64 t] := by
  obtain ⟨⟨x1, k1⟩, -⟩ := cell_at ht 1 (by omega)
  intro a v hv
  rw [Nat.zero_add]
  have g0 : ∀ b, b ≠ 1 → (y.setCell ⟨u, 1, none⟩ (.string d)).cell? ⟨u, b, none⟩ = y.cell? ⟨u, b, none⟩ := fun b hb => World.cell?_setCell_other _ _ _ _ (fun e => hb (by have := congrArg Addr.off e; exact this.symm))
  have g1 : ∀ b w, [Value.string h, .string c, .int .i64 f, .int .i64 t][b]? = some w → y.cell? ⟨u, b, none⟩ = some w := fun b w hw => by have := h1 b w hw; rwa [Nat.zero_add] at this
  rcases a with _ | _ | _ | _ | a
  · rw [g0 0 (by omega)]; exact g1 0 v hv
  · cases hv; exact World.cell?_setCell_same _ _ _ k1
  · rw [g0 2 (by omega)]; exact g1 2 v hv
  · rw [g0 3 (by omega)]; exact g1 3 v hv
  · simp at hv
theorem fitsA_snoc {rs : List A.AskD} {r : A.AskD} (h : ∀ x ∈ rs, x.fits) (hr : r.fits) : ∀ x ∈ rs ++ [r], x.fits := by
  intro x hx
  rcases List.mem_append.1 hx with h1 | h1
  · exact h x h1
  · rw [List.mem_singleton.1 h1]; exact hr
theorem own_cap {y : World} {x : Option Addr} {n B : Nat} {l : List W.WantD} (h : W.Ow y (.slice x l.length n) l B) : l.length ≤ n := by
  rcases h.2 with ⟨h1, h2⟩ | ⟨g, cap, cur, h1, -, -, h4, -⟩
  · simp only [Value.slice.injEq] at h1; omega
  · simp only [Value.slice.injEq] at h1; obtain ⟨-, -, rfl⟩ := h1; exact h4
theorem there9 (w : World) (t : TypeId) : (w.alloc (.cells #[.string { data := #[] }, .bool false, .int .i64 0, .bool false, .int .i64 0, .slice none 0 0, .slice none 0 0, .slice none 0 0, .slice none 0 0] t)).there w.heap.size 0 9 :=
  fun j hj => ⟨by simp [go_sem]; omega, by simp [go_sem]⟩
theorem ownNils (w : World) (m : MateD) (B : Nat) (h1 : m.ws = []) (h2 : m.rs = []) (h3 : m.qs = []) (h4 : m.gs = []) : OwM w m (.slice none 0 0) (.slice none 0 0) (.slice none 0 0) (.slice none 0 0) B :=
  ⟨by rw [h1]; exact W.Ow.nil _ _, by rw [h2]; exact Ow.nil _ _, by rw [h3]; exact A.Ow.nil _ _, by rw [h4]; exact A.Ow.nil _ _, Or.inl rfl, Or.inl rfl, Or.inl rfl, Or.inl rfl, Or.inl rfl, Or.inl rfl⟩
theorem dm_new {w w2 : World} {kr : Nat} {q p60 : Int} {up : Bool} (hd : w2.there w.heap.size 0 9) (hr : Rq w2 kr q) (he : Ex kr w w2) (hz : w.heap.size < w2.heap.size) (hk : kr < w.heap.size) :
    Dm w kr w2.heap.size ⟨{ data := #[97] }, up, p60, false, 0, [], [], [], []⟩ (.slice none 0 0) (.slice none 0 0) (.slice none 0 0) (.slice none 0 0) q (w2.alloc (.cells #[.string { data := #[97] }, .bool up, .int .i64 p60, .bool false, .int .i64 0, .slice none 0 0, .slice none 0 0, .slice none 0 0, .slice none 0 0] 27)) :=
  ⟨fun k => by simp [go_sem], fun k => by simp [go_sem], there_keep2 hd hz (bl_alloc (Below.refl _ _) _), ownNils _ _ _ rfl rfl rfl rfl, hr.below (bl_alloc (Below.refl _ _) _), he.then_below (bl_alloc (Below.refl _ _) _), by simp, hz, hk⟩

end Go.Proofs.Ytkebokkckmgloaa
