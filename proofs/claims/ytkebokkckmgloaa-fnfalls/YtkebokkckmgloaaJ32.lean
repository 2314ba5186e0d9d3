import Derived.Test.YtkebokkckmgloaaJ31
import Derived.Test.YtkebokkckmgloaaJ19
/- MateFall: the specification's side. -/
namespace Go.Proofs.Ytkebokkckmgloaa
open Go.RowKit
set_option linter.unusedVariables false

theorem Sc.off {P : Nat → Prop} {w x y : World} {O : Array Value} (h : Sc w O x) (ho : Off P x y) (hP : ∀ j, P j → w.heap.size + 1 < j) : Sc w O y := by
  have hf := h.f
  have h0 : ¬ P w.heap.size := fun hp => by have := hP _ hp; omega
  have h1 : ¬ P (w.heap.size + 1) := fun hp => by have := hP _ hp; omega
  have hb0 := ho.block w.heap.size (by omega) h0
  have hb1 := ho.block (w.heap.size + 1) hf h1
  refine ⟨fun k => (World.cell?_of_block (w := x) (a := ⟨w.heap.size, k, none⟩) hb0).trans (h.b k), fun k => (World.frozen?_of_block (w := x) (a := ⟨w.heap.size, k, none⟩) hb0).trans (h.c k), fun j hj => ⟨by rw [World.cell?_of_block (w := x) (a := ⟨w.heap.size + 1, 0 + j, none⟩) hb1]; exact (h.d j hj).1, by rw [World.frozen?_of_block (w := x) (a := ⟨w.heap.size + 1, 0 + j, none⟩) hb1]; exact (h.d j hj).2⟩, h.e.trans (ho.below (fun j hj => by have := hP j hj; omega) h.e.size), Nat.lt_of_lt_of_le hf ho.size⟩
/-- While the runs are gone through: the mate that is built lies in block bx. -/
structure Fs (w : World) (O : Array Value) (m : MateD) (bx : Nat) (v : Value) (x : World) : Prop where
  s : Sc w O x
  b : ∀ k, x.cell? ⟨bx, k, none⟩ = (#[.string m.nm, .bool false, .int .i64 m.ck, .bool false, .int .i64 0, .slice none 0 0, v, .slice none 0 0, .slice none 0 0] : Array Value)[k]?
  c : ∀ k, x.frozen? ⟨bx, k, none⟩ = false
  l : bx < x.heap.size
  lw : w.heap.size + 1 < bx
theorem Fs.off {P : Nat → Prop} {w x y : World} {O : Array Value} {m : MateD} {bx : Nat} {v : Value} (h : Fs w O m bx v x) (ho : Off P x y) (hP : ∀ j, P j → bx < j) : Fs w O m bx v y := by
  have hlw := h.lw
  have hb := ho.block bx h.l (fun hp => by have := hP _ hp; omega)
  exact ⟨h.s.off ho (fun j hj => by have := hP j hj; omega), fun k => (World.cell?_of_block (w := x) (a := ⟨bx, k, none⟩) hb).trans (h.b k), fun k => (World.frozen?_of_block (w := x) (a := ⟨bx, k, none⟩) hb).trans (h.c k), Nat.lt_of_lt_of_le h.l ho.size, hlw⟩
theorem Fs.below {w x y : World} {O : Array Value} {m : MateD} {bx : Nat} {v : Value} (h : Fs w O m bx v x) (hb : Below x.heap.size x y) : Fs w O m bx v y :=
  h.off (P := fun _ => False) (Off.of_below hb) (fun j hj => hj.elim)
theorem Fs.set {w x : World} {O : Array Value} {m : MateD} {bx : Nat} {v v' : Value} (h : Fs w O m bx v x) : Fs w O m bx v' (x.setCell ⟨bx, 6, none⟩ v') := by
  have he : Ex bx x (x.setCell ⟨bx, 6, none⟩ v') := (Ex.refl _ _).set 6 v'
  have hlw := h.lw
  have ho : Off (fun j => j = bx) x (x.setCell ⟨bx, 6, none⟩ v') := ⟨he.os, he.tape, he.output, he.size, fun i hi hn => he.block i hi hn⟩
  refine ⟨h.s.off ho (fun j hj => by subst hj; exact hlw), fun k => ?_, fun k => by rw [World.frozen?_setCell]; exact h.c k, Nat.lt_of_lt_of_le h.l he.size, hlw⟩
  by_cases e : k = 6
  · subst e
    exact World.cell?_setCell_same _ _ _ (h.b 6)
  · rw [World.cell?_setCell_other _ _ _ _ (fun h' => e (by have := congrArg Addr.off h'; exact this.symm)), h.b k]
    match k, e with
    | 0, _ => rfl
    | 1, _ => rfl
    | 2, _ => rfl
    | 3, _ => rfl
    | 4, _ => rfl
    | 5, _ => rfl
    | 7, _ => rfl
    | 8, _ => rfl
    | (n + 9), _ => rfl
theorem fs_new {w x : World} {O : Array Value} {m : MateD} (h : Sc w O x) : Fs w O m x.heap.size (.slice none 0 0) (x.alloc (.cells #[.string m.nm, .bool false, .int .i64 m.ck, .bool false, .int .i64 0, .slice none 0 0, .slice none 0 0, .slice none 0 0, .slice none 0 0] 27)) :=
  ⟨h.below (bl_alloc (Below.refl _ _) _), fun k => by simp [go_sem], fun k => by simp [go_sem], by simp, h.f⟩
theorem fell_four (m : MateD) (a1 a6 a3 a4 : Option Addr) (n p1 p6 p3 p4 : Nat) : ∀ u ∈ ([.string m.nm, .bool false, .int .i64 m.ck, .bool false, .int .i64 0, .slice a1 0 p1, .slice a6 n p6, .slice a3 0 p3, .slice a4 0 p4] : List Value), u.oneCell' = true := by
  intro u hu
  simp only [List.mem_cons, List.not_mem_nil, or_false] at hu
  rcases hu with rfl | rfl | rfl | rfl | rfl | rfl | rfl | rfl | rfl <;> rfl
theorem owns_shape {x : World} {base : Nat} {e : TypeId} {size : Nat} {v : Value} {n : Nat} {xs : List Value} (h : x.ownsRow base e size v n xs) : ∃ a p, v = .slice a n p := by
  rcases h.2 with ⟨h1, h2⟩ | ⟨g, cap, cur, h1, -⟩
  · subst h2; exact ⟨none, 0, h1⟩
  · exact ⟨_, _, h1⟩
theorem owns_ex {x y : World} {base k : Nat} {e : TypeId} {size : Nat} {v : Value} {n : Nat} {xs : List Value} (h : x.ownsRow base e size v n xs) (he : Ex k x y) (hk : k < base) : y.ownsRow base e size v n xs :=
  ⟨h.1, h.2.imp id (fun ⟨g, cap, cur, h1, h2, h3, h4⟩ => ⟨g, cap, cur, h1, h2, by
    have hg : g < x.heap.size := by
      rcases Nat.lt_or_ge g x.heap.size with h' | h'
      · exact h'
      · rw [Array.getElem?_eq_none h'] at h3; cases h3
    rw [he.block g hg (by omega)]; exact h3, h4⟩)⟩
theorem fallR_step {mach : Bool} {rs : List RunD} {k : Nat} {r : RunD} (hr : rs[k]? = some r) : fallR mach (rs.take (k + 1)) = fallR mach (rs.take k) ++ fallR mach [r] := by
  have hlt : k < rs.length := (List.getElem?_eq_some_iff.1 hr).1
  have he : rs[k] = r := by rw [List.getElem?_eq_getElem hlt] at hr; exact Option.some.inj hr
  rw [List.take_succ_eq_append_getElem hlt, he]
  unfold fallR
  split <;> simp only [List.filter_append, List.map_append]
theorem fallR_none {mach : Bool} {rs : List RunD} {k : Nat} {r : RunD} (hr : rs[k]? = some r) (h : fallR mach [r] = []) : fallR mach (rs.take (k + 1)) = fallR mach (rs.take k) := by rw [fallR_step hr, h, List.append_nil]

set_option maxRecDepth 4000 in
set_option maxHeartbeats 4000000 in
theorem specFall (mach : Bool) (m : MateD) (b1 b2 b3 b4 : Nat) (w : World) (hL : Lists w m b1 b2 b3 b4) (hf : m.fits) :
    Calls Try.prog 18 #[.agg #[.string m.nm, .bool m.up, .int .i64 m.ck, .bool m.kn, .int .i64 m.se, .slice (some ⟨b1, 0, none⟩) m.ws.length m.ws.length, .slice (some ⟨b2, 0, none⟩) m.rs.length m.rs.length, .slice (some ⟨b3, 0, none⟩) m.qs.length m.qs.length, .slice (some ⟨b4, 0, none⟩) m.gs.length m.gs.length], .bool mach] w fun e w' => (∃ r s1 s2 s3 s4, e = .returned (.agg #[.string r.nm, .bool r.up, .int .i64 r.ck, .bool r.kn, .int .i64 r.se, s1, s2, s3, s4]) ∧ Falls mach m r ∧ SlM w' r s1 s2 s3 s4 w.heap.size) ∧ Below w.heap.size w w' := by
  have S0 : Hid (Sc w #[.string m.nm, .bool m.up, .int .i64 m.ck, .bool m.kn, .int .i64 m.se, .slice (some ⟨b1, 0, none⟩) m.ws.length m.ws.length, .slice (some ⟨b2, 0, none⟩) m.rs.length m.rs.length, .slice (some ⟨b3, 0, none⟩) m.qs.length m.qs.length, .slice (some ⟨b4, 0, none⟩) m.gs.length m.gs.length] ((w.alloc (.cells #[.string m.nm, .bool m.up, .int .i64 m.ck, .bool m.kn, .int .i64 m.se, .slice (some ⟨b1, 0, none⟩) m.ws.length m.ws.length, .slice (some ⟨b2, 0, none⟩) m.rs.length m.rs.length, .slice (some ⟨b3, 0, none⟩) m.qs.length m.qs.length, .slice (some ⟨b4, 0, none⟩) m.gs.length m.gs.length] 27)).alloc (.cells #[.string { data := #[] }, .bool false, .int .i64 0, .bool false, .int .i64 0, .slice none 0 0, .slice none 0 0, .slice none 0 0, .slice none 0 0] 27))) := sc_new m b1 b2 b3 b4 w
  have hinfo : (Try.prog.info? 27).map (·.size) = some 9 := by kernel_rfl
  obtain ⟨i0, hi, hz0, hz1, hz2⟩ := info_parts infoR
  go_enter Try.func18, Try.ntmps18
  go_wp2_with fail
  refine (specValid m b1 b2 b3 b4 _ (hL.keep S0.out.e) hf).mono ?_
  rintro e w1 ⟨⟨q, rfl, hq⟩, c1⟩
  have S1 : Hid (Sc w #[.string m.nm, .bool m.up, .int .i64 m.ck, .bool m.kn, .int .i64 m.se, .slice (some ⟨b1, 0, none⟩) m.ws.length m.ws.length, .slice (some ⟨b2, 0, none⟩) m.rs.length m.rs.length, .slice (some ⟨b3, 0, none⟩) m.qs.length m.qs.length, .slice (some ⟨b4, 0, none⟩) m.gs.length m.gs.length] w1) := S0.out.below c1
  have Hq : Hid (SaysV q m) := hq
  clear hq c1
  have ka := S1.out.b
  have kf := S1.out.c
  cases q
  · go_wp2_with (refine wpList_store_mid (by rfl) 27 _ _ (by rfl) (w.heap.size + 1) 0 #[.string { data := #[] }, .bool false, .int .i64 0, .bool false, .int .i64 0, .slice none 0 0, .slice none 0 0, .slice none 0 0, .slice none 0 0] (by rfl) (by rfl) (by exact S1.out.d) hinfo (by exact all_oneCell_toArray zeros_one) ?_)
    have hrg := World.rangeAt_setCells_same w1 (w.heap.size + 1) 0 [.string { data := #[] }, .bool false, .int .i64 0, .bool false, .int .i64 0, .slice none 0 0, .slice none 0 0, .slice none 0 0, .slice none 0 0] S1.out.d
    have d0 := hrg 0 _ rfl
    have d1 := hrg 1 _ rfl
    have d2 := hrg 2 _ rfl
    have d3 := hrg 3 _ rfl
    have d4 := hrg 4 _ rfl
    have d5 := hrg 5 _ rfl
    have d6 := hrg 6 _ rfl
    have d7 := hrg 7 _ rfl
    have d8 := hrg 8 _ rfl
    simp only [Nat.zero_add] at d0 d1 d2 d3 d4 d5 d6 d7 d8
    exact bodyPost_ret (v := .agg #[.string { data := #[] }, .bool false, .int .i64 0, .bool false, .int .i64 0, .slice none 0 0, .slice none 0 0, .slice none 0 0, .slice none 0 0]) (by simp [results, Try.results18, go_sem, d0, d1, d2, d3, d4, d5, d6, d7, d8]) rfl ⟨⟨zeroD, _, _, _, _, rfl, Or.inr ⟨saysV_false Hq.out, rfl⟩, slm_zero _ _⟩, S1.out.put _⟩
  have hv : Hid (Valid m) := Hq.out.1 rfl
  have F0 : Hid (Fs w #[.string m.nm, .bool m.up, .int .i64 m.ck, .bool m.kn, .int .i64 m.se, .slice (some ⟨b1, 0, none⟩) m.ws.length m.ws.length, .slice (some ⟨b2, 0, none⟩) m.rs.length m.rs.length, .slice (some ⟨b3, 0, none⟩) m.qs.length m.qs.length, .slice (some ⟨b4, 0, none⟩) m.gs.length m.gs.length] m w1.heap.size (.slice none 0 0) (w1.alloc (.cells #[.string m.nm, .bool false, .int .i64 m.ck, .bool false, .int .i64 0, .slice none 0 0, .slice none 0 0, .slice none 0 0, .slice none 0 0] 27))) := fs_new S1.out
  have HL : Hid _ := hL
  have hk2 := hf.k2
  clear hL
  go_wp2_with fail
  clear ka kf
  go_loopw [6] (fun i wx => ∃ (k : Nat), k ≤ m.rs.length ∧ i = .int .i64 k ∧ ∃ v, Fs w #[.string m.nm, .bool m.up, .int .i64 m.ck, .bool m.kn, .int .i64 m.se, .slice (some ⟨b1, 0, none⟩) m.ws.length m.ws.length, .slice (some ⟨b2, 0, none⟩) m.rs.length m.rs.length, .slice (some ⟨b3, 0, none⟩) m.qs.length m.qs.length, .slice (some ⟨b4, 0, none⟩) m.gs.length m.gs.length] m w1.heap.size v wx ∧ wx.ownsRow (w1.heap.size + 1) 38 11 v (fallR mach (m.rs.take k)).length (flatR (fallR mach (m.rs.take k)))) (fun i _ => m.rs.length - (intOf i).toNat)
  case atStart => exact ⟨0, Nat.zero_le _, rfl, _, F0.out, by cases mach <;> exact World.ownsRow_nil _ _ _ _⟩
  case round =>
    obtain ⟨k, hk, rfl, v, hF, hown⟩ := hrel
    have F : Hid (Fs w #[.string m.nm, .bool m.up, .int .i64 m.ck, .bool m.kn, .int .i64 m.se, .slice (some ⟨b1, 0, none⟩) m.ws.length m.ws.length, .slice (some ⟨b2, 0, none⟩) m.rs.length m.rs.length, .slice (some ⟨b3, 0, none⟩) m.qs.length m.qs.length, .slice (some ⟨b4, 0, none⟩) m.gs.length m.gs.length] m w1.heap.size v wr) := hF
    have ka := hF.s.b
    have kf := hF.s.c
    have kb := hF.b
    have kc := hF.c
    have kl := hF.l
    have kw := hF.lw
    have km : w.heap.size < wr.heap.size := by omega
    clear hF
    by_cases hlt : k < m.rs.length
    · obtain ⟨r, hr⟩ : ∃ r, m.rs[k]? = some r := ⟨m.rs[k], List.getElem?_eq_getElem hlt⟩
      have Hr : Hid _ := hr
      obtain ⟨c0, c1, c2, c3, c4, c5, c6, c7, c8, c9, c10⟩ := (HL.out.keep F.out.s.e).r2.at hr
      simp only [Nat.zero_add] at c0 c1 c2 c3 c4 c5 c6 c7 c8 c9 c10
      have hb2 : b2 < wr.heap.size := (HL.out.keep F.out.s.e).l2
      obtain ⟨n, hn⟩ : ∃ n, n = (fallR mach (m.rs.take k)).length := ⟨_, rfl⟩
      obtain ⟨xs, hxs⟩ : ∃ xs, xs = flatR (fallR mach (m.rs.take k)) := ⟨_, rfl⟩
      have hnk : n ≤ 1048576 := by rw [hn]; exact Nat.le_trans (fallR_len _ _) (by rw [List.length_take]; omega)
      rw [← hn, ← hxs] at hown
      have Ho : Hid (wr.ownsRow (w1.heap.size + 1) 38 11 v n xs) := hown
      have Hn : Hid _ := hn
      have Hx : Hid _ := hxs
      clear hr hown hn hxs
      cases mach
      · cases hal : aliveB r.a
        · go_wp2_with (go_at_call 22; refine (specAlive_x r.c r.h r.v r.p r.s r.d r.g r.a r.b r.i r.u _).mono ?_; rintro e w' ⟨rfl, rfl⟩)
          refine ⟨⟨k + 1, by omega, by go_num, ⟨v, F.out.below (by repeat (first | exact Below.refl _ _ | refine bl_alloc ?_ _)), ?_⟩⟩, by simp [intOf]; omega⟩
          rw [fallR_none Hr.out (by simp [fallR, hal]), ← Hn.out, ← Hx.out]
          exact owns_below Ho.out (by repeat (first | exact Below.refl _ _ | refine bl_alloc ?_ _))
        · go_wp2_with (first | (go_at_call 22; refine (specAlive_x r.c r.h r.v r.p r.s r.d r.g r.a r.b r.i r.u _).mono ?_; rintro e w' ⟨rfl, rfl⟩) | (at_builtin; refine wpList_append_own _ rfl _ _ 24 rfl (w1.heap.size + 1) 38 i0 _ 11 104 Try.underlying24 hi hz0 hz1 hz2 rfl (by decide) v n _ (by first | rfl | simp [Act.eval]) (by exact owns_below Ho.out (by repeat (first | exact Below.refl _ _ | refine bl_alloc ?_ _))) ⟨_, 0, none⟩ 1 1 r.cells rfl rfl (new_cells _ _ (by simp) _ _ _ rfl) (cellsR_one _) (by unfold maxLen; omega) (by omega) (by have := F.out.l; simp; omega) ?_; intro v' w2 ho2 hg2 hn2; obtain ⟨a9, p9, hs9⟩ := owns_shape ho2; subst hs9; have F2 : Hid (Fs w #[.string m.nm, .bool m.up, .int .i64 m.ck, .bool m.kn, .int .i64 m.se, .slice (some ⟨b1, 0, none⟩) m.ws.length m.ws.length, .slice (some ⟨b2, 0, none⟩) m.rs.length m.rs.length, .slice (some ⟨b3, 0, none⟩) m.qs.length m.qs.length, .slice (some ⟨b4, 0, none⟩) m.gs.length m.gs.length] m w1.heap.size v w2) := Fs.off (P := fun j => v.ownBlock = some j) (F.out.below (by repeat (first | exact Below.refl _ _ | refine bl_alloc ?_ _))) (Off.of_grown hg2 (fun j hj => hj)) (fun j hj => owns_ge Ho.out j hj); have kb2 := F2.out.b; have kc2 := F2.out.c; have kl2 := F2.out.l))
          refine ⟨⟨k + 1, by omega, by go_num, ⟨_, F2.out.set, ?_⟩⟩, by simp [intOf]; omega⟩
          rw [fallR_step Hr.out, show fallR _ [r] = [r] from (by simp [fallR, hal]), List.length_append, flatR_append, ← Hn.out, ← Hx.out]
          refine owns_ex ?_ ((Ex.refl _ _).set 6 _) (Nat.lt_succ_self _)
          simpa [flatR] using ho2
      · cases hal : aliveB r.a
        · go_wp2_with (go_at_call 22; refine (specAlive_x r.c r.h r.v r.p r.s r.d r.g r.a r.b r.i r.u _).mono ?_; rintro e w' ⟨rfl, rfl⟩)
          refine ⟨⟨k + 1, by omega, by go_num, ⟨v, F.out.below (by repeat (first | exact Below.refl _ _ | refine bl_alloc ?_ _)), ?_⟩⟩, by simp [intOf]; omega⟩
          rw [fallR_none Hr.out (by simp [fallR, hal]), ← Hn.out, ← Hx.out]
          exact owns_below Ho.out (by repeat (first | exact Below.refl _ _ | refine bl_alloc ?_ _))
        · cases hh : r.h.toList.isEmpty
          · go_wp2_with (first | (go_at_call 22; refine (specAlive_x r.c r.h r.v r.p r.s r.d r.g r.a r.b r.i r.u _).mono ?_; rintro e w' ⟨rfl, rfl⟩) | (at_builtin; refine wpList_append_own _ rfl _ _ 24 rfl (w1.heap.size + 1) 38 i0 _ 11 104 Try.underlying24 hi hz0 hz1 hz2 rfl (by decide) v n _ (by first | rfl | simp [Act.eval]) (by exact owns_below Ho.out (by repeat (first | exact Below.refl _ _ | refine bl_alloc ?_ _))) ⟨_, 0, none⟩ 1 1 ({ r with a := 2, b := 0 } : RunD).cells rfl rfl (new_cells _ _ (by simp) _ _ _ rfl) (cellsR_one _) (by unfold maxLen; omega) (by omega) (by have := F.out.l; simp; omega) ?_; intro v' w2 ho2 hg2 hn2; obtain ⟨a9, p9, hs9⟩ := owns_shape ho2; subst hs9; have F2 : Hid (Fs w #[.string m.nm, .bool m.up, .int .i64 m.ck, .bool m.kn, .int .i64 m.se, .slice (some ⟨b1, 0, none⟩) m.ws.length m.ws.length, .slice (some ⟨b2, 0, none⟩) m.rs.length m.rs.length, .slice (some ⟨b3, 0, none⟩) m.qs.length m.qs.length, .slice (some ⟨b4, 0, none⟩) m.gs.length m.gs.length] m w1.heap.size v w2) := Fs.off (P := fun j => v.ownBlock = some j) (F.out.below (by repeat (first | exact Below.refl _ _ | refine bl_alloc ?_ _))) (Off.of_grown hg2 (fun j hj => hj)) (fun j hj => owns_ge Ho.out j hj); have kb2 := F2.out.b; have kc2 := F2.out.c; have kl2 := F2.out.l))
            refine ⟨⟨k + 1, by omega, by go_num, ⟨_, F2.out.set, ?_⟩⟩, by simp [intOf]; omega⟩
            rw [fallR_step Hr.out, show fallR _ [r] = [({ r with a := 2, b := 0 } : RunD)] from (by simp [fallR, killD, hal, hh]), List.length_append, flatR_append, ← Hn.out, ← Hx.out]
            refine owns_ex ?_ ((Ex.refl _ _).set 6 _) (Nat.lt_succ_self _)
            simpa [flatR] using ho2
          · go_wp2_with (go_at_call 22; refine (specAlive_x r.c r.h r.v r.p r.s r.d r.g r.a r.b r.i r.u _).mono ?_; rintro e w' ⟨rfl, rfl⟩)
            refine ⟨⟨k + 1, by omega, by go_num, ⟨v, F.out.below (by repeat (first | exact Below.refl _ _ | refine bl_alloc ?_ _)), ?_⟩⟩, by simp [intOf]; omega⟩
            rw [fallR_none Hr.out (by simp [fallR, hal, hh]), ← Hn.out, ← Hx.out]
            exact owns_below Ho.out (by repeat (first | exact Below.refl _ _ | refine bl_alloc ?_ _))
    · have hk' : k = m.rs.length := by omega
      subst hk'
      rw [List.take_of_length_le (Nat.le_refl _)] at hown
      have hsl : Sl wr v (fallR mach m.rs) (w1.heap.size + 1) := Sl.of_owns hown
      obtain ⟨l2, hl2⟩ : ∃ l, l = fallR mach m.rs := ⟨_, rfl⟩
      have Hl2 : Hid _ := hl2
      have l2k : l2.length ≤ 1048576 := by rw [hl2]; exact Nat.le_trans (fallR_len _ _) hk2
      rw [← hl2] at hsl
      obtain ⟨a2, p2, hs2⟩ := Sl.shape hsl
      subst hs2
      have Hs : Hid (Sl wr (.slice a2 l2.length p2) l2 (w1.heap.size + 1)) := hsl
      clear hsl hown hl2
      go_wp2_with fail
      refine (l4Copy_src ⟨m.nm, false, m.ck, false, 0, [], l2, [], []⟩ none a2 none none 0 p2 0 0 _ (Or.inl ⟨rfl, rfl, rfl⟩) Hs.out.src (Or.inl ⟨rfl, rfl, rfl⟩) (Or.inl ⟨rfl, rfl, rfl⟩) ⟨Nat.zero_le _, l2k, Nat.zero_le _, Nat.zero_le _⟩).mono ?_
      rintro e w5 ⟨⟨s1, s2, s3, s4, rfl, R⟩, c⟩
      have S5 : Hid (Sc w #[.string m.nm, .bool m.up, .int .i64 m.ck, .bool m.kn, .int .i64 m.se, .slice (some ⟨b1, 0, none⟩) m.ws.length m.ws.length, .slice (some ⟨b2, 0, none⟩) m.rs.length m.rs.length, .slice (some ⟨b3, 0, none⟩) m.qs.length m.qs.length, .slice (some ⟨b4, 0, none⟩) m.gs.length m.gs.length] w5) := F.out.s.below c
      obtain ⟨a1, p1, hs1⟩ : ∃ a c, s1 = .slice a 0 c := W.Sl.shape R.a1
      obtain ⟨a6, p6, hs2⟩ : ∃ a c, s2 = .slice a l2.length c := Sl.shape R.a2
      obtain ⟨a3, p3, hs3⟩ : ∃ a c, s3 = .slice a 0 c := A.Sl.shape R.a3
      obtain ⟨a4, p4, hs4⟩ : ∃ a c, s4 = .slice a 0 c := A.Sl.shape R.a4
      subst hs1 hs2 hs3 hs4
      have R5 : Hid (SlM w5 ⟨m.nm, false, m.ck, false, 0, [], l2, [], []⟩ (.slice a1 0 p1) (.slice a6 l2.length p6) (.slice a3 0 p3) (.slice a4 0 p4) wr.heap.size) := R
      have zb1 : w.heap.size + 1 < wr.heap.size := by omega
      have hB5 := c.size
      clear R c ka kf kb kc kl kw
      have ka := S5.out.b
      have kf := S5.out.c
      go_wp2_with (refine wpList_store_mid (by rfl) 27 _ _ (by rfl) (w.heap.size + 1) 0 #[.string m.nm, .bool false, .int .i64 m.ck, .bool false, .int .i64 0, .slice a1 0 p1, .slice a6 l2.length p6, .slice a3 0 p3, .slice a4 0 p4] (by rfl) (by rfl) (by exact S5.out.d) hinfo (by exact all_oneCell_toArray (fell_four m a1 a6 a3 a4 l2.length p1 p6 p3 p4)) ?_)
      have hl2 := Hl2.out
      subst hl2
      have hrg := World.rangeAt_setCells_same w5 (w.heap.size + 1) 0 [.string m.nm, .bool false, .int .i64 m.ck, .bool false, .int .i64 0, .slice a1 0 p1, .slice a6 (fallR mach m.rs).length p6, .slice a3 0 p3, .slice a4 0 p4] S5.out.d
      have d0 := hrg 0 _ rfl
      have d1 := hrg 1 _ rfl
      have d2 := hrg 2 _ rfl
      have d3 := hrg 3 _ rfl
      have d4 := hrg 4 _ rfl
      have d5 := hrg 5 _ rfl
      have d6 := hrg 6 _ rfl
      have d7 := hrg 7 _ rfl
      have d8 := hrg 8 _ rfl
      simp only [Nat.zero_add] at d0 d1 d2 d3 d4 d5 d6 d7 d8
      exact bodyPost_ret (v := .agg #[.string m.nm, .bool false, .int .i64 m.ck, .bool false, .int .i64 0, .slice a1 0 p1, .slice a6 (fallR mach m.rs).length p6, .slice a3 0 p3, .slice a4 0 p4]) (by simp [results, Try.results18, go_sem, d0, d1, d2, d3, d4, d5, d6, d7, d8]) rfl ⟨⟨fellD mach m, _, _, _, _, rfl, Or.inl ⟨hv.out, rfl⟩, (R5.out.ex ((Ex.refl _ _).cells _ _) zb1).low (by omega)⟩, S5.out.put _⟩
end Go.Proofs.Ytkebokkckmgloaa
