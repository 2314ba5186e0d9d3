import Derived.Test.YtkebokkckmgloaaJ13
import Derived.Test.YtkebokkckmgloaaJ15
import Derived.Test.YtkebokkckmgloaaJ06
/- FnExactMateRise: the law's walk. -/
namespace Go.Proofs.Ytkebokkckmgloaa
open Go.RowKit
set_option linter.unusedVariables false

theorem lens_fall {mach : Bool} {m r : MateD} (h : Falls mach m r) (hl : Lens m) : Lens r := by
  rcases h with ⟨-, rfl⟩ | ⟨-, rfl⟩
  · exact ⟨by simp [fellD], Nat.le_trans (fallR_len mach m.rs) hl.k2, by simp [fellD], by simp [fellD]⟩
  · exact ⟨by simp [zeroD], by simp [zeroD], by simp [zeroD], by simp [zeroD]⟩

set_option maxRecDepth 4000 in
set_option maxHeartbeats 8000000 in
theorem lawFall (mach : Bool) (m : MateD) (v1 v2 v3 v4 : Value) (w : World) (i1 : W.In w v1 m.ws) (i2 : In w v2 m.rs) (i3 : A.In w v3 m.qs) (i4 : A.In w v4 m.gs) (hn : m.nm.size ≤ maxLen) :
    Calls Try.prog 11 #[.agg #[.string m.nm, .bool m.up, .int .i64 m.ck, .bool m.kn, .int .i64 m.se, v1, v2, v3, v4], .bool mach] w fun e w' => e = .returned (.bool true) ∧ Below w.heap.size w w' := by
  go_enter Try.func11, Try.ntmps11
  go_wp2_with fail
  have C0 : Hid (Below w.heap.size w (w.alloc (.cells #[.string m.nm, .bool m.up, .int .i64 m.ck, .bool m.kn, .int .i64 m.se, v1, v2, v3, v4] 70))) := bl_alloc (Below.refl _ _) _
  have A0 : Hid (Bx (w.alloc (.cells #[.string m.nm, .bool m.up, .int .i64 m.ck, .bool m.kn, .int .i64 m.se, v1, v2, v3, v4] 70)) w.heap.size #[.string m.nm, .bool m.up, .int .i64 m.ck, .bool m.kn, .int .i64 m.se, v1, v2, v3, v4]) := Bx.new _ _ _
  refine (szMate_any m v1 v2 v3 v4 _ (i1.keep C0.out) (i2.keep C0.out) (i3.keep C0.out) (i4.keep C0.out) hn).mono ?_
  rintro e w1 ⟨hx, c⟩
  have C1 : Hid (Below w.heap.size w w1) := bl_trans C0.out c
  have A1 : Hid (Bx w1 w.heap.size #[.string m.nm, .bool m.up, .int .i64 m.ck, .bool m.kn, .int .i64 m.se, v1, v2, v3, v4]) := (A0.out).keep c
  clear C0 A0
  clear c
  have ka := A1.out.c
  rcases hx with rfl | ⟨x, rfl, x0, l1, l2, l3, l4⟩
  · go_wp2
    go_ret
    exact ⟨rfl, C1.out⟩
  have hf : m.fits := ⟨hn, i1.fits, i2.fits, i3.fits, i4.fits, l1, l2, l3, l4⟩
  have Hl : Hid (Lens m) := ⟨l1, l2, l3, l4⟩
  go_wp2_with fail
  refine (toMate_sl m v1 v2 v3 v4 _ (i1.keep C1.out) (i2.keep C1.out) (i3.keep C1.out) (i4.keep C1.out) l1 l2 l3 l4).mono ?_
  rintro e w2 ⟨b1, b2, b3, b4, rfl, hL2, c⟩
  have C2 : Hid (Below w.heap.size w w2) := bl_trans C1.out c
  have A2 : Hid (Bx w2 w.heap.size #[.string m.nm, .bool m.up, .int .i64 m.ck, .bool m.kn, .int .i64 m.se, v1, v2, v3, v4]) := (A1.out).keep c
  clear C1 A1
  clear c ka
  go_wp2_with fail
  refine (specFall mach m b1 b2 b3 b4 _ (lists_of hL2) hf).mono ?_
  rintro e w3 ⟨⟨r, s1, s2, s3, s4, rfl, hr, R⟩, c⟩
  obtain ⟨a1, p1, hs1⟩ := W.Sl.shape R.a1
  subst hs1
  obtain ⟨a2, p2, hs2⟩ := Sl.shape R.a2
  subst hs2
  obtain ⟨a3, p3, hs3⟩ := A.Sl.shape R.a3
  subst hs3
  obtain ⟨a4, p4, hs4⟩ := A.Sl.shape R.a4
  subst hs4
  have Hr : Hid (Falls mach m r) := hr
  have Lr : Hid (Lens r) := lens_fall hr Hl.out
  have C3 : Hid (Below w.heap.size w w3) := bl_trans C2.out c
  have A3 : Hid (Bx w3 w.heap.size #[.string m.nm, .bool m.up, .int .i64 m.ck, .bool m.kn, .int .i64 m.se, v1, v2, v3, v4]) := (A2.out).keep c
  clear C2 A2
  have V3 : Hid (SlM w3 r (.slice a1 r.ws.length p1) (.slice a2 r.rs.length p2) (.slice a3 r.qs.length p3) (.slice a4 r.gs.length p4) w2.heap.size) := R
  have V0 : Hid (∀ j, ((Value.slice a1 r.ws.length p1).ownBlock = some j ∨ (Value.slice a2 r.rs.length p2).ownBlock = some j ∨ (Value.slice a3 r.qs.length p3).ownBlock = some j ∨ (Value.slice a4 r.gs.length p4).ownBlock = some j) → j < w3.heap.size) := SlM.lt R
  clear c R hr hL2
  have C4 : Hid (Below w.heap.size w (w3.alloc (.cells #[.string r.nm, .bool r.up, .int .i64 r.ck, .bool r.kn, .int .i64 r.se, .slice a1 r.ws.length p1, .slice a2 r.rs.length p2, .slice a3 r.qs.length p3, .slice a4 r.gs.length p4] 27))) := bl_trans C3.out (bl_alloc (Below.refl _ _) _)
  have A4 : Hid (Bx (w3.alloc (.cells #[.string r.nm, .bool r.up, .int .i64 r.ck, .bool r.kn, .int .i64 r.se, .slice a1 r.ws.length p1, .slice a2 r.rs.length p2, .slice a3 r.qs.length p3, .slice a4 r.gs.length p4] 27)) w.heap.size #[.string m.nm, .bool m.up, .int .i64 m.ck, .bool m.kn, .int .i64 m.se, v1, v2, v3, v4]) := (A3.out).keep (bl_alloc (Below.refl _ _) _)
  have V4 : Hid (SlM (w3.alloc (.cells #[.string r.nm, .bool r.up, .int .i64 r.ck, .bool r.kn, .int .i64 r.se, .slice a1 r.ws.length p1, .slice a2 r.rs.length p2, .slice a3 r.qs.length p3, .slice a4 r.gs.length p4] 27)) r (.slice a1 r.ws.length p1) (.slice a2 r.rs.length p2) (.slice a3 r.qs.length p3) (.slice a4 r.gs.length p4) w2.heap.size) := (V3.out).keep (bl_alloc (Below.refl _ _) _)
  clear C3 A3 V3
  have W4 : Hid (Bx (w3.alloc (.cells #[.string r.nm, .bool r.up, .int .i64 r.ck, .bool r.kn, .int .i64 r.se, .slice a1 r.ws.length p1, .slice a2 r.rs.length p2, .slice a3 r.qs.length p3, .slice a4 r.gs.length p4] 27)) w3.heap.size #[.string r.nm, .bool r.up, .int .i64 r.ck, .bool r.kn, .int .i64 r.se, .slice a1 r.ws.length p1, .slice a2 r.rs.length p2, .slice a3 r.qs.length p3, .slice a4 r.gs.length p4]) := Bx.new _ _ _
  have Z3 : Hid (w.heap.size < (w3.alloc (.cells #[.string r.nm, .bool r.up, .int .i64 r.ck, .bool r.kn, .int .i64 r.se, .slice a1 r.ws.length p1, .slice a2 r.rs.length p2, .slice a3 r.qs.length p3, .slice a4 r.gs.length p4] 27)).heap.size ∧ w3.heap.size < (w3.alloc (.cells #[.string r.nm, .bool r.up, .int .i64 r.ck, .bool r.kn, .int .i64 r.se, .slice a1 r.ws.length p1, .slice a2 r.rs.length p2, .slice a3 r.qs.length p3, .slice a4 r.gs.length p4] 27)).heap.size) := ⟨A4.out.l, W4.out.l⟩
  have ka := A4.out.c
  go_wp2_with fail
  refine (toMate_sl m v1 v2 v3 v4 _ (i1.keep C4.out) (i2.keep C4.out) (i3.keep C4.out) (i4.keep C4.out) l1 l2 l3 l4).mono ?_
  rintro e w4 ⟨e1, e2, e3, e4, rfl, hL4, c⟩
  have C5 : Hid (Below w.heap.size w w4) := bl_trans C4.out c
  have A5 : Hid (Bx w4 w.heap.size #[.string m.nm, .bool m.up, .int .i64 m.ck, .bool m.kn, .int .i64 m.se, v1, v2, v3, v4]) := (A4.out).keep c
  have V5 : Hid (SlM w4 r (.slice a1 r.ws.length p1) (.slice a2 r.rs.length p2) (.slice a3 r.qs.length p3) (.slice a4 r.gs.length p4) w2.heap.size) := (V4.out).keep c
  have W5 : Hid (Bx w4 w3.heap.size #[.string r.nm, .bool r.up, .int .i64 r.ck, .bool r.kn, .int .i64 r.se, .slice a1 r.ws.length p1, .slice a2 r.rs.length p2, .slice a3 r.qs.length p3, .slice a4 r.gs.length p4]) := (W4.out).keep c
  clear C4 A4 V4 W4
  have X5 : Hid (SlM w4 m (.slice (some ⟨e1, 0, none⟩) m.ws.length m.ws.length) (.slice (some ⟨e2, 0, none⟩) m.rs.length m.rs.length) (.slice (some ⟨e3, 0, none⟩) m.qs.length m.qs.length) (.slice (some ⟨e4, 0, none⟩) m.gs.length m.gs.length) (w3.alloc (.cells #[.string r.nm, .bool r.up, .int .i64 r.ck, .bool r.kn, .int .i64 r.se, .slice a1 r.ws.length p1, .slice a2 r.rs.length p2, .slice a3 r.qs.length p3, .slice a4 r.gs.length p4] 27)).heap.size) := hL4
  have X0 : Hid (∀ j, ((Value.slice (some ⟨e1, 0, none⟩) m.ws.length m.ws.length).ownBlock = some j ∨ (Value.slice (some ⟨e2, 0, none⟩) m.rs.length m.rs.length).ownBlock = some j ∨ (Value.slice (some ⟨e3, 0, none⟩) m.qs.length m.qs.length).ownBlock = some j ∨ (Value.slice (some ⟨e4, 0, none⟩) m.gs.length m.gs.length).ownBlock = some j) → (w3.alloc (.cells #[.string r.nm, .bool r.up, .int .i64 r.ck, .bool r.kn, .int .i64 r.se, .slice a1 r.ws.length p1, .slice a2 r.rs.length p2, .slice a3 r.qs.length p3, .slice a4 r.gs.length p4] 27)).heap.size ≤ j ∧ j < w4.heap.size) := fun j hj => ⟨SlM.ge hL4 j hj, SlM.lt hL4 j hj⟩
  have Z6a : Hid ((w3.alloc (.cells #[.string r.nm, .bool r.up, .int .i64 r.ck, .bool r.kn, .int .i64 r.se, .slice a1 r.ws.length p1, .slice a2 r.rs.length p2, .slice a3 r.qs.length p3, .slice a4 r.gs.length p4] 27)).heap.size ≤ (w4.alloc (.cells #[.string m.nm, .bool m.up, .int .i64 m.ck, .bool m.kn, .int .i64 m.se, .slice (some ⟨e1, 0, none⟩) m.ws.length m.ws.length, .slice (some ⟨e2, 0, none⟩) m.rs.length m.rs.length, .slice (some ⟨e3, 0, none⟩) m.qs.length m.qs.length, .slice (some ⟨e4, 0, none⟩) m.gs.length m.gs.length] 27)).heap.size) := Nat.le_trans c.size (bl_alloc (Below.refl _ _) _).size
  clear c ka hL4
  have C6 : Hid (Below w.heap.size w (w4.alloc (.cells #[.string m.nm, .bool m.up, .int .i64 m.ck, .bool m.kn, .int .i64 m.se, .slice (some ⟨e1, 0, none⟩) m.ws.length m.ws.length, .slice (some ⟨e2, 0, none⟩) m.rs.length m.rs.length, .slice (some ⟨e3, 0, none⟩) m.qs.length m.qs.length, .slice (some ⟨e4, 0, none⟩) m.gs.length m.gs.length] 27))) := bl_trans C5.out (bl_alloc (Below.refl _ _) _)
  have A6 : Hid (Bx (w4.alloc (.cells #[.string m.nm, .bool m.up, .int .i64 m.ck, .bool m.kn, .int .i64 m.se, .slice (some ⟨e1, 0, none⟩) m.ws.length m.ws.length, .slice (some ⟨e2, 0, none⟩) m.rs.length m.rs.length, .slice (some ⟨e3, 0, none⟩) m.qs.length m.qs.length, .slice (some ⟨e4, 0, none⟩) m.gs.length m.gs.length] 27)) w.heap.size #[.string m.nm, .bool m.up, .int .i64 m.ck, .bool m.kn, .int .i64 m.se, v1, v2, v3, v4]) := (A5.out).keep (bl_alloc (Below.refl _ _) _)
  have V6 : Hid (SlM (w4.alloc (.cells #[.string m.nm, .bool m.up, .int .i64 m.ck, .bool m.kn, .int .i64 m.se, .slice (some ⟨e1, 0, none⟩) m.ws.length m.ws.length, .slice (some ⟨e2, 0, none⟩) m.rs.length m.rs.length, .slice (some ⟨e3, 0, none⟩) m.qs.length m.qs.length, .slice (some ⟨e4, 0, none⟩) m.gs.length m.gs.length] 27)) r (.slice a1 r.ws.length p1) (.slice a2 r.rs.length p2) (.slice a3 r.qs.length p3) (.slice a4 r.gs.length p4) w2.heap.size) := (V5.out).keep (bl_alloc (Below.refl _ _) _)
  have W6 : Hid (Bx (w4.alloc (.cells #[.string m.nm, .bool m.up, .int .i64 m.ck, .bool m.kn, .int .i64 m.se, .slice (some ⟨e1, 0, none⟩) m.ws.length m.ws.length, .slice (some ⟨e2, 0, none⟩) m.rs.length m.rs.length, .slice (some ⟨e3, 0, none⟩) m.qs.length m.qs.length, .slice (some ⟨e4, 0, none⟩) m.gs.length m.gs.length] 27)) w3.heap.size #[.string r.nm, .bool r.up, .int .i64 r.ck, .bool r.kn, .int .i64 r.se, .slice a1 r.ws.length p1, .slice a2 r.rs.length p2, .slice a3 r.qs.length p3, .slice a4 r.gs.length p4]) := (W5.out).keep (bl_alloc (Below.refl _ _) _)
  have X6 : Hid (SlM (w4.alloc (.cells #[.string m.nm, .bool m.up, .int .i64 m.ck, .bool m.kn, .int .i64 m.se, .slice (some ⟨e1, 0, none⟩) m.ws.length m.ws.length, .slice (some ⟨e2, 0, none⟩) m.rs.length m.rs.length, .slice (some ⟨e3, 0, none⟩) m.qs.length m.qs.length, .slice (some ⟨e4, 0, none⟩) m.gs.length m.gs.length] 27)) m (.slice (some ⟨e1, 0, none⟩) m.ws.length m.ws.length) (.slice (some ⟨e2, 0, none⟩) m.rs.length m.rs.length) (.slice (some ⟨e3, 0, none⟩) m.qs.length m.qs.length) (.slice (some ⟨e4, 0, none⟩) m.gs.length m.gs.length) (w3.alloc (.cells #[.string r.nm, .bool r.up, .int .i64 r.ck, .bool r.kn, .int .i64 r.se, .slice a1 r.ws.length p1, .slice a2 r.rs.length p2, .slice a3 r.qs.length p3, .slice a4 r.gs.length p4] 27)).heap.size) := (X5.out).keep (bl_alloc (Below.refl _ _) _)
  clear C5 A5 V5 W5 X5
  have Y6 : Hid (Bx (w4.alloc (.cells #[.string m.nm, .bool m.up, .int .i64 m.ck, .bool m.kn, .int .i64 m.se, .slice (some ⟨e1, 0, none⟩) m.ws.length m.ws.length, .slice (some ⟨e2, 0, none⟩) m.rs.length m.rs.length, .slice (some ⟨e3, 0, none⟩) m.qs.length m.qs.length, .slice (some ⟨e4, 0, none⟩) m.gs.length m.gs.length] 27)) w4.heap.size #[.string m.nm, .bool m.up, .int .i64 m.ck, .bool m.kn, .int .i64 m.se, .slice (some ⟨e1, 0, none⟩) m.ws.length m.ws.length, .slice (some ⟨e2, 0, none⟩) m.rs.length m.rs.length, .slice (some ⟨e3, 0, none⟩) m.qs.length m.qs.length, .slice (some ⟨e4, 0, none⟩) m.gs.length m.gs.length]) := Bx.new _ _ _
  have Z4 : Hid (w4.heap.size < (w4.alloc (.cells #[.string m.nm, .bool m.up, .int .i64 m.ck, .bool m.kn, .int .i64 m.se, .slice (some ⟨e1, 0, none⟩) m.ws.length m.ws.length, .slice (some ⟨e2, 0, none⟩) m.rs.length m.rs.length, .slice (some ⟨e3, 0, none⟩) m.qs.length m.qs.length, .slice (some ⟨e4, 0, none⟩) m.gs.length m.gs.length] 27)).heap.size) := Y6.out.l
  have Z6 : Hid ((w3.alloc (.cells #[.string r.nm, .bool r.up, .int .i64 r.ck, .bool r.kn, .int .i64 r.se, .slice a1 r.ws.length p1, .slice a2 r.rs.length p2, .slice a3 r.qs.length p3, .slice a4 r.gs.length p4] 27)).heap.size ≤ (w4.alloc (.cells #[.string m.nm, .bool m.up, .int .i64 m.ck, .bool m.kn, .int .i64 m.se, .slice (some ⟨e1, 0, none⟩) m.ws.length m.ws.length, .slice (some ⟨e2, 0, none⟩) m.rs.length m.rs.length, .slice (some ⟨e3, 0, none⟩) m.qs.length m.qs.length, .slice (some ⟨e4, 0, none⟩) m.gs.length m.gs.length] 27)).heap.size) := Z6a.out
  go_wp2_with fail
  refine (implFall mach m e1 e2 e3 e4 _ (lists_of X6.out) hf).mono ?_
  rintro e w5 ⟨⟨r', s1, s2, s3, s4, rfl, hr, R⟩, c⟩
  have hrr : r = r' := Falls.one Hr.out hr
  subst hrr
  obtain ⟨g1, q1, hs1⟩ := W.Sl.shape R.a1
  subst hs1
  obtain ⟨g2, q2, hs2⟩ := Sl.shape R.a2
  subst hs2
  obtain ⟨g3, q3, hs3⟩ := A.Sl.shape R.a3
  subst hs3
  obtain ⟨g4, q4, hs4⟩ := A.Sl.shape R.a4
  subst hs4
  have C7 : Hid (Below w.heap.size w w5) := bl_trans C6.out c
  have A7 : Hid (Bx w5 w.heap.size #[.string m.nm, .bool m.up, .int .i64 m.ck, .bool m.kn, .int .i64 m.se, v1, v2, v3, v4]) := (A6.out).keep c
  have V7 : Hid (SlM w5 r (.slice a1 r.ws.length p1) (.slice a2 r.rs.length p2) (.slice a3 r.qs.length p3) (.slice a4 r.gs.length p4) w2.heap.size) := (V6.out).keep c
  have W7 : Hid (Bx w5 w3.heap.size #[.string r.nm, .bool r.up, .int .i64 r.ck, .bool r.kn, .int .i64 r.se, .slice a1 r.ws.length p1, .slice a2 r.rs.length p2, .slice a3 r.qs.length p3, .slice a4 r.gs.length p4]) := (W6.out).keep c
  have X7 : Hid (SlM w5 m (.slice (some ⟨e1, 0, none⟩) m.ws.length m.ws.length) (.slice (some ⟨e2, 0, none⟩) m.rs.length m.rs.length) (.slice (some ⟨e3, 0, none⟩) m.qs.length m.qs.length) (.slice (some ⟨e4, 0, none⟩) m.gs.length m.gs.length) (w3.alloc (.cells #[.string r.nm, .bool r.up, .int .i64 r.ck, .bool r.kn, .int .i64 r.se, .slice a1 r.ws.length p1, .slice a2 r.rs.length p2, .slice a3 r.qs.length p3, .slice a4 r.gs.length p4] 27)).heap.size) := (X6.out).keep c
  have Y7 : Hid (Bx w5 w4.heap.size #[.string m.nm, .bool m.up, .int .i64 m.ck, .bool m.kn, .int .i64 m.se, .slice (some ⟨e1, 0, none⟩) m.ws.length m.ws.length, .slice (some ⟨e2, 0, none⟩) m.rs.length m.rs.length, .slice (some ⟨e3, 0, none⟩) m.qs.length m.qs.length, .slice (some ⟨e4, 0, none⟩) m.gs.length m.gs.length]) := (Y6.out).keep c
  clear C6 A6 V6 W6 X6 Y6
  have G7 : Hid (SlM w5 r (.slice g1 r.ws.length q1) (.slice g2 r.rs.length q2) (.slice g3 r.qs.length q3) (.slice g4 r.gs.length q4) (w4.alloc (.cells #[.string m.nm, .bool m.up, .int .i64 m.ck, .bool m.kn, .int .i64 m.se, .slice (some ⟨e1, 0, none⟩) m.ws.length m.ws.length, .slice (some ⟨e2, 0, none⟩) m.rs.length m.rs.length, .slice (some ⟨e3, 0, none⟩) m.qs.length m.qs.length, .slice (some ⟨e4, 0, none⟩) m.gs.length m.gs.length] 27)).heap.size) := R
  have G0 : Hid (∀ j, ((Value.slice g1 r.ws.length q1).ownBlock = some j ∨ (Value.slice g2 r.rs.length q2).ownBlock = some j ∨ (Value.slice g3 r.qs.length q3).ownBlock = some j ∨ (Value.slice g4 r.gs.length q4).ownBlock = some j) → (w4.alloc (.cells #[.string m.nm, .bool m.up, .int .i64 m.ck, .bool m.kn, .int .i64 m.se, .slice (some ⟨e1, 0, none⟩) m.ws.length m.ws.length, .slice (some ⟨e2, 0, none⟩) m.rs.length m.rs.length, .slice (some ⟨e3, 0, none⟩) m.qs.length m.qs.length, .slice (some ⟨e4, 0, none⟩) m.gs.length m.gs.length] 27)).heap.size ≤ j ∧ j < w5.heap.size) := fun j hj => ⟨SlM.ge R j hj, SlM.lt R j hj⟩
  have Z5 : Hid (w4.heap.size < w5.heap.size) := Y7.out.l
  clear c R hr
  have C8 : Hid (Below w.heap.size w (w5.alloc (.cells #[.string r.nm, .bool r.up, .int .i64 r.ck, .bool r.kn, .int .i64 r.se, .slice g1 r.ws.length q1, .slice g2 r.rs.length q2, .slice g3 r.qs.length q3, .slice g4 r.gs.length q4] 27))) := bl_trans C7.out (bl_alloc (Below.refl _ _) _)
  have A8 : Hid (Bx (w5.alloc (.cells #[.string r.nm, .bool r.up, .int .i64 r.ck, .bool r.kn, .int .i64 r.se, .slice g1 r.ws.length q1, .slice g2 r.rs.length q2, .slice g3 r.qs.length q3, .slice g4 r.gs.length q4] 27)) w.heap.size #[.string m.nm, .bool m.up, .int .i64 m.ck, .bool m.kn, .int .i64 m.se, v1, v2, v3, v4]) := (A7.out).keep (bl_alloc (Below.refl _ _) _)
  have V8 : Hid (SlM (w5.alloc (.cells #[.string r.nm, .bool r.up, .int .i64 r.ck, .bool r.kn, .int .i64 r.se, .slice g1 r.ws.length q1, .slice g2 r.rs.length q2, .slice g3 r.qs.length q3, .slice g4 r.gs.length q4] 27)) r (.slice a1 r.ws.length p1) (.slice a2 r.rs.length p2) (.slice a3 r.qs.length p3) (.slice a4 r.gs.length p4) w2.heap.size) := (V7.out).keep (bl_alloc (Below.refl _ _) _)
  have W8 : Hid (Bx (w5.alloc (.cells #[.string r.nm, .bool r.up, .int .i64 r.ck, .bool r.kn, .int .i64 r.se, .slice g1 r.ws.length q1, .slice g2 r.rs.length q2, .slice g3 r.qs.length q3, .slice g4 r.gs.length q4] 27)) w3.heap.size #[.string r.nm, .bool r.up, .int .i64 r.ck, .bool r.kn, .int .i64 r.se, .slice a1 r.ws.length p1, .slice a2 r.rs.length p2, .slice a3 r.qs.length p3, .slice a4 r.gs.length p4]) := (W7.out).keep (bl_alloc (Below.refl _ _) _)
  have X8 : Hid (SlM (w5.alloc (.cells #[.string r.nm, .bool r.up, .int .i64 r.ck, .bool r.kn, .int .i64 r.se, .slice g1 r.ws.length q1, .slice g2 r.rs.length q2, .slice g3 r.qs.length q3, .slice g4 r.gs.length q4] 27)) m (.slice (some ⟨e1, 0, none⟩) m.ws.length m.ws.length) (.slice (some ⟨e2, 0, none⟩) m.rs.length m.rs.length) (.slice (some ⟨e3, 0, none⟩) m.qs.length m.qs.length) (.slice (some ⟨e4, 0, none⟩) m.gs.length m.gs.length) (w3.alloc (.cells #[.string r.nm, .bool r.up, .int .i64 r.ck, .bool r.kn, .int .i64 r.se, .slice a1 r.ws.length p1, .slice a2 r.rs.length p2, .slice a3 r.qs.length p3, .slice a4 r.gs.length p4] 27)).heap.size) := (X7.out).keep (bl_alloc (Below.refl _ _) _)
  have Y8 : Hid (Bx (w5.alloc (.cells #[.string r.nm, .bool r.up, .int .i64 r.ck, .bool r.kn, .int .i64 r.se, .slice g1 r.ws.length q1, .slice g2 r.rs.length q2, .slice g3 r.qs.length q3, .slice g4 r.gs.length q4] 27)) w4.heap.size #[.string m.nm, .bool m.up, .int .i64 m.ck, .bool m.kn, .int .i64 m.se, .slice (some ⟨e1, 0, none⟩) m.ws.length m.ws.length, .slice (some ⟨e2, 0, none⟩) m.rs.length m.rs.length, .slice (some ⟨e3, 0, none⟩) m.qs.length m.qs.length, .slice (some ⟨e4, 0, none⟩) m.gs.length m.gs.length]) := (Y7.out).keep (bl_alloc (Below.refl _ _) _)
  have G8 : Hid (SlM (w5.alloc (.cells #[.string r.nm, .bool r.up, .int .i64 r.ck, .bool r.kn, .int .i64 r.se, .slice g1 r.ws.length q1, .slice g2 r.rs.length q2, .slice g3 r.qs.length q3, .slice g4 r.gs.length q4] 27)) r (.slice g1 r.ws.length q1) (.slice g2 r.rs.length q2) (.slice g3 r.qs.length q3) (.slice g4 r.gs.length q4) (w4.alloc (.cells #[.string m.nm, .bool m.up, .int .i64 m.ck, .bool m.kn, .int .i64 m.se, .slice (some ⟨e1, 0, none⟩) m.ws.length m.ws.length, .slice (some ⟨e2, 0, none⟩) m.rs.length m.rs.length, .slice (some ⟨e3, 0, none⟩) m.qs.length m.qs.length, .slice (some ⟨e4, 0, none⟩) m.gs.length m.gs.length] 27)).heap.size) := (G7.out).keep (bl_alloc (Below.refl _ _) _)
  clear C7 A7 V7 W7 X7 Y7 G7
  have Z8 : Hid (Bx (w5.alloc (.cells #[.string r.nm, .bool r.up, .int .i64 r.ck, .bool r.kn, .int .i64 r.se, .slice g1 r.ws.length q1, .slice g2 r.rs.length q2, .slice g3 r.qs.length q3, .slice g4 r.gs.length q4] 27)) w5.heap.size #[.string r.nm, .bool r.up, .int .i64 r.ck, .bool r.kn, .int .i64 r.se, .slice g1 r.ws.length q1, .slice g2 r.rs.length q2, .slice g3 r.qs.length q3, .slice g4 r.gs.length q4]) := Bx.new _ _ _
  have kw := W8.out.c
  have kz := Z8.out.c
  go_wp2_with fail
  refine (eqMate_sl r _ _ _ _ _ _ _ _ _ _ _ G8.out V8.out Lr.out).mono ?_
  rintro e w6 ⟨rfl, c⟩
  clear kw kz
  have C9 : Hid (Below w.heap.size w w6) := bl_trans C8.out c
  have A9 : Hid (Bx w6 w.heap.size #[.string m.nm, .bool m.up, .int .i64 m.ck, .bool m.kn, .int .i64 m.se, v1, v2, v3, v4]) := (A8.out).keep c
  have V9 : Hid (SlM w6 r (.slice a1 r.ws.length p1) (.slice a2 r.rs.length p2) (.slice a3 r.qs.length p3) (.slice a4 r.gs.length p4) w2.heap.size) := (V8.out).keep c
  have W9 : Hid (Bx w6 w3.heap.size #[.string r.nm, .bool r.up, .int .i64 r.ck, .bool r.kn, .int .i64 r.se, .slice a1 r.ws.length p1, .slice a2 r.rs.length p2, .slice a3 r.qs.length p3, .slice a4 r.gs.length p4]) := (W8.out).keep c
  have X9 : Hid (SlM w6 m (.slice (some ⟨e1, 0, none⟩) m.ws.length m.ws.length) (.slice (some ⟨e2, 0, none⟩) m.rs.length m.rs.length) (.slice (some ⟨e3, 0, none⟩) m.qs.length m.qs.length) (.slice (some ⟨e4, 0, none⟩) m.gs.length m.gs.length) (w3.alloc (.cells #[.string r.nm, .bool r.up, .int .i64 r.ck, .bool r.kn, .int .i64 r.se, .slice a1 r.ws.length p1, .slice a2 r.rs.length p2, .slice a3 r.qs.length p3, .slice a4 r.gs.length p4] 27)).heap.size) := (X8.out).keep c
  have Y9 : Hid (Bx w6 w4.heap.size #[.string m.nm, .bool m.up, .int .i64 m.ck, .bool m.kn, .int .i64 m.se, .slice (some ⟨e1, 0, none⟩) m.ws.length m.ws.length, .slice (some ⟨e2, 0, none⟩) m.rs.length m.rs.length, .slice (some ⟨e3, 0, none⟩) m.qs.length m.qs.length, .slice (some ⟨e4, 0, none⟩) m.gs.length m.gs.length]) := (Y8.out).keep c
  have G9 : Hid (SlM w6 r (.slice g1 r.ws.length q1) (.slice g2 r.rs.length q2) (.slice g3 r.qs.length q3) (.slice g4 r.gs.length q4) (w4.alloc (.cells #[.string m.nm, .bool m.up, .int .i64 m.ck, .bool m.kn, .int .i64 m.se, .slice (some ⟨e1, 0, none⟩) m.ws.length m.ws.length, .slice (some ⟨e2, 0, none⟩) m.rs.length m.rs.length, .slice (some ⟨e3, 0, none⟩) m.qs.length m.qs.length, .slice (some ⟨e4, 0, none⟩) m.gs.length m.gs.length] 27)).heap.size) := (G8.out).keep c
  have Z9 : Hid (Bx w6 w5.heap.size #[.string r.nm, .bool r.up, .int .i64 r.ck, .bool r.kn, .int .i64 r.se, .slice g1 r.ws.length q1, .slice g2 r.rs.length q2, .slice g3 r.qs.length q3, .slice g4 r.gs.length q4]) := (Z8.out).keep c
  clear C8 A8 V8 W8 X8 Y8 G8 Z8
  clear c
  go_wp2_with fail
  go_region_held3 (fun y => Below w6.heap.size w6 y ∧ (y.cell? ⟨w.heap.size, 0, none⟩ = some (.string m.nm) ∧ y.cell? ⟨w.heap.size, 1, none⟩ = some (.bool m.up) ∧ y.cell? ⟨w.heap.size, 2, none⟩ = some (.int .i64 m.ck) ∧ y.cell? ⟨w.heap.size, 3, none⟩ = some (.bool m.kn) ∧ y.cell? ⟨w.heap.size, 4, none⟩ = some (.int .i64 m.se) ∧ y.cell? ⟨w.heap.size, 5, none⟩ = some (v1) ∧ y.cell? ⟨w.heap.size, 6, none⟩ = some (v2) ∧ y.cell? ⟨w.heap.size, 7, none⟩ = some (v3) ∧ y.cell? ⟨w.heap.size, 8, none⟩ = some (v4) ∧ y.cell? ⟨w4.heap.size, 0, none⟩ = some (.string m.nm) ∧ y.cell? ⟨w4.heap.size, 1, none⟩ = some (.bool m.up) ∧ y.cell? ⟨w4.heap.size, 2, none⟩ = some (.int .i64 m.ck) ∧ y.cell? ⟨w4.heap.size, 3, none⟩ = some (.bool m.kn) ∧ y.cell? ⟨w4.heap.size, 4, none⟩ = some (.int .i64 m.se) ∧ y.cell? ⟨w4.heap.size, 5, none⟩ = some (.slice (some ⟨e1, 0, none⟩) m.ws.length m.ws.length) ∧ y.cell? ⟨w4.heap.size, 6, none⟩ = some (.slice (some ⟨e2, 0, none⟩) m.rs.length m.rs.length) ∧ y.cell? ⟨w4.heap.size, 7, none⟩ = some (.slice (some ⟨e3, 0, none⟩) m.qs.length m.qs.length) ∧ y.cell? ⟨w4.heap.size, 8, none⟩ = some (.slice (some ⟨e4, 0, none⟩) m.gs.length m.gs.length)))
    (first | exact lawK A9.out.c Y9.out.c A9.out.l Y9.out.l (bl_drew (Below.refl _ _)) | exact lawK A9.out.c Y9.out.c A9.out.l Y9.out.l (bl_trans (bl_drew (Below.refl _ _)) hy) | exact lawK A9.out.c Y9.out.c A9.out.l Y9.out.l (bl_trans (bl_trans (bl_drew (Below.refl _ _)) hy) hz))
    (first | (go_at_call 48; refine (toMate_sl m v1 v2 v3 v4 _ (i1.keep (bl_trans C9.out (bl_drew (Below.refl _ _)))) (i2.keep (bl_trans C9.out (bl_drew (Below.refl _ _)))) (i3.keep (bl_trans C9.out (bl_drew (Below.refl _ _)))) (i4.keep (bl_trans C9.out (bl_drew (Below.refl _ _)))) l1 l2 l3 l4).mono ?_; rintro e y' ⟨f1, f2, f3, f4, rfl, hL7, hy⟩) | (go_at_call 49; refine (eqMate_sl m _ _ _ _ _ _ _ _ _ _ _ (X9.out.keep (bl_trans (bl_drew (Below.refl _ _)) hy)) hL7 Hl.out).mono ?_; rintro e y'' ⟨rfl, hz⟩))
  have cc := bl_trans (bl_trans (bl_drew (Below.refl _ w6)) hy) hz
  clear hy hz hL7
  have C10 : Hid (Below w.heap.size w y'') := bl_trans C9.out cc
  have A10 : Hid (Bx y'' w.heap.size #[.string m.nm, .bool m.up, .int .i64 m.ck, .bool m.kn, .int .i64 m.se, v1, v2, v3, v4]) := (A9.out).keep cc
  have V10 : Hid (SlM y'' r (.slice a1 r.ws.length p1) (.slice a2 r.rs.length p2) (.slice a3 r.qs.length p3) (.slice a4 r.gs.length p4) w2.heap.size) := (V9.out).keep cc
  have W10 : Hid (Bx y'' w3.heap.size #[.string r.nm, .bool r.up, .int .i64 r.ck, .bool r.kn, .int .i64 r.se, .slice a1 r.ws.length p1, .slice a2 r.rs.length p2, .slice a3 r.qs.length p3, .slice a4 r.gs.length p4]) := (W9.out).keep cc
  have X10 : Hid (SlM y'' m (.slice (some ⟨e1, 0, none⟩) m.ws.length m.ws.length) (.slice (some ⟨e2, 0, none⟩) m.rs.length m.rs.length) (.slice (some ⟨e3, 0, none⟩) m.qs.length m.qs.length) (.slice (some ⟨e4, 0, none⟩) m.gs.length m.gs.length) (w3.alloc (.cells #[.string r.nm, .bool r.up, .int .i64 r.ck, .bool r.kn, .int .i64 r.se, .slice a1 r.ws.length p1, .slice a2 r.rs.length p2, .slice a3 r.qs.length p3, .slice a4 r.gs.length p4] 27)).heap.size) := (X9.out).keep cc
  have Y10 : Hid (Bx y'' w4.heap.size #[.string m.nm, .bool m.up, .int .i64 m.ck, .bool m.kn, .int .i64 m.se, .slice (some ⟨e1, 0, none⟩) m.ws.length m.ws.length, .slice (some ⟨e2, 0, none⟩) m.rs.length m.rs.length, .slice (some ⟨e3, 0, none⟩) m.qs.length m.qs.length, .slice (some ⟨e4, 0, none⟩) m.gs.length m.gs.length]) := (Y9.out).keep cc
  have G10 : Hid (SlM y'' r (.slice g1 r.ws.length q1) (.slice g2 r.rs.length q2) (.slice g3 r.qs.length q3) (.slice g4 r.gs.length q4) (w4.alloc (.cells #[.string m.nm, .bool m.up, .int .i64 m.ck, .bool m.kn, .int .i64 m.se, .slice (some ⟨e1, 0, none⟩) m.ws.length m.ws.length, .slice (some ⟨e2, 0, none⟩) m.rs.length m.rs.length, .slice (some ⟨e3, 0, none⟩) m.qs.length m.qs.length, .slice (some ⟨e4, 0, none⟩) m.gs.length m.gs.length] 27)).heap.size) := (G9.out).keep cc
  have Z10 : Hid (Bx y'' w5.heap.size #[.string r.nm, .bool r.up, .int .i64 r.ck, .bool r.kn, .int .i64 r.se, .slice g1 r.ws.length q1, .slice g2 r.rs.length q2, .slice g3 r.qs.length q3, .slice g4 r.gs.length q4]) := (Z9.out).keep cc
  clear C9 A9 V9 W9 X9 Y9 G9 Z9
  clear cc
  have ky := Y10.out.c
  go_wp2_with fail
  refine (markMate_sl m _ _ _ _ _ 1 _ X10.out Hl.out (by omega) (by omega)).mono ?_
  rintro e w8 ⟨he, -, o⟩
  obtain ⟨kk, hkk⟩ : ∃ kk : Int, kk = 1 + 7 * (m.ws.length : Int) + 11 * (m.rs.length : Int) + 4 * (m.qs.length : Int) + 4 * (m.gs.length : Int) := ⟨_, rfl⟩
  rw [← hkk] at he
  subst he
  have kn : 0 ≤ kk := by omega
  clear hkk
  clear ky
  clear X10
  clear Y10
  have C11 : Hid (Below w.heap.size w w8) := bl_off C10.out o (fun j hj => by have h1 := (X0.out j hj).1; have h2 := Z3.out.1; omega)
  have A11 : Hid (Bx w8 w.heap.size #[.string m.nm, .bool m.up, .int .i64 m.ck, .bool m.kn, .int .i64 m.se, v1, v2, v3, v4]) := (A10.out).off o (fun hp => by have h1 := (X0.out _ hp).1; have h2 := Z3.out.1; omega)
  have V11 : Hid (SlM w8 r (.slice a1 r.ws.length p1) (.slice a2 r.rs.length p2) (.slice a3 r.qs.length p3) (.slice a4 r.gs.length p4) w2.heap.size) := (V10.out).off o (fun j hj hp => by have h0 := V0.out j hj; have h1 := (X0.out j hp).1; have h2 := Z3.out.2; omega)
  have W11 : Hid (Bx w8 w3.heap.size #[.string r.nm, .bool r.up, .int .i64 r.ck, .bool r.kn, .int .i64 r.se, .slice a1 r.ws.length p1, .slice a2 r.rs.length p2, .slice a3 r.qs.length p3, .slice a4 r.gs.length p4]) := (W10.out).off o (fun hp => by have h1 := (X0.out _ hp).1; have h2 := Z3.out.2; omega)
  have G11 : Hid (SlM w8 r (.slice g1 r.ws.length q1) (.slice g2 r.rs.length q2) (.slice g3 r.qs.length q3) (.slice g4 r.gs.length q4) (w4.alloc (.cells #[.string m.nm, .bool m.up, .int .i64 m.ck, .bool m.kn, .int .i64 m.se, .slice (some ⟨e1, 0, none⟩) m.ws.length m.ws.length, .slice (some ⟨e2, 0, none⟩) m.rs.length m.rs.length, .slice (some ⟨e3, 0, none⟩) m.qs.length m.qs.length, .slice (some ⟨e4, 0, none⟩) m.gs.length m.gs.length] 27)).heap.size) := (G10.out).off o (fun j hj hp => by have h0 := (G0.out j hj).1; have h1 := (X0.out j hp).2; have h2 := Z4.out; omega)
  have Z11 : Hid (Bx w8 w5.heap.size #[.string r.nm, .bool r.up, .int .i64 r.ck, .bool r.kn, .int .i64 r.se, .slice g1 r.ws.length q1, .slice g2 r.rs.length q2, .slice g3 r.qs.length q3, .slice g4 r.gs.length q4]) := (Z10.out).off o (fun hp => by have h1 := (X0.out _ hp).2; have h2 := Z5.out; omega)
  clear C10 A10 V10 W10 G10 Z10
  clear o
  have kw := W11.out.c
  have kz := Z11.out.c
  go_wp2_with fail
  refine (eqMate_sl r _ _ _ _ _ _ _ _ _ _ _ G11.out V11.out Lr.out).mono ?_
  rintro e w9 ⟨rfl, c⟩
  clear kw kz
  have C12 : Hid (Below w.heap.size w w9) := bl_trans C11.out c
  have A12 : Hid (Bx w9 w.heap.size #[.string m.nm, .bool m.up, .int .i64 m.ck, .bool m.kn, .int .i64 m.se, v1, v2, v3, v4]) := (A11.out).keep c
  have V12 : Hid (SlM w9 r (.slice a1 r.ws.length p1) (.slice a2 r.rs.length p2) (.slice a3 r.qs.length p3) (.slice a4 r.gs.length p4) w2.heap.size) := (V11.out).keep c
  have W12 : Hid (Bx w9 w3.heap.size #[.string r.nm, .bool r.up, .int .i64 r.ck, .bool r.kn, .int .i64 r.se, .slice a1 r.ws.length p1, .slice a2 r.rs.length p2, .slice a3 r.qs.length p3, .slice a4 r.gs.length p4]) := (W11.out).keep c
  have G12 : Hid (SlM w9 r (.slice g1 r.ws.length q1) (.slice g2 r.rs.length q2) (.slice g3 r.qs.length q3) (.slice g4 r.gs.length q4) (w4.alloc (.cells #[.string m.nm, .bool m.up, .int .i64 m.ck, .bool m.kn, .int .i64 m.se, .slice (some ⟨e1, 0, none⟩) m.ws.length m.ws.length, .slice (some ⟨e2, 0, none⟩) m.rs.length m.rs.length, .slice (some ⟨e3, 0, none⟩) m.qs.length m.qs.length, .slice (some ⟨e4, 0, none⟩) m.gs.length m.gs.length] 27)).heap.size) := (G11.out).keep c
  have Z12 : Hid (Bx w9 w5.heap.size #[.string r.nm, .bool r.up, .int .i64 r.ck, .bool r.kn, .int .i64 r.se, .slice g1 r.ws.length q1, .slice g2 r.rs.length q2, .slice g3 r.qs.length q3, .slice g4 r.gs.length q4]) := (Z11.out).keep c
  clear C11 A11 V11 W11 G11 Z11
  clear c
  have kz := Z12.out.c
  go_wp2_with fail
  obtain ⟨mm, hmm⟩ : ∃ mm : Int, mm = 1 + 7 * (r.ws.length : Int) + 11 * (r.rs.length : Int) + 4 * (r.qs.length : Int) + 4 * (r.gs.length : Int) := ⟨_, rfl⟩
  have mn : 0 ≤ mm := by omega
  have Hm : Hid (mm = 1 + 7 * (r.ws.length : Int) + 11 * (r.rs.length : Int) + 4 * (r.qs.length : Int) + 4 * (r.gs.length : Int)) := hmm
  clear hmm
  refine (markMate_sl r _ _ _ _ _ 1 _ G12.out Lr.out (by omega) (by omega)).mono ?_
  rintro e w10 ⟨he, M, o⟩
  rw [← Hm.out] at he
  subst he
  clear kz
  clear G12
  have C13 : Hid (Below w.heap.size w w10) := bl_off C12.out o (fun j hj => by have h1 := (G0.out j hj).1; have h2 := Z3.out.1; have h3 := Z6.out; omega)
  have A13 : Hid (Bx w10 w.heap.size #[.string m.nm, .bool m.up, .int .i64 m.ck, .bool m.kn, .int .i64 m.se, v1, v2, v3, v4]) := (A12.out).off o (fun hp => by have h1 := (G0.out _ hp).1; have h2 := Z3.out.1; have h3 := Z6.out; omega)
  have V13 : Hid (SlM w10 r (.slice a1 r.ws.length p1) (.slice a2 r.rs.length p2) (.slice a3 r.qs.length p3) (.slice a4 r.gs.length p4) w2.heap.size) := (V12.out).off o (fun j hj hp => by have h0 := V0.out j hj; have h1 := (G0.out j hp).1; have h2 := Z3.out.2; have h3 := Z6.out; omega)
  have W13 : Hid (Bx w10 w3.heap.size #[.string r.nm, .bool r.up, .int .i64 r.ck, .bool r.kn, .int .i64 r.se, .slice a1 r.ws.length p1, .slice a2 r.rs.length p2, .slice a3 r.qs.length p3, .slice a4 r.gs.length p4]) := (W12.out).off o (fun hp => by have h1 := (G0.out _ hp).1; have h2 := Z3.out.2; have h3 := Z6.out; omega)
  have Z13 : Hid (Bx w10 w5.heap.size #[.string r.nm, .bool r.up, .int .i64 r.ck, .bool r.kn, .int .i64 r.se, .slice g1 r.ws.length q1, .slice g2 r.rs.length q2, .slice g3 r.qs.length q3, .slice g4 r.gs.length q4]) := (Z12.out).off o (fun hp => by have h1 := (G0.out _ hp).2; omega)
  clear C12 A12 V12 W12 Z12
  have M13 : Hid (SlM w10 (markM r 1) (.slice g1 r.ws.length q1) (.slice g2 r.rs.length q2) (.slice g3 r.qs.length q3) (.slice g4 r.gs.length q4) (w4.alloc (.cells #[.string m.nm, .bool m.up, .int .i64 m.ck, .bool m.kn, .int .i64 m.se, .slice (some ⟨e1, 0, none⟩) m.ws.length m.ws.length, .slice (some ⟨e2, 0, none⟩) m.rs.length m.rs.length, .slice (some ⟨e3, 0, none⟩) m.qs.length m.qs.length, .slice (some ⟨e4, 0, none⟩) m.gs.length m.gs.length] 27)).heap.size) := M
  clear o M
  have kz := Z13.out.c
  go_wp2_with fail
  refine (heldMate_sl r _ _ _ _ _ 1 _ M13.out Lr.out (by omega) (by omega)).mono ?_
  rintro e w11 ⟨he, c⟩
  rw [← Hm.out] at he
  subst he
  clear kz
  have C14 : Hid (Below w.heap.size w w11) := bl_trans C13.out c
  have A14 : Hid (Bx w11 w.heap.size #[.string m.nm, .bool m.up, .int .i64 m.ck, .bool m.kn, .int .i64 m.se, v1, v2, v3, v4]) := (A13.out).keep c
  have V14 : Hid (SlM w11 r (.slice a1 r.ws.length p1) (.slice a2 r.rs.length p2) (.slice a3 r.qs.length p3) (.slice a4 r.gs.length p4) w2.heap.size) := (V13.out).keep c
  have W14 : Hid (Bx w11 w3.heap.size #[.string r.nm, .bool r.up, .int .i64 r.ck, .bool r.kn, .int .i64 r.se, .slice a1 r.ws.length p1, .slice a2 r.rs.length p2, .slice a3 r.qs.length p3, .slice a4 r.gs.length p4]) := (W13.out).keep c
  have Z14 : Hid (Bx w11 w5.heap.size #[.string r.nm, .bool r.up, .int .i64 r.ck, .bool r.kn, .int .i64 r.se, .slice g1 r.ws.length q1, .slice g2 r.rs.length q2, .slice g3 r.qs.length q3, .slice g4 r.gs.length q4]) := (Z13.out).keep c
  have M14 : Hid (SlM w11 (markM r 1) (.slice g1 r.ws.length q1) (.slice g2 r.rs.length q2) (.slice g3 r.qs.length q3) (.slice g4 r.gs.length q4) (w4.alloc (.cells #[.string m.nm, .bool m.up, .int .i64 m.ck, .bool m.kn, .int .i64 m.se, .slice (some ⟨e1, 0, none⟩) m.ws.length m.ws.length, .slice (some ⟨e2, 0, none⟩) m.rs.length m.rs.length, .slice (some ⟨e3, 0, none⟩) m.qs.length m.qs.length, .slice (some ⟨e4, 0, none⟩) m.gs.length m.gs.length] 27)).heap.size) := (M13.out).keep c
  clear C13 A13 V13 W13 Z13 M13
  clear c
  have ka := A14.out.c
  go_wp2_with fail
  refine (toMate_sl m v1 v2 v3 v4 _ (i1.keep C14.out) (i2.keep C14.out) (i3.keep C14.out) (i4.keep C14.out) l1 l2 l3 l4).mono ?_
  rintro e w12 ⟨f1, f2, f3, f4, rfl, hL4, c⟩
  clear ka
  have C15 : Hid (Below w.heap.size w w12) := bl_trans C14.out c
  have A15 : Hid (Bx w12 w.heap.size #[.string m.nm, .bool m.up, .int .i64 m.ck, .bool m.kn, .int .i64 m.se, v1, v2, v3, v4]) := (A14.out).keep c
  have V15 : Hid (SlM w12 r (.slice a1 r.ws.length p1) (.slice a2 r.rs.length p2) (.slice a3 r.qs.length p3) (.slice a4 r.gs.length p4) w2.heap.size) := (V14.out).keep c
  have W15 : Hid (Bx w12 w3.heap.size #[.string r.nm, .bool r.up, .int .i64 r.ck, .bool r.kn, .int .i64 r.se, .slice a1 r.ws.length p1, .slice a2 r.rs.length p2, .slice a3 r.qs.length p3, .slice a4 r.gs.length p4]) := (W14.out).keep c
  have Z15 : Hid (Bx w12 w5.heap.size #[.string r.nm, .bool r.up, .int .i64 r.ck, .bool r.kn, .int .i64 r.se, .slice g1 r.ws.length q1, .slice g2 r.rs.length q2, .slice g3 r.qs.length q3, .slice g4 r.gs.length q4]) := (Z14.out).keep c
  have M15 : Hid (SlM w12 (markM r 1) (.slice g1 r.ws.length q1) (.slice g2 r.rs.length q2) (.slice g3 r.qs.length q3) (.slice g4 r.gs.length q4) (w4.alloc (.cells #[.string m.nm, .bool m.up, .int .i64 m.ck, .bool m.kn, .int .i64 m.se, .slice (some ⟨e1, 0, none⟩) m.ws.length m.ws.length, .slice (some ⟨e2, 0, none⟩) m.rs.length m.rs.length, .slice (some ⟨e3, 0, none⟩) m.qs.length m.qs.length, .slice (some ⟨e4, 0, none⟩) m.gs.length m.gs.length] 27)).heap.size) := (M14.out).keep c
  clear C14 A14 V14 W14 Z14 M14
  clear c
  go_wp2_with fail
  refine (implFall mach m f1 f2 f3 f4 _ (lists_of hL4) hf).mono ?_
  rintro e w13 ⟨⟨r', s1, s2, s3, s4, rfl, hr, R⟩, c⟩
  have hrr : r = r' := Falls.one Hr.out hr
  subst hrr
  obtain ⟨t1, u1, hs1⟩ := W.Sl.shape R.a1
  subst hs1
  obtain ⟨t2, u2, hs2⟩ := Sl.shape R.a2
  subst hs2
  obtain ⟨t3, u3, hs3⟩ := A.Sl.shape R.a3
  subst hs3
  obtain ⟨t4, u4, hs4⟩ := A.Sl.shape R.a4
  subst hs4
  have C16 : Hid (Below w.heap.size w w13) := bl_trans C15.out c
  have A16 : Hid (Bx w13 w.heap.size #[.string m.nm, .bool m.up, .int .i64 m.ck, .bool m.kn, .int .i64 m.se, v1, v2, v3, v4]) := (A15.out).keep c
  have V16 : Hid (SlM w13 r (.slice a1 r.ws.length p1) (.slice a2 r.rs.length p2) (.slice a3 r.qs.length p3) (.slice a4 r.gs.length p4) w2.heap.size) := (V15.out).keep c
  have W16 : Hid (Bx w13 w3.heap.size #[.string r.nm, .bool r.up, .int .i64 r.ck, .bool r.kn, .int .i64 r.se, .slice a1 r.ws.length p1, .slice a2 r.rs.length p2, .slice a3 r.qs.length p3, .slice a4 r.gs.length p4]) := (W15.out).keep c
  have Z16 : Hid (Bx w13 w5.heap.size #[.string r.nm, .bool r.up, .int .i64 r.ck, .bool r.kn, .int .i64 r.se, .slice g1 r.ws.length q1, .slice g2 r.rs.length q2, .slice g3 r.qs.length q3, .slice g4 r.gs.length q4]) := (Z15.out).keep c
  have M16 : Hid (SlM w13 (markM r 1) (.slice g1 r.ws.length q1) (.slice g2 r.rs.length q2) (.slice g3 r.qs.length q3) (.slice g4 r.gs.length q4) (w4.alloc (.cells #[.string m.nm, .bool m.up, .int .i64 m.ck, .bool m.kn, .int .i64 m.se, .slice (some ⟨e1, 0, none⟩) m.ws.length m.ws.length, .slice (some ⟨e2, 0, none⟩) m.rs.length m.rs.length, .slice (some ⟨e3, 0, none⟩) m.qs.length m.qs.length, .slice (some ⟨e4, 0, none⟩) m.gs.length m.gs.length] 27)).heap.size) := (M15.out).keep c
  clear C15 A15 V15 W15 Z15 M15
  have H16 : Hid (SlM w13 r (.slice t1 r.ws.length u1) (.slice t2 r.rs.length u2) (.slice t3 r.qs.length u3) (.slice t4 r.gs.length u4) w12.heap.size) := R
  clear c R hr hL4
  have C17 : Hid (Below w.heap.size w (w13.alloc (.cells #[.string r.nm, .bool r.up, .int .i64 r.ck, .bool r.kn, .int .i64 r.se, .slice t1 r.ws.length u1, .slice t2 r.rs.length u2, .slice t3 r.qs.length u3, .slice t4 r.gs.length u4] 27))) := bl_trans C16.out (bl_alloc (Below.refl _ _) _)
  have A17 : Hid (Bx (w13.alloc (.cells #[.string r.nm, .bool r.up, .int .i64 r.ck, .bool r.kn, .int .i64 r.se, .slice t1 r.ws.length u1, .slice t2 r.rs.length u2, .slice t3 r.qs.length u3, .slice t4 r.gs.length u4] 27)) w.heap.size #[.string m.nm, .bool m.up, .int .i64 m.ck, .bool m.kn, .int .i64 m.se, v1, v2, v3, v4]) := (A16.out).keep (bl_alloc (Below.refl _ _) _)
  have V17 : Hid (SlM (w13.alloc (.cells #[.string r.nm, .bool r.up, .int .i64 r.ck, .bool r.kn, .int .i64 r.se, .slice t1 r.ws.length u1, .slice t2 r.rs.length u2, .slice t3 r.qs.length u3, .slice t4 r.gs.length u4] 27)) r (.slice a1 r.ws.length p1) (.slice a2 r.rs.length p2) (.slice a3 r.qs.length p3) (.slice a4 r.gs.length p4) w2.heap.size) := (V16.out).keep (bl_alloc (Below.refl _ _) _)
  have W17 : Hid (Bx (w13.alloc (.cells #[.string r.nm, .bool r.up, .int .i64 r.ck, .bool r.kn, .int .i64 r.se, .slice t1 r.ws.length u1, .slice t2 r.rs.length u2, .slice t3 r.qs.length u3, .slice t4 r.gs.length u4] 27)) w3.heap.size #[.string r.nm, .bool r.up, .int .i64 r.ck, .bool r.kn, .int .i64 r.se, .slice a1 r.ws.length p1, .slice a2 r.rs.length p2, .slice a3 r.qs.length p3, .slice a4 r.gs.length p4]) := (W16.out).keep (bl_alloc (Below.refl _ _) _)
  have Z17 : Hid (Bx (w13.alloc (.cells #[.string r.nm, .bool r.up, .int .i64 r.ck, .bool r.kn, .int .i64 r.se, .slice t1 r.ws.length u1, .slice t2 r.rs.length u2, .slice t3 r.qs.length u3, .slice t4 r.gs.length u4] 27)) w5.heap.size #[.string r.nm, .bool r.up, .int .i64 r.ck, .bool r.kn, .int .i64 r.se, .slice g1 r.ws.length q1, .slice g2 r.rs.length q2, .slice g3 r.qs.length q3, .slice g4 r.gs.length q4]) := (Z16.out).keep (bl_alloc (Below.refl _ _) _)
  have M17 : Hid (SlM (w13.alloc (.cells #[.string r.nm, .bool r.up, .int .i64 r.ck, .bool r.kn, .int .i64 r.se, .slice t1 r.ws.length u1, .slice t2 r.rs.length u2, .slice t3 r.qs.length u3, .slice t4 r.gs.length u4] 27)) (markM r 1) (.slice g1 r.ws.length q1) (.slice g2 r.rs.length q2) (.slice g3 r.qs.length q3) (.slice g4 r.gs.length q4) (w4.alloc (.cells #[.string m.nm, .bool m.up, .int .i64 m.ck, .bool m.kn, .int .i64 m.se, .slice (some ⟨e1, 0, none⟩) m.ws.length m.ws.length, .slice (some ⟨e2, 0, none⟩) m.rs.length m.rs.length, .slice (some ⟨e3, 0, none⟩) m.qs.length m.qs.length, .slice (some ⟨e4, 0, none⟩) m.gs.length m.gs.length] 27)).heap.size) := (M16.out).keep (bl_alloc (Below.refl _ _) _)
  have H17 : Hid (SlM (w13.alloc (.cells #[.string r.nm, .bool r.up, .int .i64 r.ck, .bool r.kn, .int .i64 r.se, .slice t1 r.ws.length u1, .slice t2 r.rs.length u2, .slice t3 r.qs.length u3, .slice t4 r.gs.length u4] 27)) r (.slice t1 r.ws.length u1) (.slice t2 r.rs.length u2) (.slice t3 r.qs.length u3) (.slice t4 r.gs.length u4) w12.heap.size) := (H16.out).keep (bl_alloc (Below.refl _ _) _)
  clear C16 A16 V16 W16 Z16 M16 H16
  have kw := W17.out.c
  go_wp2_with fail
  refine (eqMate_sl r _ _ _ _ _ _ _ _ _ _ _ H17.out V17.out Lr.out).mono ?_
  rintro e w14 ⟨rfl, c⟩
  clear kw
  have C18 : Hid (Below w.heap.size w w14) := bl_trans C17.out c
  have A18 : Hid (Bx w14 w.heap.size #[.string m.nm, .bool m.up, .int .i64 m.ck, .bool m.kn, .int .i64 m.se, v1, v2, v3, v4]) := (A17.out).keep c
  have V18 : Hid (SlM w14 r (.slice a1 r.ws.length p1) (.slice a2 r.rs.length p2) (.slice a3 r.qs.length p3) (.slice a4 r.gs.length p4) w2.heap.size) := (V17.out).keep c
  have W18 : Hid (Bx w14 w3.heap.size #[.string r.nm, .bool r.up, .int .i64 r.ck, .bool r.kn, .int .i64 r.se, .slice a1 r.ws.length p1, .slice a2 r.rs.length p2, .slice a3 r.qs.length p3, .slice a4 r.gs.length p4]) := (W17.out).keep c
  have Z18 : Hid (Bx w14 w5.heap.size #[.string r.nm, .bool r.up, .int .i64 r.ck, .bool r.kn, .int .i64 r.se, .slice g1 r.ws.length q1, .slice g2 r.rs.length q2, .slice g3 r.qs.length q3, .slice g4 r.gs.length q4]) := (Z17.out).keep c
  have M18 : Hid (SlM w14 (markM r 1) (.slice g1 r.ws.length q1) (.slice g2 r.rs.length q2) (.slice g3 r.qs.length q3) (.slice g4 r.gs.length q4) (w4.alloc (.cells #[.string m.nm, .bool m.up, .int .i64 m.ck, .bool m.kn, .int .i64 m.se, .slice (some ⟨e1, 0, none⟩) m.ws.length m.ws.length, .slice (some ⟨e2, 0, none⟩) m.rs.length m.rs.length, .slice (some ⟨e3, 0, none⟩) m.qs.length m.qs.length, .slice (some ⟨e4, 0, none⟩) m.gs.length m.gs.length] 27)).heap.size) := (M17.out).keep c
  have H18 : Hid (SlM w14 r (.slice t1 r.ws.length u1) (.slice t2 r.rs.length u2) (.slice t3 r.qs.length u3) (.slice t4 r.gs.length u4) w12.heap.size) := (H17.out).keep c
  clear C17 A17 V17 W17 Z17 M17 H17
  clear c
  have kz := Z18.out.c
  go_wp2_with fail
  refine (heldMate_sl r _ _ _ _ _ 1 _ M18.out Lr.out (by omega) (by omega)).mono ?_
  rintro e w15 ⟨he, c⟩
  rw [← Hm.out] at he
  subst he
  clear kz
  have C19 : Hid (Below w.heap.size w w15) := bl_trans C18.out c
  have A19 : Hid (Bx w15 w.heap.size #[.string m.nm, .bool m.up, .int .i64 m.ck, .bool m.kn, .int .i64 m.se, v1, v2, v3, v4]) := (A18.out).keep c
  have V19 : Hid (SlM w15 r (.slice a1 r.ws.length p1) (.slice a2 r.rs.length p2) (.slice a3 r.qs.length p3) (.slice a4 r.gs.length p4) w2.heap.size) := (V18.out).keep c
  have W19 : Hid (Bx w15 w3.heap.size #[.string r.nm, .bool r.up, .int .i64 r.ck, .bool r.kn, .int .i64 r.se, .slice a1 r.ws.length p1, .slice a2 r.rs.length p2, .slice a3 r.qs.length p3, .slice a4 r.gs.length p4]) := (W18.out).keep c
  have Z19 : Hid (Bx w15 w5.heap.size #[.string r.nm, .bool r.up, .int .i64 r.ck, .bool r.kn, .int .i64 r.se, .slice g1 r.ws.length q1, .slice g2 r.rs.length q2, .slice g3 r.qs.length q3, .slice g4 r.gs.length q4]) := (Z18.out).keep c
  have M19 : Hid (SlM w15 (markM r 1) (.slice g1 r.ws.length q1) (.slice g2 r.rs.length q2) (.slice g3 r.qs.length q3) (.slice g4 r.gs.length q4) (w4.alloc (.cells #[.string m.nm, .bool m.up, .int .i64 m.ck, .bool m.kn, .int .i64 m.se, .slice (some ⟨e1, 0, none⟩) m.ws.length m.ws.length, .slice (some ⟨e2, 0, none⟩) m.rs.length m.rs.length, .slice (some ⟨e3, 0, none⟩) m.qs.length m.qs.length, .slice (some ⟨e4, 0, none⟩) m.gs.length m.gs.length] 27)).heap.size) := (M18.out).keep c
  have H19 : Hid (SlM w15 r (.slice t1 r.ws.length u1) (.slice t2 r.rs.length u2) (.slice t3 r.qs.length u3) (.slice t4 r.gs.length u4) w12.heap.size) := (H18.out).keep c
  clear C18 A18 V18 W18 Z18 M18 H18
  clear c
  go_wp2
  go_ret
  exact ⟨rfl, C19.out⟩
end Go.Proofs.Ytkebokkckmgloaa
