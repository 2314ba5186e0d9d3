import Derived.Test.YtkebokkckmgloaaJ37
import Derived.Test.YtkebokkckmgloaaJ29
import Derived.Test.YtkebokkckmgloaaJ38
import Derived.Test.YtkebokkckmgloaaJ39
import Derived.Test.YtkebokkckmgloaaJ40
import Derived.Test.YtkebokkckmgloaaJ01
import Derived.Test.YtkebokkckmgloaaJ19
import Derived.Test.YtkebokkckmgloaaJ18
import Derived.Deep.RegionWith
import Derived.Deep.DeepCutAuto
import Derived.Deep.RegionHeld3
import Derived.Laws.Pointers
import Derived.StillTactics
/- FnFalls: the law's walk, given what is drawn. -/
namespace Go.Proofs.Ytkebokkckmgloaa
open Go.RowKit
set_option linter.unusedVariables false

/-- What DrawMateFall answers. -/
def DrawFallOk : Prop := ∀ (sl : Option Addr) (n cap : Nat) (zs : List Int) (w : World), CodeIn w sl n zs → n ≤ 1048576 → n ≤ cap →
  Calls Try.prog 14 #[.slice sl n cap] w fun e w' => ∃ (m : MateD) (x1 x2 x3 x4 : Option Addr) (n1 n2 n3 n4 : Nat) (mach : Bool), e = .returned (.tuple #[.agg #[.string m.nm, .bool m.up, .int .i64 m.ck, .bool m.kn, .int .i64 m.se, .slice x1 m.ws.length n1, .slice x2 m.rs.length n2, .slice x3 m.qs.length n3, .slice x4 m.gs.length n4], .bool mach]) ∧ SrcM w' m x1 x2 x3 x4 n1 n2 n3 n4 ∧ m.fits ∧ Below w.heap.size w w'
theorem fits_fell {mach : Bool} {m f : MateD} (h : m.fits) (hF : Falls mach m f) : f.fits := by
  rcases hF with ⟨-, rfl⟩ | ⟨-, rfl⟩
  · refine ⟨h.n, (fun r hr => by cases hr), ?_, (fun r hr => by cases hr), (fun r hr => by cases hr), Nat.zero_le _, Nat.le_trans (fallR_len _ _) h.k2, Nat.zero_le _, Nat.zero_le _⟩
    intro r hr
    have hr : r ∈ fallR mach m.rs := hr
    unfold fallR at hr
    split at hr
    · obtain ⟨y, hy, rfl⟩ := List.mem_map.1 hr
      have := h.f2 y (List.mem_filter.1 (List.mem_filter.1 hy).1).1
      exact ⟨this.1, this.2.1, by show (0 : Int) ≤ 9223372036854775807; omega, this.2.2.2⟩
    · exact h.f2 r (List.mem_filter.1 hr).1
  · exact ⟨Nat.zero_le _, (fun r hr => by cases hr), (fun r hr => by cases hr), (fun r hr => by cases hr), (fun r hr => by cases hr), Nat.zero_le _, Nat.zero_le _, Nat.zero_le _, Nat.zero_le _⟩
theorem fits_rose {f r : MateD} (h : f.fits) (hR : Rises f r) : r.fits := by
  rcases hR with ⟨-, rfl⟩ | ⟨-, rfl⟩
  · exact ⟨h.n, h.f1, h.f2, h.f3, h.f4, h.k1, h.k2, h.k3, h.k4⟩
  · exact ⟨Nat.zero_le _, (fun r hr => by cases hr), (fun r hr => by cases hr), (fun r hr => by cases hr), (fun r hr => by cases hr), Nat.zero_le _, Nat.zero_le _, Nat.zero_le _, Nat.zero_le _⟩
theorem MateD.fits.lens {m : MateD} (h : m.fits) : Lens m := ⟨h.k1, h.k2, h.k3, h.k4⟩
theorem no_wants {mach : Bool} {m f : MateD} (hF : Falls mach m f) : f.ws = [] := by
  rcases hF with ⟨-, rfl⟩ | ⟨-, rfl⟩ <;> rfl
theorem no_wants2 {f r : MateD} (h : f.ws = []) (hR : Rises f r) : r.ws = [] := by
  rcases hR with ⟨-, rfl⟩ | ⟨-, rfl⟩
  · exact h
  · rfl
theorem src_of {w : World} {f : MateD} {t1 t2 t3 t4 : Option Addr} {u1 u2 u3 u4 B : Nat} (h : SlM w f (.slice t1 f.ws.length u1) (.slice t2 f.rs.length u2) (.slice t3 f.qs.length u3) (.slice t4 f.gs.length u4) B) (hw : f.ws = []) : SrcM w f t1 t2 t3 t4 u1 u2 u3 u4 :=
  ⟨h.a1.src, h.a2.src, h.a3.src, h.a4.src, by rw [hw]; exact Nat.zero_le _⟩

set_option maxRecDepth 4000 in
set_option maxHeartbeats 8000000 in
theorem lawFalls (hdraw : DrawFallOk) (sl : Option Addr) (n cap : Nat) (zs : List Int) (w : World) (hz : CodeIn w sl n zs) (hcap : n ≤ cap) :
    Calls Try.prog 3 #[.slice sl n cap] w fun e w' => e = .returned (.bool true) ∧ Below w.heap.size w w' := by
  have HZ : Hid (CodeIn w sl n zs) := hz
  clear hz
  have HDr : Hid DrawFallOk := hdraw
  clear hdraw
  by_cases hn : n ≤ 1048576
  case neg =>
    go_enter Try.func3, Try.ntmps3
    go_wp2
    go_ret
    exact ⟨rfl, Below.refl _ _⟩
  go_enter Try.func3, Try.ntmps3
  go_wp2_with fail
  refine (HDr.out sl n cap zs w HZ.out hn hcap).mono ?_
  rintro e w1 ⟨m, x1, x2, x3, x4, n1, n2, n3, n4, mach, rfl, hS, hf, c⟩
  have Hf : Hid m.fits := hf
  clear hf
  have C0 : Hid (Below w.heap.size w w1) := c
  have M0 : Hid (SrcM w1 m x1 x2 x3 x4 n1 n2 n3 n4) := hS
  clear c hS
  have C1 : Hid (Below w.heap.size w (w1.alloc (.cells #[.string m.nm, .bool m.up, .int .i64 m.ck, .bool m.kn, .int .i64 m.se, .slice x1 m.ws.length n1, .slice x2 m.rs.length n2, .slice x3 m.qs.length n3, .slice x4 m.gs.length n4] 27))) := bl_trans C0.out (bl_alloc (Below.refl _ _) _)
  have M1 : Hid (SrcM (w1.alloc (.cells #[.string m.nm, .bool m.up, .int .i64 m.ck, .bool m.kn, .int .i64 m.se, .slice x1 m.ws.length n1, .slice x2 m.rs.length n2, .slice x3 m.qs.length n3, .slice x4 m.gs.length n4] 27)) m x1 x2 x3 x4 n1 n2 n3 n4) := (M0.out).keep (bl_alloc (Below.refl _ _) _)
  clear C0 M0
  have A1 : Hid (Lx (w1.alloc (.cells #[.string m.nm, .bool m.up, .int .i64 m.ck, .bool m.kn, .int .i64 m.se, .slice x1 m.ws.length n1, .slice x2 m.rs.length n2, .slice x3 m.qs.length n3, .slice x4 m.gs.length n4] 27)) w1.heap.size #[.string m.nm, .bool m.up, .int .i64 m.ck, .bool m.kn, .int .i64 m.se, .slice x1 m.ws.length n1, .slice x2 m.rs.length n2, .slice x3 m.qs.length n3, .slice x4 m.gs.length n4]) := Lx.new _ _ _
  go_wp2_with fail
  refine (implFallX mach m x1 x2 x3 x4 n1 n2 n3 n4 _ M1.out Hf.out).mono ?_
  rintro e w2 ⟨⟨f, v1, v2, v3, v4, rfl, hF, R⟩, c⟩
  obtain ⟨t1, u1, hs1⟩ := W.Sl.shape R.a1
  subst hs1
  obtain ⟨t2, u2, hs2⟩ := Sl.shape R.a2
  subst hs2
  obtain ⟨t3, u3, hs3⟩ := A.Sl.shape R.a3
  subst hs3
  obtain ⟨t4, u4, hs4⟩ := A.Sl.shape R.a4
  subst hs4
  have HF : Hid (Falls mach m f) := hF
  have Ff : Hid f.fits := fits_fell Hf.out hF
  have Fw : Hid (f.ws = []) := no_wants hF
  clear hF
  have C2 : Hid (Below w.heap.size w w2) := bl_trans C1.out c
  have M2 : Hid (SrcM w2 m x1 x2 x3 x4 n1 n2 n3 n4) := (M1.out).keep c
  have A2 : Hid (Lx w2 w1.heap.size #[.string m.nm, .bool m.up, .int .i64 m.ck, .bool m.kn, .int .i64 m.se, .slice x1 m.ws.length n1, .slice x2 m.rs.length n2, .slice x3 m.qs.length n3, .slice x4 m.gs.length n4]) := (A1.out).keep c
  clear C1 M1 A1
  have F2 : Hid (SlM w2 f (.slice t1 f.ws.length u1) (.slice t2 f.rs.length u2) (.slice t3 f.qs.length u3) (.slice t4 f.gs.length u4) (w1.alloc (.cells #[.string m.nm, .bool m.up, .int .i64 m.ck, .bool m.kn, .int .i64 m.se, .slice x1 m.ws.length n1, .slice x2 m.rs.length n2, .slice x3 m.qs.length n3, .slice x4 m.gs.length n4] 27)).heap.size) := R
  clear c R
  have C3 : Hid (Below w.heap.size w (w2.alloc (.cells #[.string f.nm, .bool f.up, .int .i64 f.ck, .bool f.kn, .int .i64 f.se, .slice t1 f.ws.length u1, .slice t2 f.rs.length u2, .slice t3 f.qs.length u3, .slice t4 f.gs.length u4] 27))) := bl_trans C2.out (bl_alloc (Below.refl _ _) _)
  have M3 : Hid (SrcM (w2.alloc (.cells #[.string f.nm, .bool f.up, .int .i64 f.ck, .bool f.kn, .int .i64 f.se, .slice t1 f.ws.length u1, .slice t2 f.rs.length u2, .slice t3 f.qs.length u3, .slice t4 f.gs.length u4] 27)) m x1 x2 x3 x4 n1 n2 n3 n4) := (M2.out).keep (bl_alloc (Below.refl _ _) _)
  have A3 : Hid (Lx (w2.alloc (.cells #[.string f.nm, .bool f.up, .int .i64 f.ck, .bool f.kn, .int .i64 f.se, .slice t1 f.ws.length u1, .slice t2 f.rs.length u2, .slice t3 f.qs.length u3, .slice t4 f.gs.length u4] 27)) w1.heap.size #[.string m.nm, .bool m.up, .int .i64 m.ck, .bool m.kn, .int .i64 m.se, .slice x1 m.ws.length n1, .slice x2 m.rs.length n2, .slice x3 m.qs.length n3, .slice x4 m.gs.length n4]) := (A2.out).keep (bl_alloc (Below.refl _ _) _)
  have F3 : Hid (SlM (w2.alloc (.cells #[.string f.nm, .bool f.up, .int .i64 f.ck, .bool f.kn, .int .i64 f.se, .slice t1 f.ws.length u1, .slice t2 f.rs.length u2, .slice t3 f.qs.length u3, .slice t4 f.gs.length u4] 27)) f (.slice t1 f.ws.length u1) (.slice t2 f.rs.length u2) (.slice t3 f.qs.length u3) (.slice t4 f.gs.length u4) (w1.alloc (.cells #[.string m.nm, .bool m.up, .int .i64 m.ck, .bool m.kn, .int .i64 m.se, .slice x1 m.ws.length n1, .slice x2 m.rs.length n2, .slice x3 m.qs.length n3, .slice x4 m.gs.length n4] 27)).heap.size) := (F2.out).keep (bl_alloc (Below.refl _ _) _)
  clear C2 M2 A2 F2
  have B3 : Hid (Lx (w2.alloc (.cells #[.string f.nm, .bool f.up, .int .i64 f.ck, .bool f.kn, .int .i64 f.se, .slice t1 f.ws.length u1, .slice t2 f.rs.length u2, .slice t3 f.qs.length u3, .slice t4 f.gs.length u4] 27)) w2.heap.size #[.string f.nm, .bool f.up, .int .i64 f.ck, .bool f.kn, .int .i64 f.se, .slice t1 f.ws.length u1, .slice t2 f.rs.length u2, .slice t3 f.qs.length u3, .slice t4 f.gs.length u4]) := Lx.new _ _ _
  go_wp2_with fail
  refine (implRiseX f t1 t2 t3 t4 u1 u2 u3 u4 _ (src_of F3.out Fw.out) Ff.out).mono ?_
  rintro e w3 ⟨⟨r, v1, v2, v3, v4, rfl, hR, R⟩, c⟩
  obtain ⟨p1, q1, hs1⟩ := W.Sl.shape R.a1
  subst hs1
  obtain ⟨p2, q2, hs2⟩ := Sl.shape R.a2
  subst hs2
  obtain ⟨p3, q3, hs3⟩ := A.Sl.shape R.a3
  subst hs3
  obtain ⟨p4, q4, hs4⟩ := A.Sl.shape R.a4
  subst hs4
  have HR : Hid (Rises f r) := hR
  have Rf : Hid r.fits := fits_rose Ff.out hR
  have Rw : Hid (r.ws = []) := no_wants2 Fw.out hR
  clear hR
  have C4 : Hid (Below w.heap.size w w3) := bl_trans C3.out c
  have M4 : Hid (SrcM w3 m x1 x2 x3 x4 n1 n2 n3 n4) := (M3.out).keep c
  have A4 : Hid (Lx w3 w1.heap.size #[.string m.nm, .bool m.up, .int .i64 m.ck, .bool m.kn, .int .i64 m.se, .slice x1 m.ws.length n1, .slice x2 m.rs.length n2, .slice x3 m.qs.length n3, .slice x4 m.gs.length n4]) := (A3.out).keep c
  have F4 : Hid (SlM w3 f (.slice t1 f.ws.length u1) (.slice t2 f.rs.length u2) (.slice t3 f.qs.length u3) (.slice t4 f.gs.length u4) (w1.alloc (.cells #[.string m.nm, .bool m.up, .int .i64 m.ck, .bool m.kn, .int .i64 m.se, .slice x1 m.ws.length n1, .slice x2 m.rs.length n2, .slice x3 m.qs.length n3, .slice x4 m.gs.length n4] 27)).heap.size) := (F3.out).keep c
  have B4 : Hid (Lx w3 w2.heap.size #[.string f.nm, .bool f.up, .int .i64 f.ck, .bool f.kn, .int .i64 f.se, .slice t1 f.ws.length u1, .slice t2 f.rs.length u2, .slice t3 f.qs.length u3, .slice t4 f.gs.length u4]) := (B3.out).keep c
  clear C3 M3 A3 F3 B3
  have R4 : Hid (SlM w3 r (.slice p1 r.ws.length q1) (.slice p2 r.rs.length q2) (.slice p3 r.qs.length q3) (.slice p4 r.gs.length q4) (w2.alloc (.cells #[.string f.nm, .bool f.up, .int .i64 f.ck, .bool f.kn, .int .i64 f.se, .slice t1 f.ws.length u1, .slice t2 f.rs.length u2, .slice t3 f.qs.length u3, .slice t4 f.gs.length u4] 27)).heap.size) := R
  clear c R
  have C5 : Hid (Below w.heap.size w (w3.alloc (.cells #[.string r.nm, .bool r.up, .int .i64 r.ck, .bool r.kn, .int .i64 r.se, .slice p1 r.ws.length q1, .slice p2 r.rs.length q2, .slice p3 r.qs.length q3, .slice p4 r.gs.length q4] 27))) := bl_trans C4.out (bl_alloc (Below.refl _ _) _)
  have M5 : Hid (SrcM (w3.alloc (.cells #[.string r.nm, .bool r.up, .int .i64 r.ck, .bool r.kn, .int .i64 r.se, .slice p1 r.ws.length q1, .slice p2 r.rs.length q2, .slice p3 r.qs.length q3, .slice p4 r.gs.length q4] 27)) m x1 x2 x3 x4 n1 n2 n3 n4) := (M4.out).keep (bl_alloc (Below.refl _ _) _)
  have A5 : Hid (Lx (w3.alloc (.cells #[.string r.nm, .bool r.up, .int .i64 r.ck, .bool r.kn, .int .i64 r.se, .slice p1 r.ws.length q1, .slice p2 r.rs.length q2, .slice p3 r.qs.length q3, .slice p4 r.gs.length q4] 27)) w1.heap.size #[.string m.nm, .bool m.up, .int .i64 m.ck, .bool m.kn, .int .i64 m.se, .slice x1 m.ws.length n1, .slice x2 m.rs.length n2, .slice x3 m.qs.length n3, .slice x4 m.gs.length n4]) := (A4.out).keep (bl_alloc (Below.refl _ _) _)
  have F5 : Hid (SlM (w3.alloc (.cells #[.string r.nm, .bool r.up, .int .i64 r.ck, .bool r.kn, .int .i64 r.se, .slice p1 r.ws.length q1, .slice p2 r.rs.length q2, .slice p3 r.qs.length q3, .slice p4 r.gs.length q4] 27)) f (.slice t1 f.ws.length u1) (.slice t2 f.rs.length u2) (.slice t3 f.qs.length u3) (.slice t4 f.gs.length u4) (w1.alloc (.cells #[.string m.nm, .bool m.up, .int .i64 m.ck, .bool m.kn, .int .i64 m.se, .slice x1 m.ws.length n1, .slice x2 m.rs.length n2, .slice x3 m.qs.length n3, .slice x4 m.gs.length n4] 27)).heap.size) := (F4.out).keep (bl_alloc (Below.refl _ _) _)
  have B5 : Hid (Lx (w3.alloc (.cells #[.string r.nm, .bool r.up, .int .i64 r.ck, .bool r.kn, .int .i64 r.se, .slice p1 r.ws.length q1, .slice p2 r.rs.length q2, .slice p3 r.qs.length q3, .slice p4 r.gs.length q4] 27)) w2.heap.size #[.string f.nm, .bool f.up, .int .i64 f.ck, .bool f.kn, .int .i64 f.se, .slice t1 f.ws.length u1, .slice t2 f.rs.length u2, .slice t3 f.qs.length u3, .slice t4 f.gs.length u4]) := (B4.out).keep (bl_alloc (Below.refl _ _) _)
  have R5 : Hid (SlM (w3.alloc (.cells #[.string r.nm, .bool r.up, .int .i64 r.ck, .bool r.kn, .int .i64 r.se, .slice p1 r.ws.length q1, .slice p2 r.rs.length q2, .slice p3 r.qs.length q3, .slice p4 r.gs.length q4] 27)) r (.slice p1 r.ws.length q1) (.slice p2 r.rs.length q2) (.slice p3 r.qs.length q3) (.slice p4 r.gs.length q4) (w2.alloc (.cells #[.string f.nm, .bool f.up, .int .i64 f.ck, .bool f.kn, .int .i64 f.se, .slice t1 f.ws.length u1, .slice t2 f.rs.length u2, .slice t3 f.qs.length u3, .slice t4 f.gs.length u4] 27)).heap.size) := (R4.out).keep (bl_alloc (Below.refl _ _) _)
  clear C4 M4 A4 F4 B4 R4
  have D5 : Hid (Lx (w3.alloc (.cells #[.string r.nm, .bool r.up, .int .i64 r.ck, .bool r.kn, .int .i64 r.se, .slice p1 r.ws.length q1, .slice p2 r.rs.length q2, .slice p3 r.qs.length q3, .slice p4 r.gs.length q4] 27)) w3.heap.size #[.string r.nm, .bool r.up, .int .i64 r.ck, .bool r.kn, .int .i64 r.se, .slice p1 r.ws.length q1, .slice p2 r.rs.length q2, .slice p3 r.qs.length q3, .slice p4 r.gs.length q4]) := Lx.new _ _ _
  obtain ⟨W4, hW4⟩ : ∃ W4, W4 = (w3.alloc (.cells #[.string r.nm, .bool r.up, .int .i64 r.ck, .bool r.kn, .int .i64 r.se, .slice p1 r.ws.length q1, .slice p2 r.rs.length q2, .slice p3 r.qs.length q3, .slice p4 r.gs.length q4] 27)) := ⟨_, rfl⟩
  go_wp2_with fail
  rw [← hW4]
  have C6 : Hid (Below w.heap.size w W4) := by rw [hW4]; exact C5.out
  have M6 : Hid (SrcM W4 m x1 x2 x3 x4 n1 n2 n3 n4) := by rw [hW4]; exact M5.out
  have A6 : Hid (Lx W4 w1.heap.size #[.string m.nm, .bool m.up, .int .i64 m.ck, .bool m.kn, .int .i64 m.se, .slice x1 m.ws.length n1, .slice x2 m.rs.length n2, .slice x3 m.qs.length n3, .slice x4 m.gs.length n4]) := by rw [hW4]; exact A5.out
  have F6 : Hid (SlM W4 f (.slice t1 f.ws.length u1) (.slice t2 f.rs.length u2) (.slice t3 f.qs.length u3) (.slice t4 f.gs.length u4) (w1.alloc (.cells #[.string m.nm, .bool m.up, .int .i64 m.ck, .bool m.kn, .int .i64 m.se, .slice x1 m.ws.length n1, .slice x2 m.rs.length n2, .slice x3 m.qs.length n3, .slice x4 m.gs.length n4] 27)).heap.size) := by rw [hW4]; exact F5.out
  have B6 : Hid (Lx W4 w2.heap.size #[.string f.nm, .bool f.up, .int .i64 f.ck, .bool f.kn, .int .i64 f.se, .slice t1 f.ws.length u1, .slice t2 f.rs.length u2, .slice t3 f.qs.length u3, .slice t4 f.gs.length u4]) := by rw [hW4]; exact B5.out
  have R6 : Hid (SlM W4 r (.slice p1 r.ws.length q1) (.slice p2 r.rs.length q2) (.slice p3 r.qs.length q3) (.slice p4 r.gs.length q4) (w2.alloc (.cells #[.string f.nm, .bool f.up, .int .i64 f.ck, .bool f.kn, .int .i64 f.se, .slice t1 f.ws.length u1, .slice t2 f.rs.length u2, .slice t3 f.qs.length u3, .slice t4 f.gs.length u4] 27)).heap.size) := by rw [hW4]; exact R5.out
  have D6 : Hid (Lx W4 w3.heap.size #[.string r.nm, .bool r.up, .int .i64 r.ck, .bool r.kn, .int .i64 r.se, .slice p1 r.ws.length q1, .slice p2 r.rs.length q2, .slice p3 r.qs.length q3, .slice p4 r.gs.length q4]) := by rw [hW4]; exact D5.out
  clear C5 M5 A5 F5 B5 R5 D5
  clear hW4
  have KB : Hid (∀ y, Below W4.heap.size W4 y → Below W4.heap.size W4 y ∧ (y.cell? ⟨w1.heap.size, 0, none⟩ = some (.string m.nm) ∧ y.cell? ⟨w1.heap.size, 1, none⟩ = some (.bool m.up) ∧ y.cell? ⟨w1.heap.size, 2, none⟩ = some (.int .i64 m.ck) ∧ y.cell? ⟨w1.heap.size, 3, none⟩ = some (.bool m.kn) ∧ y.cell? ⟨w1.heap.size, 4, none⟩ = some (.int .i64 m.se) ∧ y.cell? ⟨w1.heap.size, 5, none⟩ = some (.slice x1 m.ws.length n1) ∧ y.cell? ⟨w1.heap.size, 6, none⟩ = some (.slice x2 m.rs.length n2) ∧ y.cell? ⟨w1.heap.size, 7, none⟩ = some (.slice x3 m.qs.length n3) ∧ y.cell? ⟨w1.heap.size, 8, none⟩ = some (.slice x4 m.gs.length n4) ∧ y.cell? ⟨w2.heap.size, 0, none⟩ = some (.string f.nm) ∧ y.cell? ⟨w2.heap.size, 1, none⟩ = some (.bool f.up) ∧ y.cell? ⟨w2.heap.size, 2, none⟩ = some (.int .i64 f.ck) ∧ y.cell? ⟨w2.heap.size, 3, none⟩ = some (.bool f.kn) ∧ y.cell? ⟨w2.heap.size, 4, none⟩ = some (.int .i64 f.se) ∧ y.cell? ⟨w2.heap.size, 5, none⟩ = some (.slice t1 f.ws.length u1) ∧ y.cell? ⟨w2.heap.size, 6, none⟩ = some (.slice t2 f.rs.length u2) ∧ y.cell? ⟨w2.heap.size, 7, none⟩ = some (.slice t3 f.qs.length u3) ∧ y.cell? ⟨w2.heap.size, 8, none⟩ = some (.slice t4 f.gs.length u4) ∧ y.cell? ⟨w3.heap.size, 0, none⟩ = some (.string r.nm) ∧ y.cell? ⟨w3.heap.size, 1, none⟩ = some (.bool r.up) ∧ y.cell? ⟨w3.heap.size, 2, none⟩ = some (.int .i64 r.ck) ∧ y.cell? ⟨w3.heap.size, 3, none⟩ = some (.bool r.kn) ∧ y.cell? ⟨w3.heap.size, 4, none⟩ = some (.int .i64 r.se) ∧ y.cell? ⟨w3.heap.size, 5, none⟩ = some (.slice p1 r.ws.length q1) ∧ y.cell? ⟨w3.heap.size, 6, none⟩ = some (.slice p2 r.rs.length q2) ∧ y.cell? ⟨w3.heap.size, 7, none⟩ = some (.slice p3 r.qs.length q3) ∧ y.cell? ⟨w3.heap.size, 8, none⟩ = some (.slice p4 r.gs.length q4))) := fun y hb => ⟨hb, (A6.out.keep hb).c 0, (A6.out.keep hb).c 1, (A6.out.keep hb).c 2, (A6.out.keep hb).c 3, (A6.out.keep hb).c 4, (A6.out.keep hb).c 5, (A6.out.keep hb).c 6, (A6.out.keep hb).c 7, (A6.out.keep hb).c 8, (B6.out.keep hb).c 0, (B6.out.keep hb).c 1, (B6.out.keep hb).c 2, (B6.out.keep hb).c 3, (B6.out.keep hb).c 4, (B6.out.keep hb).c 5, (B6.out.keep hb).c 6, (B6.out.keep hb).c 7, (B6.out.keep hb).c 8, (D6.out.keep hb).c 0, (D6.out.keep hb).c 1, (D6.out.keep hb).c 2, (D6.out.keep hb).c 3, (D6.out.keep hb).c 4, (D6.out.keep hb).c 5, (D6.out.keep hb).c 6, (D6.out.keep hb).c 7, (D6.out.keep hb).c 8⟩
  have cB : Below W4.heap.size W4 W4 := Below.refl _ _
  go_region_held3 (fun y => Below W4.heap.size W4 y ∧ (y.cell? ⟨w1.heap.size, 0, none⟩ = some (.string m.nm) ∧ y.cell? ⟨w1.heap.size, 1, none⟩ = some (.bool m.up) ∧ y.cell? ⟨w1.heap.size, 2, none⟩ = some (.int .i64 m.ck) ∧ y.cell? ⟨w1.heap.size, 3, none⟩ = some (.bool m.kn) ∧ y.cell? ⟨w1.heap.size, 4, none⟩ = some (.int .i64 m.se) ∧ y.cell? ⟨w1.heap.size, 5, none⟩ = some (.slice x1 m.ws.length n1) ∧ y.cell? ⟨w1.heap.size, 6, none⟩ = some (.slice x2 m.rs.length n2) ∧ y.cell? ⟨w1.heap.size, 7, none⟩ = some (.slice x3 m.qs.length n3) ∧ y.cell? ⟨w1.heap.size, 8, none⟩ = some (.slice x4 m.gs.length n4) ∧ y.cell? ⟨w2.heap.size, 0, none⟩ = some (.string f.nm) ∧ y.cell? ⟨w2.heap.size, 1, none⟩ = some (.bool f.up) ∧ y.cell? ⟨w2.heap.size, 2, none⟩ = some (.int .i64 f.ck) ∧ y.cell? ⟨w2.heap.size, 3, none⟩ = some (.bool f.kn) ∧ y.cell? ⟨w2.heap.size, 4, none⟩ = some (.int .i64 f.se) ∧ y.cell? ⟨w2.heap.size, 5, none⟩ = some (.slice t1 f.ws.length u1) ∧ y.cell? ⟨w2.heap.size, 6, none⟩ = some (.slice t2 f.rs.length u2) ∧ y.cell? ⟨w2.heap.size, 7, none⟩ = some (.slice t3 f.qs.length u3) ∧ y.cell? ⟨w2.heap.size, 8, none⟩ = some (.slice t4 f.gs.length u4) ∧ y.cell? ⟨w3.heap.size, 0, none⟩ = some (.string r.nm) ∧ y.cell? ⟨w3.heap.size, 1, none⟩ = some (.bool r.up) ∧ y.cell? ⟨w3.heap.size, 2, none⟩ = some (.int .i64 r.ck) ∧ y.cell? ⟨w3.heap.size, 3, none⟩ = some (.bool r.kn) ∧ y.cell? ⟨w3.heap.size, 4, none⟩ = some (.int .i64 r.se) ∧ y.cell? ⟨w3.heap.size, 5, none⟩ = some (.slice p1 r.ws.length q1) ∧ y.cell? ⟨w3.heap.size, 6, none⟩ = some (.slice p2 r.rs.length q2) ∧ y.cell? ⟨w3.heap.size, 7, none⟩ = some (.slice p3 r.qs.length q3) ∧ y.cell? ⟨w3.heap.size, 8, none⟩ = some (.slice p4 r.gs.length q4)))
    (first | exact KB.out _ cB | exact KB.out _ (bl_drew cB))
    (first
     | (go_at_call 18; refine (specFallX mach m x1 x2 x3 x4 n1 n2 n3 n4 _ (M6.out.keep (by repeat (first | exact cB | refine bl_drew ?_))) Hf.out).mono ?_; rintro e y1 ⟨⟨f', v1, v2, v3, v4, rfl, hF', R'⟩, hb⟩; have hff : f = f' := Falls.one HF.out hF'; subst hff; obtain ⟨a1, b1, hs1⟩ := W.Sl.shape R'.a1; subst hs1; obtain ⟨a2, b2, hs2⟩ := Sl.shape R'.a2; subst hs2; obtain ⟨a3, b3, hs3⟩ := A.Sl.shape R'.a3; subst hs3; obtain ⟨a4, b4, hs4⟩ := A.Sl.shape R'.a4; subst hs4; have cB1 : Below W4.heap.size W4 y1 := bl_trans (by repeat (first | exact cB | refine bl_drew ?_)) hb; clear cB hb; have cB := cB1; clear cB1)
     | (go_at_call 19; refine (specRiseX f a1 a2 a3 a4 b1 b2 b3 b4 _ (src_of R' Fw.out) Ff.out).mono ?_; rintro e y2 ⟨⟨r', v1, v2, v3, v4, rfl, hR', R''⟩, hb⟩; have hrr : r = r' := Rises.one HR.out hR'; subst hrr; obtain ⟨c1, d1, hs1⟩ := W.Sl.shape R''.a1; subst hs1; obtain ⟨c2, d2, hs2⟩ := Sl.shape R''.a2; subst hs2; obtain ⟨c3, d3, hs3⟩ := A.Sl.shape R''.a3; subst hs3; obtain ⟨c4, d4, hs4⟩ := A.Sl.shape R''.a4; subst hs4; have cB1 : Below W4.heap.size W4 y2 := bl_trans (by repeat (first | exact cB | refine bl_drew ?_)) hb; clear cB hb; have cB := cB1; clear cB1)
     | (go_at_call_of 17 (Value.string f.nm); refine (wMate_same f t1 t2 t3 t4 a1 a2 a3 a4 u1 u2 u3 u4 b1 b2 b3 b4 _ _ _ (F6.out.keep (by repeat (first | exact cB | refine bl_drew ?_))) R' Ff.out.lens).mono ?_; rintro e y3 ⟨rfl, hb⟩; have cB1 : Below W4.heap.size W4 y3 := bl_trans (by repeat (first | exact cB | refine bl_drew ?_)) hb; clear cB hb; have cB := cB1; clear cB1)
     | (go_at_call_of 17 (Value.string r.nm); refine (wMate_same r p1 p2 p3 p4 c1 c2 c3 c4 q1 q2 q3 q4 d1 d2 d3 d4 _ _ _ (R6.out.keep (by repeat (first | exact cB | refine bl_drew ?_))) R'' Rf.out.lens).mono ?_; rintro e y4 ⟨rfl, hb⟩; have cB1 : Below W4.heap.size W4 y4 := bl_trans (by repeat (first | exact cB | refine bl_drew ?_)) hb; clear cB hb; have cB := cB1; clear cB1))
  obtain ⟨w5, rfl⟩ : ∃ w5, w5 = y4 := ⟨_, rfl⟩
  clear KB R' R'' hF' hR'
  have C7 : Hid (Below w.heap.size w w5) := bl_trans C6.out cB
  have M7 : Hid (SrcM w5 m x1 x2 x3 x4 n1 n2 n3 n4) := (M6.out).keep cB
  have A7 : Hid (Lx w5 w1.heap.size #[.string m.nm, .bool m.up, .int .i64 m.ck, .bool m.kn, .int .i64 m.se, .slice x1 m.ws.length n1, .slice x2 m.rs.length n2, .slice x3 m.qs.length n3, .slice x4 m.gs.length n4]) := (A6.out).keep cB
  have F7 : Hid (SlM w5 f (.slice t1 f.ws.length u1) (.slice t2 f.rs.length u2) (.slice t3 f.qs.length u3) (.slice t4 f.gs.length u4) (w1.alloc (.cells #[.string m.nm, .bool m.up, .int .i64 m.ck, .bool m.kn, .int .i64 m.se, .slice x1 m.ws.length n1, .slice x2 m.rs.length n2, .slice x3 m.qs.length n3, .slice x4 m.gs.length n4] 27)).heap.size) := (F6.out).keep cB
  have B7 : Hid (Lx w5 w2.heap.size #[.string f.nm, .bool f.up, .int .i64 f.ck, .bool f.kn, .int .i64 f.se, .slice t1 f.ws.length u1, .slice t2 f.rs.length u2, .slice t3 f.qs.length u3, .slice t4 f.gs.length u4]) := (B6.out).keep cB
  have R7 : Hid (SlM w5 r (.slice p1 r.ws.length q1) (.slice p2 r.rs.length q2) (.slice p3 r.qs.length q3) (.slice p4 r.gs.length q4) (w2.alloc (.cells #[.string f.nm, .bool f.up, .int .i64 f.ck, .bool f.kn, .int .i64 f.se, .slice t1 f.ws.length u1, .slice t2 f.rs.length u2, .slice t3 f.qs.length u3, .slice t4 f.gs.length u4] 27)).heap.size) := (R6.out).keep cB
  have D7 : Hid (Lx w5 w3.heap.size #[.string r.nm, .bool r.up, .int .i64 r.ck, .bool r.kn, .int .i64 r.se, .slice p1 r.ws.length q1, .slice p2 r.rs.length q2, .slice p3 r.qs.length q3, .slice p4 r.gs.length q4]) := (D6.out).keep cB
  clear C6 M6 A6 F6 B6 R6 D6
  clear cB
  have ka := A7.out.c
  go_wp2_with fail
  refine (specValidX m x1 x2 x3 x4 n1 n2 n3 n4 _ M7.out.lists Hf.out).mono ?_
  rintro e w6 ⟨⟨qv, rfl, hq⟩, c⟩
  clear ka
  have Hq : Hid (SaysV qv m) := hq
  clear hq
  have C8 : Hid (Below w.heap.size w w6) := bl_trans C7.out c
  have M8 : Hid (SrcM w6 m x1 x2 x3 x4 n1 n2 n3 n4) := (M7.out).keep c
  have A8 : Hid (Lx w6 w1.heap.size #[.string m.nm, .bool m.up, .int .i64 m.ck, .bool m.kn, .int .i64 m.se, .slice x1 m.ws.length n1, .slice x2 m.rs.length n2, .slice x3 m.qs.length n3, .slice x4 m.gs.length n4]) := (A7.out).keep c
  have F8 : Hid (SlM w6 f (.slice t1 f.ws.length u1) (.slice t2 f.rs.length u2) (.slice t3 f.qs.length u3) (.slice t4 f.gs.length u4) (w1.alloc (.cells #[.string m.nm, .bool m.up, .int .i64 m.ck, .bool m.kn, .int .i64 m.se, .slice x1 m.ws.length n1, .slice x2 m.rs.length n2, .slice x3 m.qs.length n3, .slice x4 m.gs.length n4] 27)).heap.size) := (F7.out).keep c
  have B8 : Hid (Lx w6 w2.heap.size #[.string f.nm, .bool f.up, .int .i64 f.ck, .bool f.kn, .int .i64 f.se, .slice t1 f.ws.length u1, .slice t2 f.rs.length u2, .slice t3 f.qs.length u3, .slice t4 f.gs.length u4]) := (B7.out).keep c
  have R8 : Hid (SlM w6 r (.slice p1 r.ws.length q1) (.slice p2 r.rs.length q2) (.slice p3 r.qs.length q3) (.slice p4 r.gs.length q4) (w2.alloc (.cells #[.string f.nm, .bool f.up, .int .i64 f.ck, .bool f.kn, .int .i64 f.se, .slice t1 f.ws.length u1, .slice t2 f.rs.length u2, .slice t3 f.qs.length u3, .slice t4 f.gs.length u4] 27)).heap.size) := (R7.out).keep c
  have D8 : Hid (Lx w6 w3.heap.size #[.string r.nm, .bool r.up, .int .i64 r.ck, .bool r.kn, .int .i64 r.se, .slice p1 r.ws.length q1, .slice p2 r.rs.length q2, .slice p3 r.qs.length q3, .slice p4 r.gs.length q4]) := (D7.out).keep c
  clear C7 M7 A7 F7 B7 R7 D7
  clear c
  cases qv
  case false =>
    have hf0 : f = zeroD := by rcases HF.out with ⟨h, -⟩ | ⟨-, h⟩; exact (saysV_false Hq.out h).elim; exact h
    have hr0 : r = zeroD := by rcases HR.out with ⟨h, -⟩ | ⟨-, h⟩; rw [hf0] at h; exact (zero_not h).elim; exact h
    have kb0 : w6.cell? ⟨w2.heap.size, 0, none⟩ = some (.string { data := #[] }) := by have h := B8.out.c 0; rw [hf0] at h; exact h
    have kd0 : w6.cell? ⟨w3.heap.size, 0, none⟩ = some (.string { data := #[] }) := by have h := D8.out.c 0; rw [hr0] at h; exact h
    clear hf0 hr0
    go_wp2
    go_ret
    exact ⟨rfl, C8.out⟩
  have Vm : Hid (Valid m) := Hq.out.1 rfl
  have Ef : Hid (f = fellD mach m) := by rcases HF.out with ⟨-, h⟩ | ⟨h, -⟩; exact h; exact (h Vm.out).elim
  have Vf : Hid (Valid f) := by show Valid f; rw [Ef.out]; exact valid_fell Vm.out
  have Er : Hid (r = { f with up := f.up || decide (f.ck < 1000000) }) := by rcases HR.out with ⟨-, h⟩ | ⟨h, -⟩; exact h; exact (h Vf.out).elim
  have Vr : Hid (Valid r) := by show Valid r; rw [Er.out, Ef.out]; exact valid_rose (valid_fell Vm.out)
  clear Hq HF HR
  have kb := B8.out.c
  go_wp2_with fail
  refine (implValidX f t1 t2 t3 t4 u1 u2 u3 u4 _ (src_of F8.out Fw.out).lists (src_of F8.out Fw.out).cap Ff.out).mono ?_
  rintro e w7 ⟨⟨qf, rfl, hq⟩, c⟩
  have hqt : qf = true := hq.2 Vf.out
  subst hqt
  clear hq
  clear kb
  have C9 : Hid (Below w.heap.size w w7) := bl_trans C8.out c
  have M9 : Hid (SrcM w7 m x1 x2 x3 x4 n1 n2 n3 n4) := (M8.out).keep c
  have A9 : Hid (Lx w7 w1.heap.size #[.string m.nm, .bool m.up, .int .i64 m.ck, .bool m.kn, .int .i64 m.se, .slice x1 m.ws.length n1, .slice x2 m.rs.length n2, .slice x3 m.qs.length n3, .slice x4 m.gs.length n4]) := (A8.out).keep c
  have F9 : Hid (SlM w7 f (.slice t1 f.ws.length u1) (.slice t2 f.rs.length u2) (.slice t3 f.qs.length u3) (.slice t4 f.gs.length u4) (w1.alloc (.cells #[.string m.nm, .bool m.up, .int .i64 m.ck, .bool m.kn, .int .i64 m.se, .slice x1 m.ws.length n1, .slice x2 m.rs.length n2, .slice x3 m.qs.length n3, .slice x4 m.gs.length n4] 27)).heap.size) := (F8.out).keep c
  have B9 : Hid (Lx w7 w2.heap.size #[.string f.nm, .bool f.up, .int .i64 f.ck, .bool f.kn, .int .i64 f.se, .slice t1 f.ws.length u1, .slice t2 f.rs.length u2, .slice t3 f.qs.length u3, .slice t4 f.gs.length u4]) := (B8.out).keep c
  have R9 : Hid (SlM w7 r (.slice p1 r.ws.length q1) (.slice p2 r.rs.length q2) (.slice p3 r.qs.length q3) (.slice p4 r.gs.length q4) (w2.alloc (.cells #[.string f.nm, .bool f.up, .int .i64 f.ck, .bool f.kn, .int .i64 f.se, .slice t1 f.ws.length u1, .slice t2 f.rs.length u2, .slice t3 f.qs.length u3, .slice t4 f.gs.length u4] 27)).heap.size) := (R8.out).keep c
  have D9 : Hid (Lx w7 w3.heap.size #[.string r.nm, .bool r.up, .int .i64 r.ck, .bool r.kn, .int .i64 r.se, .slice p1 r.ws.length q1, .slice p2 r.rs.length q2, .slice p3 r.qs.length q3, .slice p4 r.gs.length q4]) := (D8.out).keep c
  clear C8 M8 A8 F8 B8 R8 D8
  clear c
  have kd := D9.out.c
  go_wp2_with fail
  refine (implValidX r p1 p2 p3 p4 q1 q2 q3 q4 _ (src_of R9.out Rw.out).lists (src_of R9.out Rw.out).cap Rf.out).mono ?_
  rintro e w8 ⟨⟨qr, rfl, hq⟩, c⟩
  have hqt : qr = true := hq.2 Vr.out
  subst hqt
  clear hq
  clear kd
  have C10 : Hid (Below w.heap.size w w8) := bl_trans C9.out c
  have M10 : Hid (SrcM w8 m x1 x2 x3 x4 n1 n2 n3 n4) := (M9.out).keep c
  have A10 : Hid (Lx w8 w1.heap.size #[.string m.nm, .bool m.up, .int .i64 m.ck, .bool m.kn, .int .i64 m.se, .slice x1 m.ws.length n1, .slice x2 m.rs.length n2, .slice x3 m.qs.length n3, .slice x4 m.gs.length n4]) := (A9.out).keep c
  have F10 : Hid (SlM w8 f (.slice t1 f.ws.length u1) (.slice t2 f.rs.length u2) (.slice t3 f.qs.length u3) (.slice t4 f.gs.length u4) (w1.alloc (.cells #[.string m.nm, .bool m.up, .int .i64 m.ck, .bool m.kn, .int .i64 m.se, .slice x1 m.ws.length n1, .slice x2 m.rs.length n2, .slice x3 m.qs.length n3, .slice x4 m.gs.length n4] 27)).heap.size) := (F9.out).keep c
  have B10 : Hid (Lx w8 w2.heap.size #[.string f.nm, .bool f.up, .int .i64 f.ck, .bool f.kn, .int .i64 f.se, .slice t1 f.ws.length u1, .slice t2 f.rs.length u2, .slice t3 f.qs.length u3, .slice t4 f.gs.length u4]) := (B9.out).keep c
  have R10 : Hid (SlM w8 r (.slice p1 r.ws.length q1) (.slice p2 r.rs.length q2) (.slice p3 r.qs.length q3) (.slice p4 r.gs.length q4) (w2.alloc (.cells #[.string f.nm, .bool f.up, .int .i64 f.ck, .bool f.kn, .int .i64 f.se, .slice t1 f.ws.length u1, .slice t2 f.rs.length u2, .slice t3 f.qs.length u3, .slice t4 f.gs.length u4] 27)).heap.size) := (R9.out).keep c
  have D10 : Hid (Lx w8 w3.heap.size #[.string r.nm, .bool r.up, .int .i64 r.ck, .bool r.kn, .int .i64 r.se, .slice p1 r.ws.length q1, .slice p2 r.rs.length q2, .slice p3 r.qs.length q3, .slice p4 r.gs.length q4]) := (D9.out).keep c
  clear C9 M9 A9 F9 B9 R9 D9
  clear c
  have nbr := build0r
  have ka2 := A10.out.c 2
  have kb1 : w8.cell? ⟨w2.heap.size, 1, none⟩ = some (.bool false) := by have h := B10.out.c 1; rw [Ef.out] at h; exact h
  have HU : Hid (r.up = decide (m.ck < 1000000)) := by show r.up = _; rw [Er.out, Ef.out]; rfl
  obtain ⟨u9, hu9⟩ : ∃ u, decide (m.ck < 1000000) = u := ⟨_, rfl⟩
  have kd1 : w8.cell? ⟨w3.heap.size, 1, none⟩ = some (.bool u9) := by have h := D10.out.c 1; rw [← hu9, ← HU.out]; exact h
  have Hck : Hid (decide (m.ck < 1000000) = u9) := hu9
  have X8 : Hid (w8.heap.size ≤ w8.heap.size) := Nat.le_refl _
  clear hu9
  cases u9
  case false =>
    have hck : ¬ (m.ck < 1000000) := of_decide_eq_false Hck.out
    go_wp2_with fail
    clear ka2 kb1 kd1
    obtain ⟨i0, hi, hz0, hz1, hz2⟩ := info_parts infoR
    have hk2 : m.rs.length ≤ 1048576 := Hf.out.k2
    have hk3 : f.rs.length ≤ 1048576 := Ff.out.k2
    cases mach
    case true =>
      have ka := (A10.out.keep (bl_alloc (Below.refl w8.heap.size w8) (.cells #[] 38))).c 6
      obtain ⟨wc, hwc⟩ : ∃ wc, wc = w8.alloc (.cells #[] 38) := ⟨_, rfl⟩
      have HV : Hid (wc.ownsRow w8.heap.size 38 11 (.slice (some ⟨w8.heap.size, 0, none⟩) 0 0) ([] : List RunD).length (flatR ([] : List RunD))) := by rw [hwc]; exact own_made0 _ _ _
      have HV2 : Hid (Below w8.heap.size w8 wc) := by rw [hwc]; exact bl_alloc (Below.refl _ _) _
      rw [← hwc] at ka ⊢
      clear hwc
      refine wp_loop_rounds 1 ?_
      rw [rounds_succ]
      by_cases hl0 : 0 < m.rs.length
      all_goals
        have Bc : Hid (Lx wc w2.heap.size #[.string f.nm, .bool f.up, .int .i64 f.ck, .bool f.kn, .int .i64 f.se, .slice t1 f.ws.length u1, .slice t2 f.rs.length u2, .slice t3 f.qs.length u3, .slice t4 f.gs.length u4]) := B10.out.keep HV2.out
        have Gc : Hid (Gv wc t2 f.rs) := (F10.out.a2.gv).keep HV2.out
        have nbr2 := build0r
        go_wp2_with fail
        go_loopw [9, 10] (fun v i wx => ∃ (k : Nat), k ≤ f.rs.length ∧ i = .int .i64 k ∧ Hid (wx.ownsRow wc.heap.size 38 11 v ((f.rs.take k).filter (fun r => aliveB r.a)).length (flatR ((f.rs.take k).filter (fun r => aliveB r.a)))) ∧ Hid (Below wc.heap.size wc wx)) (fun _ i _ => f.rs.length - (intOf i).toNat)
        case atStart => exact ⟨0, Nat.zero_le _, rfl, own_made0 _ _ _, bl_alloc (Below.refl _ _) _⟩
        case round =>
          obtain ⟨k, hk, rfl, HO, HB⟩ := hrel
          have ka := (Bc.out.keep HB.out).c 6
          by_cases hlt : k < f.rs.length
          · obtain ⟨g, hxg, hg, hR⟩ := (Gc.out.keep HB.out).resolve_left (fun h => by rw [h] at hlt; simp at hlt)
            have hxg' := hxg
            subst hxg
            obtain ⟨z, hz⟩ : ∃ z, f.rs[k]? = some z := ⟨f.rs[k], List.getElem?_eq_getElem hlt⟩
            have Hz : Hid (f.rs[k]? = some z) := hz
            have HR9 : Hid (RowsAt wr g 0 f.rs) := hR
            obtain ⟨c0, c1, c2, c3, c4, c5, c6, c7, c8, c9, c10⟩ := hR.at hz
            simp only [Nat.zero_add] at c0 c1 c2 c3 c4 c5 c6 c7 c8 c9 c10
            clear hz hR hxg'
            obtain ⟨nn, hnn⟩ : ∃ nn, nn = ((f.rs.take k).filter (fun r => aliveB r.a)).length := ⟨_, rfl⟩
            obtain ⟨xx, hxx⟩ : ∃ xx, xx = flatR ((f.rs.take k).filter (fun r => aliveB r.a)) := ⟨_, rfl⟩
            have hnk : nn ≤ 1048576 := by rw [hnn]; exact Nat.le_trans (List.length_filter_le _ _) (by rw [List.length_take]; have := Ff.out.k2; omega)
            rw [← hnn, ← hxx] at HO
            have Hnn : Hid (nn = ((f.rs.take k).filter (fun r => aliveB r.a)).length) := hnn
            have Hxx : Hid (xx = flatR ((f.rs.take k).filter (fun r => aliveB r.a))) := hxx
            clear hnn hxx
            go_wp2_with fail
            refine (implAlive_any z.c z.h z.v z.p z.s z.d z.g z.a z.b z.i z.u _).mono ?_
            rintro e w9 ⟨rfl, b9⟩
            have HB9 : Hid (Below wc.heap.size wc w9) := bl_trans HB.out b9
            have HO9 : Hid (w9.ownsRow wc.heap.size 38 11 u9 nn xx) := owns_below HO.out b9
            clear c0 c1 c2 c3 c4 c5 c6 c7 c8 c9 c10 ka
            have ka := (Bc.out.keep HB9.out).c 6
            obtain ⟨c0, c1, c2, c3, c4, c5, c6, c7, c8, c9, c10⟩ := (HR9.out.keep hg b9).at Hz.out
            simp only [Nat.zero_add] at c0 c1 c2 c3 c4 c5 c6 c7 c8 c9 c10
            have hz9 : wc.heap.size ≤ w9.heap.size := HB9.out.size
            clear b9
            cases hal : aliveB z.a
            · go_wp2
              refine ⟨⟨k + 1, by omega, by go_num, ?_, HB9.out⟩, by simp [intOf]; omega⟩
              show w9.ownsRow _ _ _ _ _ _
              rw [filt_no Hz.out hal, ← Hnn.out, ← Hxx.out]
              exact HO9.out
            · go_wp2_with (at_builtin; refine wpList_append_own _ rfl _ _ 24 rfl wc.heap.size 38 i0 _ 11 104 Try.underlying24 hi hz0 hz1 hz2 rfl (by decide) u9 nn xx rfl (by exact owns_below HO9.out (bl_alloc (Below.refl _ _) _)) ⟨_, 0, none⟩ 1 1 z.cells rfl rfl (new_cells _ _ (by simp) _ _ _ rfl) (cellsR_one _) (by unfold maxLen; omega) (by omega) (by simp; omega) ?_; intro v' wa ho hg9 hn9)
              refine ⟨⟨k + 1, by omega, by go_num, ?_, Below.grown (bl_alloc HB9.out _) hg9 (by simp; omega) (owns_ge HO9.out)⟩, by simp [intOf]; omega⟩
              show wa.ownsRow _ _ _ _ _ _
              rw [filt_yes Hz.out hal, List.length_append, flatR_append, ← Hnn.out, ← Hxx.out]
              simpa [flatR] using ho
          · have hkl : k = f.rs.length := by omega
            subst hkl
            rw [List.take_of_length_le (Nat.le_refl _)] at HO
            have EL : Hid ((f.rs.filter (fun r => aliveB r.a)) = ([] : List RunD)) := by show (f.rs.filter (fun r => aliveB r.a)) = _; rw [Ef.out]; exact fall_lives true m.rs
            rw [EL.out] at HO
            have SL : Hid (Sl wr (.slice (some ⟨w8.heap.size, 0, none⟩) 0 0) ([] : List RunD) w8.heap.size) := Sl.of_owns (owns_below HV.out HB.out)
            have SR : Hid (Sl wr u9 ([] : List RunD) wc.heap.size) := Sl.of_owns HO.out
            have ll : ([] : List RunD).length ≤ 1048576 := Nat.zero_le _
            clear HO
            go_wp2_with fail
            refine (wEq SL.out SR.out ll).mono ?_
            rintro e wz ⟨rfl, bz⟩
            go_wp2
            go_ret
            exact ⟨rfl, bl_trans (bl_trans C10.out HV2.out) (bl_trans HB.out bz)⟩
    case false =>
      go_loopw [7, 8] (fun v i wx => ∃ (k : Nat), k ≤ m.rs.length ∧ i = .int .i64 k ∧ Hid (wx.ownsRow w8.heap.size 38 11 v ((m.rs.take k).filter (fun r => aliveB r.a)).length (flatR ((m.rs.take k).filter (fun r => aliveB r.a)))) ∧ Hid (Below w8.heap.size w8 wx)) (fun _ i _ => m.rs.length - (intOf i).toNat)
      case atStart => exact ⟨0, Nat.zero_le _, rfl, own_made0 _ _ _, bl_alloc (Below.refl _ _) _⟩
      case round =>
        obtain ⟨k, hk, rfl, HO, HB⟩ := hrel
        have ka := (A10.out.keep HB.out).c 6
        by_cases hlt : k < m.rs.length
        · obtain ⟨g, hxg, hg, hR⟩ := (M10.out.lists.r2.keep HB.out).resolve_left (fun h => by rw [h] at hlt; simp at hlt)
          have hxg' := hxg
          subst hxg
          obtain ⟨z, hz⟩ : ∃ z, m.rs[k]? = some z := ⟨m.rs[k], List.getElem?_eq_getElem hlt⟩
          have Hz : Hid (m.rs[k]? = some z) := hz
          have HR9 : Hid (RowsAt wr g 0 m.rs) := hR
          obtain ⟨c0, c1, c2, c3, c4, c5, c6, c7, c8, c9, c10⟩ := hR.at hz
          simp only [Nat.zero_add] at c0 c1 c2 c3 c4 c5 c6 c7 c8 c9 c10
          clear hz hR hxg'
          obtain ⟨nn, hnn⟩ : ∃ nn, nn = ((m.rs.take k).filter (fun r => aliveB r.a)).length := ⟨_, rfl⟩
          obtain ⟨xx, hxx⟩ : ∃ xx, xx = flatR ((m.rs.take k).filter (fun r => aliveB r.a)) := ⟨_, rfl⟩
          have hnk : nn ≤ 1048576 := by rw [hnn]; exact Nat.le_trans (List.length_filter_le _ _) (by rw [List.length_take]; have := Hf.out.k2; omega)
          rw [← hnn, ← hxx] at HO
          have Hnn : Hid (nn = ((m.rs.take k).filter (fun r => aliveB r.a)).length) := hnn
          have Hxx : Hid (xx = flatR ((m.rs.take k).filter (fun r => aliveB r.a))) := hxx
          clear hnn hxx
          go_wp2_with fail
          refine (specAlive_any z.c z.h z.v z.p z.s z.d z.g z.a z.b z.i z.u _).mono ?_
          rintro e w9 ⟨rfl, b9⟩
          have HB9 : Hid (Below w8.heap.size w8 w9) := bl_trans HB.out b9
          have HO9 : Hid (w9.ownsRow w8.heap.size 38 11 u7 nn xx) := owns_below HO.out b9
          clear c0 c1 c2 c3 c4 c5 c6 c7 c8 c9 c10 ka
          have ka := (A10.out.keep HB9.out).c 6
          obtain ⟨c0, c1, c2, c3, c4, c5, c6, c7, c8, c9, c10⟩ := (HR9.out.keep hg b9).at Hz.out
          simp only [Nat.zero_add] at c0 c1 c2 c3 c4 c5 c6 c7 c8 c9 c10
          have hz9 : w8.heap.size ≤ w9.heap.size := HB9.out.size
          clear b9
          cases hal : aliveB z.a
          · go_wp2
            refine ⟨⟨k + 1, by omega, by go_num, ?_, HB9.out⟩, by simp [intOf]; omega⟩
            show w9.ownsRow _ _ _ _ _ _
            rw [filt_no Hz.out hal, ← Hnn.out, ← Hxx.out]
            exact HO9.out
          · go_wp2_with (at_builtin; refine wpList_append_own _ rfl _ _ 24 rfl w8.heap.size 38 i0 _ 11 104 Try.underlying24 hi hz0 hz1 hz2 rfl (by decide) u7 nn xx rfl (by exact owns_below HO9.out (bl_alloc (Below.refl _ _) _)) ⟨_, 0, none⟩ 1 1 z.cells rfl rfl (new_cells _ _ (by simp) _ _ _ rfl) (cellsR_one _) (by unfold maxLen; omega) (by omega) (by simp; omega) ?_; intro v' wa ho hg9 hn9)
            refine ⟨⟨k + 1, by omega, by go_num, ?_, Below.grown (bl_alloc HB9.out _) hg9 (by simp; omega) (owns_ge HO9.out)⟩, by simp [intOf]; omega⟩
            show wa.ownsRow _ _ _ _ _ _
            rw [filt_yes Hz.out hal, List.length_append, flatR_append, ← Hnn.out, ← Hxx.out]
            simpa [flatR] using ho
        · have hkl : k = m.rs.length := by omega
          subst hkl
          rw [List.take_of_length_le (Nat.le_refl _)] at HO
          obtain ⟨wc, rfl⟩ : ∃ wc, wc = wr := ⟨_, rfl⟩
          have HV : Hid (wc.ownsRow w8.heap.size 38 11 u7 (m.rs.filter (fun r => aliveB r.a)).length (flatR (m.rs.filter (fun r => aliveB r.a)))) := HO.out
          have HV2 : Hid (Below w8.heap.size w8 wc) := HB.out
          clear HO HB
          have Bc : Hid (Lx wc w2.heap.size #[.string f.nm, .bool f.up, .int .i64 f.ck, .bool f.kn, .int .i64 f.se, .slice t1 f.ws.length u1, .slice t2 f.rs.length u2, .slice t3 f.qs.length u3, .slice t4 f.gs.length u4]) := B10.out.keep HV2.out
          have Gc : Hid (Gv wc t2 f.rs) := (F10.out.a2.gv).keep HV2.out
          have nbr2 := build0r
          go_wp2_with fail
          go_loopw [9, 10] (fun v i wx => ∃ (k : Nat), k ≤ f.rs.length ∧ i = .int .i64 k ∧ Hid (wx.ownsRow wc.heap.size 38 11 v ((f.rs.take k).filter (fun r => aliveB r.a)).length (flatR ((f.rs.take k).filter (fun r => aliveB r.a)))) ∧ Hid (Below wc.heap.size wc wx)) (fun _ i _ => f.rs.length - (intOf i).toNat)
          case atStart => exact ⟨0, Nat.zero_le _, rfl, own_made0 _ _ _, bl_alloc (Below.refl _ _) _⟩
          case round =>
            obtain ⟨k, hk, rfl, HO, HB⟩ := hrel
            have ka := (Bc.out.keep HB.out).c 6
            by_cases hlt : k < f.rs.length
            · obtain ⟨g, hxg, hg, hR⟩ := (Gc.out.keep HB.out).resolve_left (fun h => by rw [h] at hlt; simp at hlt)
              have hxg' := hxg
              subst hxg
              obtain ⟨z, hz⟩ : ∃ z, f.rs[k]? = some z := ⟨f.rs[k], List.getElem?_eq_getElem hlt⟩
              have Hz : Hid (f.rs[k]? = some z) := hz
              have HR9 : Hid (RowsAt wr g 0 f.rs) := hR
              obtain ⟨c0, c1, c2, c3, c4, c5, c6, c7, c8, c9, c10⟩ := hR.at hz
              simp only [Nat.zero_add] at c0 c1 c2 c3 c4 c5 c6 c7 c8 c9 c10
              clear hz hR hxg'
              obtain ⟨nn, hnn⟩ : ∃ nn, nn = ((f.rs.take k).filter (fun r => aliveB r.a)).length := ⟨_, rfl⟩
              obtain ⟨xx, hxx⟩ : ∃ xx, xx = flatR ((f.rs.take k).filter (fun r => aliveB r.a)) := ⟨_, rfl⟩
              have hnk : nn ≤ 1048576 := by rw [hnn]; exact Nat.le_trans (List.length_filter_le _ _) (by rw [List.length_take]; have := Ff.out.k2; omega)
              rw [← hnn, ← hxx] at HO
              have Hnn : Hid (nn = ((f.rs.take k).filter (fun r => aliveB r.a)).length) := hnn
              have Hxx : Hid (xx = flatR ((f.rs.take k).filter (fun r => aliveB r.a))) := hxx
              clear hnn hxx
              go_wp2_with fail
              refine (implAlive_any z.c z.h z.v z.p z.s z.d z.g z.a z.b z.i z.u _).mono ?_
              rintro e w9 ⟨rfl, b9⟩
              have HB9 : Hid (Below wc.heap.size wc w9) := bl_trans HB.out b9
              have HO9 : Hid (w9.ownsRow wc.heap.size 38 11 u9 nn xx) := owns_below HO.out b9
              clear c0 c1 c2 c3 c4 c5 c6 c7 c8 c9 c10 ka
              have ka := (Bc.out.keep HB9.out).c 6
              obtain ⟨c0, c1, c2, c3, c4, c5, c6, c7, c8, c9, c10⟩ := (HR9.out.keep hg b9).at Hz.out
              simp only [Nat.zero_add] at c0 c1 c2 c3 c4 c5 c6 c7 c8 c9 c10
              have hz9 : wc.heap.size ≤ w9.heap.size := HB9.out.size
              clear b9
              cases hal : aliveB z.a
              · go_wp2
                refine ⟨⟨k + 1, by omega, by go_num, ?_, HB9.out⟩, by simp [intOf]; omega⟩
                show w9.ownsRow _ _ _ _ _ _
                rw [filt_no Hz.out hal, ← Hnn.out, ← Hxx.out]
                exact HO9.out
              · go_wp2_with (at_builtin; refine wpList_append_own _ rfl _ _ 24 rfl wc.heap.size 38 i0 _ 11 104 Try.underlying24 hi hz0 hz1 hz2 rfl (by decide) u9 nn xx rfl (by exact owns_below HO9.out (bl_alloc (Below.refl _ _) _)) ⟨_, 0, none⟩ 1 1 z.cells rfl rfl (new_cells _ _ (by simp) _ _ _ rfl) (cellsR_one _) (by unfold maxLen; omega) (by omega) (by simp; omega) ?_; intro v' wa ho hg9 hn9)
                refine ⟨⟨k + 1, by omega, by go_num, ?_, Below.grown (bl_alloc HB9.out _) hg9 (by simp; omega) (owns_ge HO9.out)⟩, by simp [intOf]; omega⟩
                show wa.ownsRow _ _ _ _ _ _
                rw [filt_yes Hz.out hal, List.length_append, flatR_append, ← Hnn.out, ← Hxx.out]
                simpa [flatR] using ho
            · have hkl : k = f.rs.length := by omega
              subst hkl
              rw [List.take_of_length_le (Nat.le_refl _)] at HO
              have EL : Hid ((f.rs.filter (fun r => aliveB r.a)) = (m.rs.filter (fun r => aliveB r.a))) := by show (f.rs.filter (fun r => aliveB r.a)) = _; rw [Ef.out]; exact fall_lives false m.rs
              rw [EL.out] at HO
              have SL : Hid (Sl wr u7 (m.rs.filter (fun r => aliveB r.a)) w8.heap.size) := Sl.of_owns (owns_below HV.out HB.out)
              have SR : Hid (Sl wr u9 (m.rs.filter (fun r => aliveB r.a)) wc.heap.size) := Sl.of_owns HO.out
              have ll : (m.rs.filter (fun r => aliveB r.a)).length ≤ 1048576 := Nat.le_trans (List.length_filter_le _ _) Hf.out.k2
              clear HO
              go_wp2_with fail
              refine (wEq SL.out SR.out ll).mono ?_
              rintro e wz ⟨rfl, bz⟩
              go_wp2
              go_ret
              exact ⟨rfl, bl_trans (bl_trans C10.out HV2.out) (bl_trans HB.out bz)⟩
  case true =>
    have hck : m.ck < 1000000 := of_decide_eq_true Hck.out
    go_wp2_with fail
    clear ka2 kb1 kd1
    obtain ⟨i0, hi, hz0, hz1, hz2⟩ := info_parts infoR
    have hk2 : m.rs.length ≤ 1048576 := Hf.out.k2
    have hk3 : f.rs.length ≤ 1048576 := Ff.out.k2
    cases mach
    case true =>
      have ka := (A10.out.keep (bl_alloc (Below.refl w8.heap.size w8) (.cells #[] 38))).c 6
      obtain ⟨wc, hwc⟩ : ∃ wc, wc = w8.alloc (.cells #[] 38) := ⟨_, rfl⟩
      have HV : Hid (wc.ownsRow w8.heap.size 38 11 (.slice (some ⟨w8.heap.size, 0, none⟩) 0 0) ([] : List RunD).length (flatR ([] : List RunD))) := by rw [hwc]; exact own_made0 _ _ _
      have HV2 : Hid (Below w8.heap.size w8 wc) := by rw [hwc]; exact bl_alloc (Below.refl _ _) _
      rw [← hwc] at ka ⊢
      clear hwc
      refine wp_loop_rounds 1 ?_
      rw [rounds_succ]
      by_cases hl0 : 0 < m.rs.length
      all_goals
        have Bc : Hid (Lx wc w2.heap.size #[.string f.nm, .bool f.up, .int .i64 f.ck, .bool f.kn, .int .i64 f.se, .slice t1 f.ws.length u1, .slice t2 f.rs.length u2, .slice t3 f.qs.length u3, .slice t4 f.gs.length u4]) := B10.out.keep HV2.out
        have Gc : Hid (Gv wc t2 f.rs) := (F10.out.a2.gv).keep HV2.out
        have nbr2 := build0r
        go_wp2_with fail
        go_loopw [9, 10] (fun v i wx => ∃ (k : Nat), k ≤ f.rs.length ∧ i = .int .i64 k ∧ Hid (wx.ownsRow wc.heap.size 38 11 v ((f.rs.take k).filter (fun r => aliveB r.a)).length (flatR ((f.rs.take k).filter (fun r => aliveB r.a)))) ∧ Hid (Below wc.heap.size wc wx)) (fun _ i _ => f.rs.length - (intOf i).toNat)
        case atStart => exact ⟨0, Nat.zero_le _, rfl, own_made0 _ _ _, bl_alloc (Below.refl _ _) _⟩
        case round =>
          obtain ⟨k, hk, rfl, HO, HB⟩ := hrel
          have ka := (Bc.out.keep HB.out).c 6
          by_cases hlt : k < f.rs.length
          · obtain ⟨g, hxg, hg, hR⟩ := (Gc.out.keep HB.out).resolve_left (fun h => by rw [h] at hlt; simp at hlt)
            have hxg' := hxg
            subst hxg
            obtain ⟨z, hz⟩ : ∃ z, f.rs[k]? = some z := ⟨f.rs[k], List.getElem?_eq_getElem hlt⟩
            have Hz : Hid (f.rs[k]? = some z) := hz
            have HR9 : Hid (RowsAt wr g 0 f.rs) := hR
            obtain ⟨c0, c1, c2, c3, c4, c5, c6, c7, c8, c9, c10⟩ := hR.at hz
            simp only [Nat.zero_add] at c0 c1 c2 c3 c4 c5 c6 c7 c8 c9 c10
            clear hz hR hxg'
            obtain ⟨nn, hnn⟩ : ∃ nn, nn = ((f.rs.take k).filter (fun r => aliveB r.a)).length := ⟨_, rfl⟩
            obtain ⟨xx, hxx⟩ : ∃ xx, xx = flatR ((f.rs.take k).filter (fun r => aliveB r.a)) := ⟨_, rfl⟩
            have hnk : nn ≤ 1048576 := by rw [hnn]; exact Nat.le_trans (List.length_filter_le _ _) (by rw [List.length_take]; have := Ff.out.k2; omega)
            rw [← hnn, ← hxx] at HO
            have Hnn : Hid (nn = ((f.rs.take k).filter (fun r => aliveB r.a)).length) := hnn
            have Hxx : Hid (xx = flatR ((f.rs.take k).filter (fun r => aliveB r.a))) := hxx
            clear hnn hxx
            go_wp2_with fail
            refine (implAlive_any z.c z.h z.v z.p z.s z.d z.g z.a z.b z.i z.u _).mono ?_
            rintro e w9 ⟨rfl, b9⟩
            have HB9 : Hid (Below wc.heap.size wc w9) := bl_trans HB.out b9
            have HO9 : Hid (w9.ownsRow wc.heap.size 38 11 u9 nn xx) := owns_below HO.out b9
            clear c0 c1 c2 c3 c4 c5 c6 c7 c8 c9 c10 ka
            have ka := (Bc.out.keep HB9.out).c 6
            obtain ⟨c0, c1, c2, c3, c4, c5, c6, c7, c8, c9, c10⟩ := (HR9.out.keep hg b9).at Hz.out
            simp only [Nat.zero_add] at c0 c1 c2 c3 c4 c5 c6 c7 c8 c9 c10
            have hz9 : wc.heap.size ≤ w9.heap.size := HB9.out.size
            clear b9
            cases hal : aliveB z.a
            · go_wp2
              refine ⟨⟨k + 1, by omega, by go_num, ?_, HB9.out⟩, by simp [intOf]; omega⟩
              show w9.ownsRow _ _ _ _ _ _
              rw [filt_no Hz.out hal, ← Hnn.out, ← Hxx.out]
              exact HO9.out
            · go_wp2_with (at_builtin; refine wpList_append_own _ rfl _ _ 24 rfl wc.heap.size 38 i0 _ 11 104 Try.underlying24 hi hz0 hz1 hz2 rfl (by decide) u9 nn xx rfl (by exact owns_below HO9.out (bl_alloc (Below.refl _ _) _)) ⟨_, 0, none⟩ 1 1 z.cells rfl rfl (new_cells _ _ (by simp) _ _ _ rfl) (cellsR_one _) (by unfold maxLen; omega) (by omega) (by simp; omega) ?_; intro v' wa ho hg9 hn9)
              refine ⟨⟨k + 1, by omega, by go_num, ?_, Below.grown (bl_alloc HB9.out _) hg9 (by simp; omega) (owns_ge HO9.out)⟩, by simp [intOf]; omega⟩
              show wa.ownsRow _ _ _ _ _ _
              rw [filt_yes Hz.out hal, List.length_append, flatR_append, ← Hnn.out, ← Hxx.out]
              simpa [flatR] using ho
          · have hkl : k = f.rs.length := by omega
            subst hkl
            rw [List.take_of_length_le (Nat.le_refl _)] at HO
            have EL : Hid ((f.rs.filter (fun r => aliveB r.a)) = ([] : List RunD)) := by show (f.rs.filter (fun r => aliveB r.a)) = _; rw [Ef.out]; exact fall_lives true m.rs
            rw [EL.out] at HO
            have SL : Hid (Sl wr (.slice (some ⟨w8.heap.size, 0, none⟩) 0 0) ([] : List RunD) w8.heap.size) := Sl.of_owns (owns_below HV.out HB.out)
            have SR : Hid (Sl wr u9 ([] : List RunD) wc.heap.size) := Sl.of_owns HO.out
            have ll : ([] : List RunD).length ≤ 1048576 := Nat.zero_le _
            clear HO
            go_wp2_with fail
            refine (wEq SL.out SR.out ll).mono ?_
            rintro e wz ⟨rfl, bz⟩
            go_wp2
            go_ret
            exact ⟨rfl, bl_trans (bl_trans C10.out HV2.out) (bl_trans HB.out bz)⟩
    case false =>
      go_loopw [7, 8] (fun v i wx => ∃ (k : Nat), k ≤ m.rs.length ∧ i = .int .i64 k ∧ Hid (wx.ownsRow w8.heap.size 38 11 v ((m.rs.take k).filter (fun r => aliveB r.a)).length (flatR ((m.rs.take k).filter (fun r => aliveB r.a)))) ∧ Hid (Below w8.heap.size w8 wx)) (fun _ i _ => m.rs.length - (intOf i).toNat)
      case atStart => exact ⟨0, Nat.zero_le _, rfl, own_made0 _ _ _, bl_alloc (Below.refl _ _) _⟩
      case round =>
        obtain ⟨k, hk, rfl, HO, HB⟩ := hrel
        have ka := (A10.out.keep HB.out).c 6
        by_cases hlt : k < m.rs.length
        · obtain ⟨g, hxg, hg, hR⟩ := (M10.out.lists.r2.keep HB.out).resolve_left (fun h => by rw [h] at hlt; simp at hlt)
          have hxg' := hxg
          subst hxg
          obtain ⟨z, hz⟩ : ∃ z, m.rs[k]? = some z := ⟨m.rs[k], List.getElem?_eq_getElem hlt⟩
          have Hz : Hid (m.rs[k]? = some z) := hz
          have HR9 : Hid (RowsAt wr g 0 m.rs) := hR
          obtain ⟨c0, c1, c2, c3, c4, c5, c6, c7, c8, c9, c10⟩ := hR.at hz
          simp only [Nat.zero_add] at c0 c1 c2 c3 c4 c5 c6 c7 c8 c9 c10
          clear hz hR hxg'
          obtain ⟨nn, hnn⟩ : ∃ nn, nn = ((m.rs.take k).filter (fun r => aliveB r.a)).length := ⟨_, rfl⟩
          obtain ⟨xx, hxx⟩ : ∃ xx, xx = flatR ((m.rs.take k).filter (fun r => aliveB r.a)) := ⟨_, rfl⟩
          have hnk : nn ≤ 1048576 := by rw [hnn]; exact Nat.le_trans (List.length_filter_le _ _) (by rw [List.length_take]; have := Hf.out.k2; omega)
          rw [← hnn, ← hxx] at HO
          have Hnn : Hid (nn = ((m.rs.take k).filter (fun r => aliveB r.a)).length) := hnn
          have Hxx : Hid (xx = flatR ((m.rs.take k).filter (fun r => aliveB r.a))) := hxx
          clear hnn hxx
          go_wp2_with fail
          refine (specAlive_any z.c z.h z.v z.p z.s z.d z.g z.a z.b z.i z.u _).mono ?_
          rintro e w9 ⟨rfl, b9⟩
          have HB9 : Hid (Below w8.heap.size w8 w9) := bl_trans HB.out b9
          have HO9 : Hid (w9.ownsRow w8.heap.size 38 11 u7 nn xx) := owns_below HO.out b9
          clear c0 c1 c2 c3 c4 c5 c6 c7 c8 c9 c10 ka
          have ka := (A10.out.keep HB9.out).c 6
          obtain ⟨c0, c1, c2, c3, c4, c5, c6, c7, c8, c9, c10⟩ := (HR9.out.keep hg b9).at Hz.out
          simp only [Nat.zero_add] at c0 c1 c2 c3 c4 c5 c6 c7 c8 c9 c10
          have hz9 : w8.heap.size ≤ w9.heap.size := HB9.out.size
          clear b9
          cases hal : aliveB z.a
          · go_wp2
            refine ⟨⟨k + 1, by omega, by go_num, ?_, HB9.out⟩, by simp [intOf]; omega⟩
            show w9.ownsRow _ _ _ _ _ _
            rw [filt_no Hz.out hal, ← Hnn.out, ← Hxx.out]
            exact HO9.out
          · go_wp2_with (at_builtin; refine wpList_append_own _ rfl _ _ 24 rfl w8.heap.size 38 i0 _ 11 104 Try.underlying24 hi hz0 hz1 hz2 rfl (by decide) u7 nn xx rfl (by exact owns_below HO9.out (bl_alloc (Below.refl _ _) _)) ⟨_, 0, none⟩ 1 1 z.cells rfl rfl (new_cells _ _ (by simp) _ _ _ rfl) (cellsR_one _) (by unfold maxLen; omega) (by omega) (by simp; omega) ?_; intro v' wa ho hg9 hn9)
            refine ⟨⟨k + 1, by omega, by go_num, ?_, Below.grown (bl_alloc HB9.out _) hg9 (by simp; omega) (owns_ge HO9.out)⟩, by simp [intOf]; omega⟩
            show wa.ownsRow _ _ _ _ _ _
            rw [filt_yes Hz.out hal, List.length_append, flatR_append, ← Hnn.out, ← Hxx.out]
            simpa [flatR] using ho
        · have hkl : k = m.rs.length := by omega
          subst hkl
          rw [List.take_of_length_le (Nat.le_refl _)] at HO
          obtain ⟨wc, rfl⟩ : ∃ wc, wc = wr := ⟨_, rfl⟩
          have HV : Hid (wc.ownsRow w8.heap.size 38 11 u7 (m.rs.filter (fun r => aliveB r.a)).length (flatR (m.rs.filter (fun r => aliveB r.a)))) := HO.out
          have HV2 : Hid (Below w8.heap.size w8 wc) := HB.out
          clear HO HB
          have Bc : Hid (Lx wc w2.heap.size #[.string f.nm, .bool f.up, .int .i64 f.ck, .bool f.kn, .int .i64 f.se, .slice t1 f.ws.length u1, .slice t2 f.rs.length u2, .slice t3 f.qs.length u3, .slice t4 f.gs.length u4]) := B10.out.keep HV2.out
          have Gc : Hid (Gv wc t2 f.rs) := (F10.out.a2.gv).keep HV2.out
          have nbr2 := build0r
          go_wp2_with fail
          go_loopw [9, 10] (fun v i wx => ∃ (k : Nat), k ≤ f.rs.length ∧ i = .int .i64 k ∧ Hid (wx.ownsRow wc.heap.size 38 11 v ((f.rs.take k).filter (fun r => aliveB r.a)).length (flatR ((f.rs.take k).filter (fun r => aliveB r.a)))) ∧ Hid (Below wc.heap.size wc wx)) (fun _ i _ => f.rs.length - (intOf i).toNat)
          case atStart => exact ⟨0, Nat.zero_le _, rfl, own_made0 _ _ _, bl_alloc (Below.refl _ _) _⟩
          case round =>
            obtain ⟨k, hk, rfl, HO, HB⟩ := hrel
            have ka := (Bc.out.keep HB.out).c 6
            by_cases hlt : k < f.rs.length
            · obtain ⟨g, hxg, hg, hR⟩ := (Gc.out.keep HB.out).resolve_left (fun h => by rw [h] at hlt; simp at hlt)
              have hxg' := hxg
              subst hxg
              obtain ⟨z, hz⟩ : ∃ z, f.rs[k]? = some z := ⟨f.rs[k], List.getElem?_eq_getElem hlt⟩
              have Hz : Hid (f.rs[k]? = some z) := hz
              have HR9 : Hid (RowsAt wr g 0 f.rs) := hR
              obtain ⟨c0, c1, c2, c3, c4, c5, c6, c7, c8, c9, c10⟩ := hR.at hz
              simp only [Nat.zero_add] at c0 c1 c2 c3 c4 c5 c6 c7 c8 c9 c10
              clear hz hR hxg'
              obtain ⟨nn, hnn⟩ : ∃ nn, nn = ((f.rs.take k).filter (fun r => aliveB r.a)).length := ⟨_, rfl⟩
              obtain ⟨xx, hxx⟩ : ∃ xx, xx = flatR ((f.rs.take k).filter (fun r => aliveB r.a)) := ⟨_, rfl⟩
              have hnk : nn ≤ 1048576 := by rw [hnn]; exact Nat.le_trans (List.length_filter_le _ _) (by rw [List.length_take]; have := Ff.out.k2; omega)
              rw [← hnn, ← hxx] at HO
              have Hnn : Hid (nn = ((f.rs.take k).filter (fun r => aliveB r.a)).length) := hnn
              have Hxx : Hid (xx = flatR ((f.rs.take k).filter (fun r => aliveB r.a))) := hxx
              clear hnn hxx
              go_wp2_with fail
              refine (implAlive_any z.c z.h z.v z.p z.s z.d z.g z.a z.b z.i z.u _).mono ?_
              rintro e w9 ⟨rfl, b9⟩
              have HB9 : Hid (Below wc.heap.size wc w9) := bl_trans HB.out b9
              have HO9 : Hid (w9.ownsRow wc.heap.size 38 11 u9 nn xx) := owns_below HO.out b9
              clear c0 c1 c2 c3 c4 c5 c6 c7 c8 c9 c10 ka
              have ka := (Bc.out.keep HB9.out).c 6
              obtain ⟨c0, c1, c2, c3, c4, c5, c6, c7, c8, c9, c10⟩ := (HR9.out.keep hg b9).at Hz.out
              simp only [Nat.zero_add] at c0 c1 c2 c3 c4 c5 c6 c7 c8 c9 c10
              have hz9 : wc.heap.size ≤ w9.heap.size := HB9.out.size
              clear b9
              cases hal : aliveB z.a
              · go_wp2
                refine ⟨⟨k + 1, by omega, by go_num, ?_, HB9.out⟩, by simp [intOf]; omega⟩
                show w9.ownsRow _ _ _ _ _ _
                rw [filt_no Hz.out hal, ← Hnn.out, ← Hxx.out]
                exact HO9.out
              · go_wp2_with (at_builtin; refine wpList_append_own _ rfl _ _ 24 rfl wc.heap.size 38 i0 _ 11 104 Try.underlying24 hi hz0 hz1 hz2 rfl (by decide) u9 nn xx rfl (by exact owns_below HO9.out (bl_alloc (Below.refl _ _) _)) ⟨_, 0, none⟩ 1 1 z.cells rfl rfl (new_cells _ _ (by simp) _ _ _ rfl) (cellsR_one _) (by unfold maxLen; omega) (by omega) (by simp; omega) ?_; intro v' wa ho hg9 hn9)
                refine ⟨⟨k + 1, by omega, by go_num, ?_, Below.grown (bl_alloc HB9.out _) hg9 (by simp; omega) (owns_ge HO9.out)⟩, by simp [intOf]; omega⟩
                show wa.ownsRow _ _ _ _ _ _
                rw [filt_yes Hz.out hal, List.length_append, flatR_append, ← Hnn.out, ← Hxx.out]
                simpa [flatR] using ho
            · have hkl : k = f.rs.length := by omega
              subst hkl
              rw [List.take_of_length_le (Nat.le_refl _)] at HO
              have EL : Hid ((f.rs.filter (fun r => aliveB r.a)) = (m.rs.filter (fun r => aliveB r.a))) := by show (f.rs.filter (fun r => aliveB r.a)) = _; rw [Ef.out]; exact fall_lives false m.rs
              rw [EL.out] at HO
              have SL : Hid (Sl wr u7 (m.rs.filter (fun r => aliveB r.a)) w8.heap.size) := Sl.of_owns (owns_below HV.out HB.out)
              have SR : Hid (Sl wr u9 (m.rs.filter (fun r => aliveB r.a)) wc.heap.size) := Sl.of_owns HO.out
              have ll : (m.rs.filter (fun r => aliveB r.a)).length ≤ 1048576 := Nat.le_trans (List.length_filter_le _ _) Hf.out.k2
              clear HO
              go_wp2_with fail
              refine (wEq SL.out SR.out ll).mono ?_
              rintro e wz ⟨rfl, bz⟩
              go_wp2
              go_ret
              exact ⟨rfl, bl_trans (bl_trans C10.out HV2.out) (bl_trans HB.out bz)⟩
end Go.Proofs.Ytkebokkckmgloaa
