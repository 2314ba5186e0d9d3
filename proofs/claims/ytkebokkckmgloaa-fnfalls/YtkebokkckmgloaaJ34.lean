import Derived.Test.YtkebokkckmgloaaJ32
import Derived.Test.YtkebokkckmgloaaJ29
import Derived.Deep.RegionHeld3
import Derived.Maps.AppendAt
import Derived.Deep.DeepCutAuto
import Derived.Laws.Pointers
import Derived.Deep.CutBlock
import Derived.StillTactics
/- A mate is spoilt. -/
namespace Go.Proofs.Ytkebokkckmgloaa
open Go.RowKit
set_option linter.unusedVariables false

def arr2s (x y : ByteArray) : Array Value := #[.string x, .string y]
def arr3s (x y z : ByteArray) : Array Value := #[.string x, .string y, .string z]
def arr4s (x y z u : ByteArray) : Array Value := #[.string x, .string y, .string z, .string u]
def arr4i (x y z u : Int) : Array Value := #[.int .i64 x, .int .i64 y, .int .i64 z, .int .i64 u]
def arrA (h c : ByteArray) (f t : Int) : Array Value := #[.string h, .string c, .int .i64 f, .int .i64 t]
theorem bld2s (x y : ByteArray) (w : World) : Sem.run Try.prog (Instr.buildSlice 158 2 #[(0, .string x), (1, .string y)]) w = .ok (.slice (some ⟨w.heap.size, 0, none⟩) 2 2) (w.alloc (.cells (arr2s x y) 9)) := build2s x y w
theorem bld3s (x y z : ByteArray) (w : World) : Sem.run Try.prog (Instr.buildSlice 158 3 #[(0, .string x), (1, .string y), (2, .string z)]) w = .ok (.slice (some ⟨w.heap.size, 0, none⟩) 3 3) (w.alloc (.cells (arr3s x y z) 9)) := build3s x y z w
theorem bld4s (x y z u : ByteArray) (w : World) : Sem.run Try.prog (Instr.buildSlice 158 4 #[(0, .string x), (1, .string y), (2, .string z), (3, .string u)]) w = .ok (.slice (some ⟨w.heap.size, 0, none⟩) 4 4) (w.alloc (.cells (arr4s x y z u) 9)) := build4s x y z u w
theorem bld4i (x y z u : Int) (w : World) : Sem.run Try.prog (Instr.buildSlice 159 4 #[(0, .int .i64 x), (1, .int .i64 y), (2, .int .i64 z), (3, .int .i64 u)]) w = .ok (.slice (some ⟨w.heap.size, 0, none⟩) 4 4) (w.alloc (.cells (arr4i x y z u) 3)) := build4i x y z u w
theorem bld1a (h c : ByteArray) (f t : Int) (w : World) : Sem.run Try.prog (Instr.buildSlice 25 1 #[(0, .agg #[.string h, .string c, .int .i64 f, .int .i64 t])]) w = .ok (.slice (some ⟨w.heap.size, 0, none⟩) 1 1) (w.alloc (.cells (arrA h c f t) 99)) := build1a h c f t w
theorem Dn.want1 {w : World} {kr bm B g n c : Nat} {m : MateD} {s2 s3 s4 : Value} {q : Int} {x : World} {r0 : W.WantD} {ws : List W.WantD} (h : Dn w kr bm B m (.slice (some ⟨g, 0, none⟩) n c) s2 s3 s4 q x) (hO : W.Ow x (.slice (some ⟨g, 0, none⟩) n c) (r0 :: ws) B) (r : W.WantD) :
    Dn w kr bm B { m with ws := r :: ws } (.slice (some ⟨g, 0, none⟩) n c) s2 s3 s4 q (x.setCells g 0 r.cells) := by
  have he : Ex g x (x.setCells g 0 r.cells) := (Ex.refl _ _).cells _ _
  have ho := W.Ow.putFirst r hO
  exact h.wantsE he ho
theorem Dn.run1 {w : World} {kr bm B g n c : Nat} {m : MateD} {s1 s3 s4 : Value} {q : Int} {x : World} {k : Nat} (h : Dn w kr bm B m s1 (.slice (some ⟨g, 0, none⟩) n c) s3 s4 q x) (r : RunD) (hk : k < m.rs.length) :
    Dn w kr bm B { m with rs := m.rs.set k r } s1 (.slice (some ⟨g, 0, none⟩) n c) s3 s4 q (x.setCells g (k * 11) r.cells) := by
  have he : Ex g x (x.setCells g (k * 11) r.cells) := (Ex.refl _ _).cells _ _
  have ho := Ow.putAll r h.l.a2 hk
  exact h.runsE he ho
theorem wp_hide {P : Program} {o : Oper} {a : Act} {w : World} {I : Act → World → Prop} {Q : Exit → Act → World → Prop} (h : ∀ K : Act → World → Prop, Hid (∀ a w, I a w → K a w) → o.wp P a w K Q) : o.wp P a w I Q := h I (fun _ _ h => h)
theorem OwM.mate {x : World} {m m' : MateD} {s1 s2 s3 s4 : Value} {B : Nat} (h : OwM x m s1 s2 s3 s4 B) (e1 : m'.ws = m.ws) (e2 : m'.rs = m.rs) (e3 : m'.qs = m.qs) (e4 : m'.gs = m.gs) : OwM x m' s1 s2 s3 s4 B :=
  ⟨by rw [e1]; exact h.a1, by rw [e2]; exact h.a2, by rw [e3]; exact h.a3, by rw [e4]; exact h.a4, h.d12, h.d13, h.d14, h.d23, h.d24, h.d34⟩
theorem W.Ow.rows {y : World} {g n c : Nat} {l : List W.WantD} {B : Nat} (h : W.Ow y (.slice (some ⟨g, 0, none⟩) n c) l B) : W.RowsAt y g 0 l ∧ y.there g 0 (l.length * 7) := by
  rcases h.sl with ⟨h1, -⟩ | ⟨g', c', h1, h2, h3, h4, h5⟩
  · cases h1
  · cases h1; exact ⟨h4, h5⟩
theorem Ow.rows {y : World} {g n c : Nat} {l : List RunD} {B : Nat} (h : Ow y (.slice (some ⟨g, 0, none⟩) n c) l B) : RowsAt y g 0 l ∧ y.there g 0 (l.length * 11) := by
  rcases h.sl with ⟨h1, -⟩ | ⟨g', c', h1, h2, h3, h4, h5⟩
  · cases h1
  · cases h1; exact ⟨h4, h5⟩
theorem fits_qs {m : MateD} {r : A.AskD} (h : m.fits) (hl : m.qs.length ≤ 1000) (hr : r.fits) : MateD.fits { m with qs := m.qs ++ [r] } :=
  ⟨h.n, h.f1, h.f2, fitsA_snoc h.f3 hr, h.f4, h.k1, h.k2, by show (m.qs ++ [r]).length ≤ _; simp; omega, h.k4⟩
theorem fits_gs {m : MateD} {r : A.AskD} (h : m.fits) (hl : m.gs.length ≤ 1000) (hr : r.fits) : MateD.fits { m with gs := m.gs ++ [r] } :=
  ⟨h.n, h.f1, h.f2, h.f3, fitsA_snoc h.f4 hr, h.k1, h.k2, h.k3, by show (m.gs ++ [r]).length ≤ _; simp; omega⟩
theorem fits_ws {m : MateD} {r0 r : W.WantD} {ws : List W.WantD} (h : m.fits) (hw : m.ws = r0 :: ws) (hr : r.fits) : MateD.fits { m with ws := r :: ws } :=
  ⟨h.n, fun x hx => by rcases List.mem_cons.1 hx with rfl | hx; exact hr; exact h.f1 x (by rw [hw]; exact List.mem_cons_of_mem _ hx), h.f2, h.f3, h.f4, by have := h.k1; rw [hw] at this; exact this, h.k2, h.k3, h.k4⟩
theorem fits_rs {m : MateD} {r : RunD} {k : Nat} (h : m.fits) (hr : r.fits) : MateD.fits { m with rs := m.rs.set k r } :=
  ⟨h.n, h.f1, fun x hx => by rcases List.mem_or_eq_of_mem_set hx with hx | rfl; exact h.f2 x hx; exact hr, h.f3, h.f4, h.k1, by show (m.rs.set k r).length ≤ _; rw [List.length_set]; exact h.k2, h.k3, h.k4⟩
theorem fits_nil {m : MateD} {a : Int} (h : m.fits) (hl : m.rs.length ≤ 1000) : MateD.fits { m with rs := m.rs ++ [nilRun a] } :=
  ⟨h.n, h.f1, fun x hx => by
    rcases List.mem_append.1 hx with hx | hx
    · exact h.f2 x hx
    · rw [List.mem_singleton.1 hx]; exact ⟨by show (⟨#[122, 122]⟩ : ByteArray).size ≤ maxLen; unfold maxLen; decide, by show (⟨#[]⟩ : ByteArray).size ≤ maxLen; unfold maxLen; decide, by show (0 : Int) ≤ _; omega, by show _ ≤ (0 : Int); omega⟩, h.f3, h.f4, h.k1, by show (m.rs ++ [nilRun a]).length ≤ _; simp; omega, h.k3, h.k4⟩

theorem pickN (kr : Nat) (q : Int) (n : Nat) (w : World) (h : Rq w kr q) (hq : q < 1000000) (hn : n ≤ 1000) :
    Calls Try.prog 59 #[.pointer (some ⟨kr, 0, none⟩), .int .i64 (n : Int)] w fun e w' => ∃ k : Nat, e = .returned (.int .i64 (k : Int)) ∧ (0 < n → k < n) ∧ Rq w' kr (q + 1) ∧ Ex kr w w' := by
  rcases Nat.eq_zero_or_pos n with rfl | h0
  · refine (pickZ kr q w h hq).mono ?_
    rintro e w' ⟨rfl, r, x⟩
    exact ⟨0, rfl, fun h => absurd h (by omega), r, x⟩
  · refine (pickQ kr q n w h hq (by omega) (by omega)).mono ?_
    rintro e w' ⟨z, rfl, z0, z1, r, x⟩
    obtain ⟨k, rfl⟩ := Int.eq_ofNat_of_zero_le z0
    exact ⟨k, rfl, fun _ => by omega, r, x⟩
theorem dn_new {w w2 : World} {kr B : Nat} {m : MateD} {s1 s2 s3 s4 : Value} {q : Int} (hd : w2.there w.heap.size 0 9) (ho : OwM w2 m s1 s2 s3 s4 B) (hr : Rq w2 kr q) (he : Ex kr w w2) (hz : w.heap.size < w2.heap.size) (hB : w.heap.size < B) (hk : kr < w.heap.size) :
    Dn w kr w2.heap.size B m s1 s2 s3 s4 q (w2.alloc (.cells #[.string m.nm, .bool m.up, .int .i64 m.ck, .bool m.kn, .int .i64 m.se, s1, s2, s3, s4] 27)) :=
  ⟨fun k => by simp [go_sem], fun k => by simp [go_sem], there_keep2 hd hz (bl_alloc (Below.refl _ _) _), ho.keep (bl_alloc (Below.refl _ _) _), ⟨fun e => by have := (ho.a1.lt _ e).2; omega, fun e => by have := (ho.a2.lt _ e).2; omega, fun e => by have := (ho.a3.lt _ e).2; omega, fun e => by have := (ho.a4.lt _ e).2; omega⟩, hr.below (bl_alloc (Below.refl _ _) _), he.then_below (bl_alloc (Below.refl _ _) _), by simp, hz, hB, hk⟩
theorem fits_nm {m : MateD} {s : ByteArray} (h : m.fits) (hs : s.size ≤ maxLen) : MateD.fits { m with nm := s } := ⟨hs, h.f1, h.f2, h.f3, h.f4, h.k1, h.k2, h.k3, h.k4⟩
theorem fits_up {m : MateD} {b : Bool} (h : m.fits) : MateD.fits { m with up := b } := ⟨h.n, h.f1, h.f2, h.f3, h.f4, h.k1, h.k2, h.k3, h.k4⟩
theorem fits_kn {m : MateD} {b : Bool} (h : m.fits) : MateD.fits { m with kn := b } := ⟨h.n, h.f1, h.f2, h.f3, h.f4, h.k1, h.k2, h.k3, h.k4⟩
theorem fits_ck {m : MateD} {b : Int} (h : m.fits) : MateD.fits { m with ck := b } := ⟨h.n, h.f1, h.f2, h.f3, h.f4, h.k1, h.k2, h.k3, h.k4⟩
theorem fits_se {m : MateD} {b : Int} (h : m.fits) : MateD.fits { m with se := b } := ⟨h.n, h.f1, h.f2, h.f3, h.f4, h.k1, h.k2, h.k3, h.k4⟩
theorem fits_all {m : MateD} (h : m.fits) : MateD.fits { m with gs := m.qs } := ⟨h.n, h.f1, h.f2, h.f3, h.f3, h.k1, h.k2, h.k3, h.k3⟩

set_option maxRecDepth 4000 in
set_option maxHeartbeats 8000000 in
theorem spoilMQ (kr : Nat) (q : Int) (m : MateD) (x1 x2 x3 x4 : Option Addr) (n1 n2 n3 n4 : Nat) (w : World) (hr : Rq w kr q) (hq : q < 500000) (h1 : W.Src w x1 n1 m.ws) (h2 : Src w x2 n2 m.rs) (h3 : A.Src w x3 n3 m.qs) (h4 : A.Src w x4 n4 m.gs) (hf : Drawn m) :
    Calls Try.prog 122 #[.pointer (some ⟨kr, 0, none⟩), .agg #[.string m.nm, .bool m.up, .int .i64 m.ck, .bool m.kn, .int .i64 m.se, .slice x1 m.ws.length n1, .slice x2 m.rs.length n2, .slice x3 m.qs.length n3, .slice x4 m.gs.length n4]] w fun e w' => ∃ m' t1 t2 t3 t4, e = .returned (.agg #[.string m'.nm, .bool m'.up, .int .i64 m'.ck, .bool m'.kn, .int .i64 m'.se, t1, t2, t3, t4]) ∧ SlM w' m' t1 t2 t3 t4 w.heap.size ∧ (∃ x1 n1, t1 = .slice x1 m'.ws.length n1 ∧ m'.ws.length ≤ n1) ∧ m'.fits ∧ Rq w' kr (q + 4500) ∧ Ex kr w w' := by
  have hkr := hr.lt
  have hinfo : (Try.prog.info? 27).map (·.size) = some 9 := by kernel_rfl
  have hinfoW : (Try.prog.info? 36).map (·.size) = some 7 := by kernel_rfl
  have hinfoR : (Try.prog.info? 38).map (·.size) = some 11 := by kernel_rfl
  have B1 : Hid (Below w.heap.size w ((w.alloc (.cells #[.string m.nm, .bool m.up, .int .i64 m.ck, .bool m.kn, .int .i64 m.se, .slice x1 m.ws.length n1, .slice x2 m.rs.length n2, .slice x3 m.qs.length n3, .slice x4 m.gs.length n4] 27)).alloc (.cells #[.string { data := #[] }, .bool false, .int .i64 0, .bool false, .int .i64 0, .slice none 0 0, .slice none 0 0, .slice none 0 0, .slice none 0 0] 27))) := bl_alloc (bl_alloc (Below.refl _ _) _) _
  have H1 : Hid (W.Src w x1 n1 m.ws) := h1
  have H2 : Hid (Src w x2 n2 m.rs) := h2
  have H3 : Hid (A.Src w x3 n3 m.qs) := h3
  have H4 : Hid (A.Src w x4 n4 m.gs) := h4
  have HR : Hid (Rq w kr q) := hr
  have HF : Hid (Drawn m) := hf
  clear h1 h2 h3 h4 hr hf
  go_enter Try.func122, Try.ntmps122
  go_wp2_with fail
  refine (l4Copy_own m x1 x2 x3 x4 n1 n2 n3 n4 _ (H1.out.keep B1.out) (H2.out.keep B1.out) (H3.out.keep B1.out) (H4.out.keep B1.out) ⟨HF.out.fits.k1, HF.out.fits.k2, HF.out.fits.k3, HF.out.fits.k4⟩).mono ?_
  rintro e w2 ⟨⟨s1, s2, s3, s4, rfl, ho⟩, b2⟩
  obtain ⟨a1, b1, hs1⟩ := ho.a1.shape
  obtain ⟨a2, bb2, hs2⟩ := ho.a2.shape
  obtain ⟨a3, b3, hs3⟩ := ho.a3.shape
  obtain ⟨a4, b4, hs4⟩ := ho.a4.shape
  subst hs1 hs2 hs3 hs4
  have T2 : Hid (w2.there (w.heap.size + 1) 0 9) := there_keep2 (by have h := there9 (w.alloc (.cells #[.string m.nm, .bool m.up, .int .i64 m.ck, .bool m.kn, .int .i64 m.se, .slice x1 m.ws.length n1, .slice x2 m.rs.length n2, .slice x3 m.qs.length n3, .slice x4 m.gs.length n4] 27)) 27; rw [World.size_alloc] at h; exact h) (by simp) b2
  have E2 : Hid (Ex kr (w.alloc (.cells #[.string m.nm, .bool m.up, .int .i64 m.ck, .bool m.kn, .int .i64 m.se, .slice x1 m.ws.length n1, .slice x2 m.rs.length n2, .slice x3 m.qs.length n3, .slice x4 m.gs.length n4] 27)) w2) := Ex.of_below (bl_trans (bl_alloc (Below.refl _ _) _) b2)
  have D2 : Hid (Dn (w.alloc (.cells #[.string m.nm, .bool m.up, .int .i64 m.ck, .bool m.kn, .int .i64 m.se, .slice x1 m.ws.length n1, .slice x2 m.rs.length n2, .slice x3 m.qs.length n3, .slice x4 m.gs.length n4] 27)) kr w2.heap.size ((w.alloc (.cells #[.string m.nm, .bool m.up, .int .i64 m.ck, .bool m.kn, .int .i64 m.se, .slice x1 m.ws.length n1, .slice x2 m.rs.length n2, .slice x3 m.qs.length n3, .slice x4 m.gs.length n4] 27)).alloc (.cells #[.string { data := #[] }, .bool false, .int .i64 0, .bool false, .int .i64 0, .slice none 0 0, .slice none 0 0, .slice none 0 0, .slice none 0 0] 27)).heap.size m (.slice a1 m.ws.length b1) (.slice a2 m.rs.length bb2) (.slice a3 m.qs.length b3) (.slice a4 m.gs.length b4) q (w2.alloc (.cells #[.string m.nm, .bool m.up, .int .i64 m.ck, .bool m.kn, .int .i64 m.se, .slice a1 m.ws.length b1, .slice a2 m.rs.length bb2, .slice a3 m.qs.length b3, .slice a4 m.gs.length b4] 27))) := dn_new (by rw [World.size_alloc]; exact T2.out) ho ((HR.out.below (bl_alloc (bl_alloc (Below.refl _ _) _) _)).below b2) E2.out (by have h := b2.size; simp only [World.size_alloc] at h ⊢; omega) (by simp) (by simp; omega)
  have hB2 : ((w.alloc (.cells #[.string m.nm, .bool m.up, .int .i64 m.ck, .bool m.kn, .int .i64 m.se, .slice x1 m.ws.length n1, .slice x2 m.rs.length n2, .slice x3 m.qs.length n3, .slice x4 m.gs.length n4] 27)).alloc (.cells #[.string { data := #[] }, .bool false, .int .i64 0, .bool false, .int .i64 0, .slice none 0 0, .slice none 0 0, .slice none 0 0, .slice none 0 0] 27)).heap.size ≤ w2.heap.size := b2.size
  clear ho b2 T2 E2 H1 H2 H3 H4 B1 HR
  go_wp2_with fail
  refine (pickN kr _ m.rs.length _ D2.out.r (by omega) (by have := HF.out.r1; omega)).mono ?_
  rintro e y1 ⟨k, rfl, hk, r3, e3⟩
  have D3 : Hid (Dn (w.alloc (.cells #[.string m.nm, .bool m.up, .int .i64 m.ck, .bool m.kn, .int .i64 m.se, .slice x1 m.ws.length n1, .slice x2 m.rs.length n2, .slice x3 m.qs.length n3, .slice x4 m.gs.length n4] 27)) kr w2.heap.size ((w.alloc (.cells #[.string m.nm, .bool m.up, .int .i64 m.ck, .bool m.kn, .int .i64 m.se, .slice x1 m.ws.length n1, .slice x2 m.rs.length n2, .slice x3 m.qs.length n3, .slice x4 m.gs.length n4] 27)).alloc (.cells #[.string { data := #[] }, .bool false, .int .i64 0, .bool false, .int .i64 0, .slice none 0 0, .slice none 0 0, .slice none 0 0, .slice none 0 0] 27)).heap.size m (.slice a1 m.ws.length b1) (.slice a2 m.rs.length bb2) (.slice a3 m.qs.length b3) (.slice a4 m.gs.length b4) (q + 1) y1) := D2.out.pick e3 r3
  clear D2 r3 e3
  go_wp2_with fail
  refine (pickQ kr _ 12 _ D3.out.r (by omega) (by omega) (by omega)).mono ?_
  rintro e y2 ⟨z, rfl, z0, z1, r4, e4⟩
  have D4 : Hid (Dn (w.alloc (.cells #[.string m.nm, .bool m.up, .int .i64 m.ck, .bool m.kn, .int .i64 m.se, .slice x1 m.ws.length n1, .slice x2 m.rs.length n2, .slice x3 m.qs.length n3, .slice x4 m.gs.length n4] 27)) kr w2.heap.size ((w.alloc (.cells #[.string m.nm, .bool m.up, .int .i64 m.ck, .bool m.kn, .int .i64 m.se, .slice x1 m.ws.length n1, .slice x2 m.rs.length n2, .slice x3 m.qs.length n3, .slice x4 m.gs.length n4] 27)).alloc (.cells #[.string { data := #[] }, .bool false, .int .i64 0, .bool false, .int .i64 0, .slice none 0 0, .slice none 0 0, .slice none 0 0, .slice none 0 0] 27)).heap.size m (.slice a1 m.ws.length b1) (.slice a2 m.rs.length bb2) (.slice a3 m.qs.length b3) (.slice a4 m.gs.length b4) (q + 1 + 1) y2) := D3.out.pick e4 r4
  clear D3 r4 e4
  obtain ⟨W0, hW0⟩ : ∃ W0, W0 = (w.alloc (.cells #[.string m.nm, .bool m.up, .int .i64 m.ck, .bool m.kn, .int .i64 m.se, .slice x1 m.ws.length n1, .slice x2 m.rs.length n2, .slice x3 m.qs.length n3, .slice x4 m.gs.length n4] 27)) := ⟨_, rfl⟩
  obtain ⟨B, hBB⟩ : ∃ B, B = ((w.alloc (.cells #[.string m.nm, .bool m.up, .int .i64 m.ck, .bool m.kn, .int .i64 m.se, .slice x1 m.ws.length n1, .slice x2 m.rs.length n2, .slice x3 m.qs.length n3, .slice x4 m.gs.length n4] 27)).alloc (.cells #[.string { data := #[] }, .bool false, .int .i64 0, .bool false, .int .i64 0, .slice none 0 0, .slice none 0 0, .slice none 0 0, .slice none 0 0] 27)).heap.size := ⟨_, rfl⟩
  obtain ⟨bm, hbm⟩ : ∃ bm, bm = w2.heap.size := ⟨_, rfl⟩
  rw [← hBB, ← hW0, ← hbm] at D4
  rw [← hBB, ← hbm] at hB2
  rw [← hbm]
  have hz0 : W0.heap.size = w.heap.size + 1 := by rw [hW0]; simp
  have E0 : Hid (Ex kr w W0) := by rw [hW0]; exact Ex.of_below (bl_alloc (Below.refl _ _) _)
  have hBz : B = w.heap.size + 2 := by rw [hBB]; simp
  have hk0 : kr < B := by omega
  clear hW0 hBB hbm
  generalize (Value.agg #[.string m.nm, .bool m.up, .int .i64 m.ck, .bool m.kn, .int .i64 m.se, .slice x1 m.ws.length n1, .slice x2 m.rs.length n2, .slice x3 m.qs.length n3, .slice x4 m.gs.length n4]) = V1
  generalize (Value.agg #[.string m.nm, .bool m.up, .int .i64 m.ck, .bool m.kn, .int .i64 m.se, .slice a1 m.ws.length b1, .slice a2 m.rs.length bb2, .slice a3 m.qs.length b3, .slice a4 m.gs.length b4]) = V8
  go_upto_block 0 with (fail)
  go_cut [] (fun wx => ∃ m' t1 t2 t3 t4, Dn W0 kr bm B m' t1 t2 t3 t4 (q + 4300) wx ∧ m'.fits)
  case first =>
    obtain rfl | rfl | rfl | rfl | rfl | rfl | rfl | rfl | rfl | rfl | rfl | rfl : z = 0 ∨ z = 1 ∨ z = 2 ∨ z = 3 ∨ z = 4 ∨ z = 5 ∨ z = 6 ∨ z = 7 ∨ z = 8 ∨ z = 9 ∨ z = 10 ∨ z = 11 := by omega
    · have hb := build2s { data := #[] } { data := #[120, 32, 121] }
      go_wp2_with fail
      have hbl : Below y2.heap.size y2 (y2.alloc (.cells #[.string { data := #[] }, .string { data := #[120, 32, 121] }] 9)) := bl_alloc (Below.refl _ _) _
      have hkz : kr < y2.heap.size := by have := D4.out.z; have := D4.out.zw; have := D4.out.zk; omega
      have DA := D4.out.below hbl
      refine (pickQ kr _ 2 _ DA.r (by omega) (by omega) (by omega)).mono ?_
      rintro e y3 ⟨z, rfl, z0, z1, r9, e9⟩
      have DB : Hid (Dn W0 kr bm B m (.slice a1 m.ws.length b1) (.slice a2 m.rs.length bb2) (.slice a3 m.qs.length b3) (.slice a4 m.gs.length b4) (q + 1 + 1 + 1) y3) := DA.pick e9 r9
      have kl : ∀ j, y3.cell? ⟨y2.heap.size, j, none⟩ = (#[.string { data := #[] }, .string { data := #[120, 32, 121] }] : Array Value)[j]? := fun j => (e9.cell (p := ⟨y2.heap.size, j, none⟩) (by simp) (by show y2.heap.size ≠ kr; omega)).trans (by simp [go_sem])
      have k9 : y3.cell? ⟨bm, 0, none⟩ = some (.string m.nm) := DB.out.b 0
      have f9 : y3.frozen? ⟨bm, 0, none⟩ = false := DB.out.c 0
      clear DA r9 e9
      obtain rfl | rfl : z = 0 ∨ z = 1 := by omega
      · have k1 : y3.cell? ⟨y2.heap.size, 0, none⟩ = some (.string { data := #[] }) := kl 0
        clear kl
        go_wp2_with fail
        go_meet
        have HS : Dn W0 kr bm B { m with nm := { data := #[] } } (.slice a1 m.ws.length b1) (.slice a2 m.rs.length bb2) (.slice a3 m.qs.length b3) (.slice a4 m.gs.length b4) (q + 1 + 1 + 1) (y3.setCell ⟨bm, 0, none⟩ (.string { data := #[] })) := DB.out.set 0 (.string { data := #[] }) (by omega) rfl (DB.out.l.mate rfl rfl rfl rfl) DB.out.nb
        exact ⟨_, _, _, _, _, HS.up (by omega), fits_nm HF.out.fits (by unfold maxLen; decide)⟩
      · have k1 : y3.cell? ⟨y2.heap.size, 1, none⟩ = some (.string { data := #[120, 32, 121] }) := kl 1
        clear kl
        go_wp2_with fail
        go_meet
        have HS : Dn W0 kr bm B { m with nm := { data := #[120, 32, 121] } } (.slice a1 m.ws.length b1) (.slice a2 m.rs.length bb2) (.slice a3 m.qs.length b3) (.slice a4 m.gs.length b4) (q + 1 + 1 + 1) (y3.setCell ⟨bm, 0, none⟩ (.string { data := #[120, 32, 121] })) := DB.out.set 0 (.string { data := #[120, 32, 121] }) (by omega) rfl (DB.out.l.mate rfl rfl rfl rfl) DB.out.nb
        exact ⟨_, _, _, _, _, HS.up (by omega), fits_nm HF.out.fits (by unfold maxLen; decide)⟩
    · have k9 : y2.cell? ⟨bm, 1, none⟩ = some (.bool m.up) := D4.out.b 1
      have f9 : y2.frozen? ⟨bm, 1, none⟩ = false := D4.out.c 1
      go_wp2_with fail
      go_meet
      have HS : Dn W0 kr bm B { m with up := !m.up } (.slice a1 m.ws.length b1) (.slice a2 m.rs.length bb2) (.slice a3 m.qs.length b3) (.slice a4 m.gs.length b4) (q + 1 + 1) (y2.setCell ⟨bm, 1, none⟩ (.bool (!m.up))) := D4.out.set 1 (.bool (!m.up)) (by omega) rfl (D4.out.l.mate rfl rfl rfl rfl) D4.out.nb
      exact ⟨_, _, _, _, _, HS.up (by omega), fits_up HF.out.fits⟩
    · go_wp2_with fail
      refine wp_region_any (by kernel_rfl) ?_
      refine reg_inv 37 9 9 (G10 kr bm B m.ck) (fun p y => Dn W0 kr bm B m (.slice a1 m.ws.length b1) (.slice a2 m.rs.length bb2) (.slice a3 m.qs.length b3) (.slice a4 m.gs.length b4) (p) y) (fun y => ∃ m' t1 t2 t3 t4, Dn W0 kr bm B m' t1 t2 t3 t4 (q + 4300) y ∧ m'.fits) (q + 1 + 1) (by decide) rfl (Nat.le_of_ble_eq_true rfl) (D4.out.below (bl_drew (Below.refl _ _))) ?done10 ?step10
      case done10 =>
        intro l y hl hE
        obtain ⟨v0, l0, rfl, hl0⟩ := len_succ hl
        obtain ⟨v1, l1, rfl, hl1⟩ := len_succ hl0
        obtain ⟨v2, l2, rfl, hl2⟩ := len_succ hl1
        obtain ⟨v3, l3, rfl, hl3⟩ := len_succ hl2
        obtain ⟨v4, l4, rfl, hl4⟩ := len_succ hl3
        obtain ⟨v5, l5, rfl, hl5⟩ := len_succ hl4
        obtain ⟨v6, l6, rfl, hl6⟩ := len_succ hl5
        obtain ⟨v7, l7, rfl, hl7⟩ := len_succ hl6
        obtain ⟨v8, l8, rfl, hl8⟩ := len_succ hl7
        obtain rfl := len_zero hl8
        simp only [List.take_succ_cons, List.take_zero, List.drop_succ_cons, List.drop_zero, List.cons_append, List.nil_append, Nat.reduceAdd]
        go_wp2_with fail
        go_meet
        exact hE
      case step10 =>
        intro listed x y i hI hi hlt
        have ho := ready_open hi
        obtain rfl | rfl | rfl | rfl | rfl | rfl | rfl | rfl | rfl | rfl : i = 0 ∨ i = 1 ∨ i = 2 ∨ i = 3 ∨ i = 4 ∨ i = 5 ∨ i = 6 ∨ i = 7 ∨ i = 8 ∨ i = 9 := by omega
        · have hA : listed.getD 9 false = false := not_true (fun h => open_not ho (hI.tr 1 0 (by rfl) (hI.tr 2 1 (by rfl) (hI.tr 3 2 (by rfl) (hI.tr 6 3 (by rfl) (hI.tr 7 6 (by rfl) (hI.tr 9 7 (by rfl) h)))))))
          have hn := hA
          obtain ⟨pc, hD, hpc⟩ := hI.v.1 hA
          have HI : Hid (_ ∈ Region.ready _ _ _) := hi
          clear hi
          refine wpOp_plain rfl rfl ?_
          refine wp_hide (fun K hK => ?_)
          have e5 : x.tmps[5]?.getD undef = .pointer (some ⟨bm, 0, none⟩) := ev_tmp (hI.out 5 (Or.inl (by omega)))
          have HJ : Hid (Ir _ _ _ _ _ _ _ _ _ _ _) := hI
          have HO : Hid _ := ho
          clear hI ho
          go_simp
          have ho := HO.out
          exact hK.out _ _ (HJ.out.put HI.out (by omega) (Nat.le_of_ble_eq_true rfl) (rfl) (fun j u _ _ _ _ h => h) (HJ.out.v.same ho (by omega) (by omega)))
        · have hA : listed.getD 9 false = false := not_true (fun h => open_not ho (hI.tr 2 1 (by rfl) (hI.tr 3 2 (by rfl) (hI.tr 6 3 (by rfl) (hI.tr 7 6 (by rfl) (hI.tr 9 7 (by rfl) h))))))
          have hn := hA
          obtain ⟨pc, hD, hpc⟩ := hI.v.1 hA
          have d0 := dep_of hi (j := 0) (by rfl)
          have HI : Hid (_ ∈ Region.ready _ _ _) := hi
          clear hi
          refine wpOp_plain rfl rfl ?_
          refine wp_hide (fun K hK => ?_)
          have e1 : x.tmps[37]?.getD undef = .pointer (some ⟨bm, 2, none⟩) := ev_tmp (hI.good 0 (by omega) d0 (Or.inl hA))
          have k1 : y.cell? ⟨bm, 2, none⟩ = some (.int .i64 m.ck) := hD.b 2
          have HJ : Hid (Ir _ _ _ _ _ _ _ _ _ _ _) := hI
          have HO : Hid _ := ho
          clear hI ho
          go_simp
          have ho := HO.out
          exact hK.out _ _ (HJ.out.put HI.out (by omega) (Nat.le_of_ble_eq_true rfl) (rfl) (fun j u _ _ _ _ h => h) (HJ.out.v.same ho (by omega) (by omega)))
        · have hA : listed.getD 9 false = false := not_true (fun h => open_not ho (hI.tr 3 2 (by rfl) (hI.tr 6 3 (by rfl) (hI.tr 7 6 (by rfl) (hI.tr 9 7 (by rfl) h)))))
          have hn := hA
          obtain ⟨pc, hD, hpc⟩ := hI.v.1 hA
          have d1 := dep_of hi (j := 1) (by rfl)
          have HI : Hid (_ ∈ Region.ready _ _ _) := hi
          clear hi
          refine wpOp_plain rfl rfl ?_
          refine wp_hide (fun K hK => ?_)
          have e1 : x.tmps[38]?.getD undef = .int .i64 m.ck := ev_tmp (hI.good 1 (by omega) d1 (Or.inl hA))
          have HJ : Hid (Ir _ _ _ _ _ _ _ _ _ _ _) := hI
          have HO : Hid _ := ho
          clear hI ho
          go_simp
          have ho := HO.out
          exact hK.out _ _ (HJ.out.put HI.out (by omega) (Nat.le_of_ble_eq_true rfl) (⟨_, rfl⟩) (fun j u _ _ _ _ h => h) (HJ.out.v.same ho (by omega) (by omega)))
        · have hA : listed.getD 9 false = false := not_true (fun h => open_not ho (hI.tr 6 3 (by rfl) (hI.tr 7 6 (by rfl) (hI.tr 9 7 (by rfl) h))))
          have hn := hA
          obtain ⟨pc, hD, hpc⟩ := hI.v.1 hA
          have d2 := dep_of hi (j := 2) (by rfl)
          have HI : Hid (_ ∈ Region.ready _ _ _) := hi
          clear hi
          refine wpOp_plain rfl rfl ?_
          refine wp_hide (fun K hK => ?_)
          obtain ⟨z, hz⟩ := hI.good 2 (by omega) d2 (Or.inl hA)
          have e1 : x.tmps[39]?.getD undef = _ := ev_tmp hz
          have hb := bld4i (-1) 0 z 1000001
          have HJ : Hid (Ir _ _ _ _ _ _ _ _ _ _ _) := hI
          have HO : Hid _ := ho
          clear hI ho
          go_simp
          have ho := HO.out
          have hbl : Below y.heap.size y (y.alloc (.cells (arr4i (-1) 0 z 1000001) 3)) := bl_alloc (Below.refl _ _) _
          have hg9 : Lst AnyI B bm 4 (y.alloc (.cells (arr4i (-1) 0 z 1000001) 3)) (.slice (some ⟨y.heap.size, 0, none⟩) 4 4) := lst_of (cs := [.int .i64 (-1), .int .i64 0, .int .i64 z, .int .i64 1000001]) (by have := hD.z; omega) hD.z (fun v hv => by simp only [List.mem_cons, List.not_mem_nil, or_false] at hv; rcases hv with rfl | rfl | rfl | rfl <;> exact ⟨_, rfl⟩)
          exact hK.out _ _ (HJ.out.put HI.out (by omega) (Nat.le_of_ble_eq_true rfl) (hg9) (fun j u hj hne hl hc h => G10.keep (Ex.of_below hbl) hk0 j u (fun e' => by subst e'; rw [hA] at hl; cases hl) h) (Vr.turn ho hn (by omega) (hD.below hbl) (by omega)))
        · have hA : listed.getD 9 false = false := not_true (fun h => open_not ho (hI.tr 5 4 (by rfl) (hI.tr 6 5 (by rfl) (hI.tr 7 6 (by rfl) (hI.tr 9 7 (by rfl) h)))))
          have hn := hA
          obtain ⟨pc, hD, hpc⟩ := hI.v.1 hA
          have HI : Hid (_ ∈ Region.ready _ _ _) := hi
          clear hi
          refine wpOp_plain rfl rfl ?_
          refine wp_hide (fun K hK => ?_)
          have e5 : x.tmps[0]?.getD undef = .pointer (some ⟨kr, 0, none⟩) := ev_tmp (hI.out 0 (Or.inl (by omega)))
          have HJ : Hid (Ir _ _ _ _ _ _ _ _ _ _ _) := hI
          have HO : Hid _ := ho
          clear hI ho
          go_simp
          have ho := HO.out
          exact hK.out _ _ (HJ.out.put HI.out (by omega) (Nat.le_of_ble_eq_true rfl) (rfl) (fun j u _ _ _ _ h => h) (HJ.out.v.same ho (by omega) (by omega)))
        · have hA : listed.getD 9 false = false := not_true (fun h => open_not ho (hI.tr 6 5 (by rfl) (hI.tr 7 6 (by rfl) (hI.tr 9 7 (by rfl) h))))
          have hn := hA
          obtain ⟨pc, hD, hpc⟩ := hI.v.1 hA
          have d4 := dep_of hi (j := 4) (by rfl)
          have HI : Hid (_ ∈ Region.ready _ _ _) := hi
          clear hi
          refine wpOp_plain rfl rfl ?_
          refine wp_hide (fun K hK => ?_)
          have e1 : x.tmps[41]?.getD undef = .pointer (some ⟨kr, 0, none⟩) := ev_tmp (hI.good 4 (by omega) d4 (Or.inl hA))
          have HJ : Hid (Ir _ _ _ _ _ _ _ _ _ _ _) := hI
          have HO : Hid _ := ho
          clear hI ho
          go_simp
          have ho := HO.out
          refine (pickQ kr pc 4 y hD.r (by omega) (by omega) (by omega)).mono ?_
          rintro e y' ⟨z, rfl, z0, z1, r9, e9⟩
          exact hK.out _ _ (HJ.out.put HI.out (by omega) (Nat.le_of_ble_eq_true rfl) (⟨z, rfl, z0, by omega⟩) (fun j u hj hne hl hc h => G10.keep e9 hk0 j u (fun e' => by subst e'; rw [hA] at hl; cases hl) h) (Vr.turn ho hn (by omega) (hD.pick e9 r9) (by omega)))
        · have hA : listed.getD 9 false = false := not_true (fun h => open_not ho (hI.tr 7 6 (by rfl) (hI.tr 9 7 (by rfl) h)))
          have hn := hA
          obtain ⟨pc, hD, hpc⟩ := hI.v.1 hA
          have d3 := dep_of hi (j := 3) (by rfl)
          have d5 := dep_of hi (j := 5) (by rfl)
          have HI : Hid (_ ∈ Region.ready _ _ _) := hi
          clear hi
          refine wpOp_plain rfl rfl ?_
          refine wp_hide (fun K hK => ?_)
          obtain ⟨g, hg, g0, g1, g2, gc⟩ := hI.good 3 (by omega) d3 (Or.inl hA)
          obtain ⟨z, hm, m0, m1⟩ := hI.good 5 (by omega) d5 (Or.inl hA)
          have e1 : x.tmps[40]?.getD undef = _ := ev_tmp hg
          have e2 : x.tmps[42]?.getD undef = _ := ev_tmp hm
          obtain ⟨j, rfl⟩ := Int.eq_ofNat_of_zero_le m0
          obtain ⟨u, hu, hP⟩ := gc j (by omega)
          have j0 : (j : Int) < 4 := by omega
          clear gc hm hg
          have HJ : Hid (Ir _ _ _ _ _ _ _ _ _ _ _) := hI
          have HO : Hid _ := ho
          clear hI ho
          go_simp
          have ho := HO.out
          exact hK.out _ _ (HJ.out.put HI.out (by omega) (Nat.le_of_ble_eq_true rfl) (⟨g, j, u, rfl, g0, g1, g2, hu, hP⟩) (fun j u _ _ _ _ h => h) (HJ.out.v.same ho (by omega) (by omega)))
        · have hA : listed.getD 9 false = false := not_true (fun h => open_not ho (hI.tr 9 7 (by rfl) h))
          have hn := hA
          obtain ⟨pc, hD, hpc⟩ := hI.v.1 hA
          have d6 := dep_of hi (j := 6) (by rfl)
          have HI : Hid (_ ∈ Region.ready _ _ _) := hi
          clear hi
          refine wpOp_plain rfl rfl ?_
          refine wp_hide (fun K hK => ?_)
          obtain ⟨g, j, u, hv, g0, g1, g2, hu, hP⟩ := hI.good 6 (by omega) d6 (Or.inl hA)
          have e1 : x.tmps[43]?.getD undef = _ := ev_tmp hv
          obtain ⟨s, rfl⟩ := hP
          clear hv
          have HJ : Hid (Ir _ _ _ _ _ _ _ _ _ _ _) := hI
          have HO : Hid _ := ho
          clear hI ho
          go_simp
          have ho := HO.out
          exact hK.out _ _ (HJ.out.put HI.out (by omega) (Nat.le_of_ble_eq_true rfl) (⟨s, rfl⟩) (fun j u _ _ _ _ h => h) (HJ.out.v.same ho (by omega) (by omega)))
        · have hA : listed.getD 9 false = false := not_true (fun h => open_not ho (hI.tr 9 8 (by rfl) h))
          have hn := hA
          obtain ⟨pc, hD, hpc⟩ := hI.v.1 hA
          have HI : Hid (_ ∈ Region.ready _ _ _) := hi
          clear hi
          refine wpOp_plain rfl rfl ?_
          refine wp_hide (fun K hK => ?_)
          have e5 : x.tmps[5]?.getD undef = .pointer (some ⟨bm, 0, none⟩) := ev_tmp (hI.out 5 (Or.inl (by omega)))
          have HJ : Hid (Ir _ _ _ _ _ _ _ _ _ _ _) := hI
          have HO : Hid _ := ho
          clear hI ho
          go_simp
          have ho := HO.out
          exact hK.out _ _ (HJ.out.put HI.out (by omega) (Nat.le_of_ble_eq_true rfl) (rfl) (fun j u _ _ _ _ h => h) (HJ.out.v.same ho (by omega) (by omega)))
        · have hA : listed.getD 9 false = false := not_true (fun h => open_not ho h)
          have hn := hA
          obtain ⟨pc, hD, hpc⟩ := hI.v.1 hA
          have d8 := dep_of hi (j := 8) (by rfl)
          have d7 := dep_of hi (j := 7) (by rfl)
          have HI : Hid (_ ∈ Region.ready _ _ _) := hi
          clear hi
          refine wpOp_plain rfl rfl ?_
          refine wp_hide (fun K hK => ?_)
          obtain ⟨z, hz⟩ := hI.good 7 (by omega) d7 (Or.inl hA)
          have e2 : x.tmps[44]?.getD undef = _ := ev_tmp hz
          have e1 : x.tmps[45]?.getD undef = .pointer (some ⟨bm, 2, none⟩) := ev_tmp (hI.good 8 (by omega) d8 (Or.inl hA))
          have k1 : y.cell? ⟨bm, 2, none⟩ = some (.int .i64 m.ck) := hD.b 2
          have k2 : y.frozen? ⟨bm, 2, none⟩ = false := hD.c 2
          have HE : Dn W0 kr bm B { m with ck := z } (.slice a1 m.ws.length b1) (.slice a2 m.rs.length bb2) (.slice a3 m.qs.length b3) (.slice a4 m.gs.length b4) pc (y.setCell ⟨bm, 2, none⟩ (.int .i64 z)) := hD.set 2 _ (by omega) rfl (hD.l.mate rfl rfl rfl rfl) hD.nb
          have hA' : (listed.setIfInBounds 9 true).getD 9 false = true := set_same (by rw [hI.lz]; omega)
          clear hz
          have HJ : Hid (Ir _ _ _ _ _ _ _ _ _ _ _) := hI
          have HO : Hid _ := ho
          clear hI ho
          go_simp
          have ho := HO.out
          exact hK.out _ _ (HJ.out.last (u := undef) HI.out (Or.inl rfl) (Vr.fin hA' ⟨_, _, _, _, _, HE.up (by omega), fits_ck HF.out.fits⟩))
    · have k9 : y2.cell? ⟨bm, 3, none⟩ = some (.bool m.kn) := D4.out.b 3
      have f9 : y2.frozen? ⟨bm, 3, none⟩ = false := D4.out.c 3
      go_wp2_with fail
      go_meet
      have HS : Dn W0 kr bm B { m with kn := !m.kn } (.slice a1 m.ws.length b1) (.slice a2 m.rs.length bb2) (.slice a3 m.qs.length b3) (.slice a4 m.gs.length b4) (q + 1 + 1) (y2.setCell ⟨bm, 3, none⟩ (.bool (!m.kn))) := D4.out.set 3 (.bool (!m.kn)) (by omega) rfl (D4.out.l.mate rfl rfl rfl rfl) D4.out.nb
      exact ⟨_, _, _, _, _, HS.up (by omega), fits_kn HF.out.fits⟩
    · have hb := build3i (-1) 1000000 1000001
      go_wp2_with fail
      have hbl : Below y2.heap.size y2 (y2.alloc (.cells #[.int .i64 (-1), .int .i64 1000000, .int .i64 1000001] 3)) := bl_alloc (Below.refl _ _) _
      have hkz : kr < y2.heap.size := by have := D4.out.z; have := D4.out.zw; have := D4.out.zk; omega
      have DA := D4.out.below hbl
      refine (pickQ kr _ 3 _ DA.r (by omega) (by omega) (by omega)).mono ?_
      rintro e y3 ⟨z, rfl, z0, z1, r9, e9⟩
      have DB : Hid (Dn W0 kr bm B m (.slice a1 m.ws.length b1) (.slice a2 m.rs.length bb2) (.slice a3 m.qs.length b3) (.slice a4 m.gs.length b4) (q + 1 + 1 + 1) y3) := DA.pick e9 r9
      have kl : ∀ j, y3.cell? ⟨y2.heap.size, j, none⟩ = (#[.int .i64 (-1), .int .i64 1000000, .int .i64 1000001] : Array Value)[j]? := fun j => (e9.cell (p := ⟨y2.heap.size, j, none⟩) (by simp) (by show y2.heap.size ≠ kr; omega)).trans (by simp [go_sem])
      have k9 : y3.cell? ⟨bm, 4, none⟩ = some (.int .i64 m.se) := DB.out.b 4
      have f9 : y3.frozen? ⟨bm, 4, none⟩ = false := DB.out.c 4
      clear DA r9 e9
      obtain rfl | rfl | rfl : z = 0 ∨ z = 1 ∨ z = 2 := by omega
      · have k1 : y3.cell? ⟨y2.heap.size, 0, none⟩ = some (.int .i64 (-1)) := kl 0
        clear kl
        go_wp2_with fail
        go_meet
        have HS : Dn W0 kr bm B { m with se := (-1) } (.slice a1 m.ws.length b1) (.slice a2 m.rs.length bb2) (.slice a3 m.qs.length b3) (.slice a4 m.gs.length b4) (q + 1 + 1 + 1) (y3.setCell ⟨bm, 4, none⟩ (.int .i64 (-1))) := DB.out.set 4 (.int .i64 (-1)) (by omega) rfl (DB.out.l.mate rfl rfl rfl rfl) DB.out.nb
        exact ⟨_, _, _, _, _, HS.up (by omega), fits_se HF.out.fits⟩
      · have k1 : y3.cell? ⟨y2.heap.size, 1, none⟩ = some (.int .i64 1000000) := kl 1
        clear kl
        go_wp2_with fail
        go_meet
        have HS : Dn W0 kr bm B { m with se := 1000000 } (.slice a1 m.ws.length b1) (.slice a2 m.rs.length bb2) (.slice a3 m.qs.length b3) (.slice a4 m.gs.length b4) (q + 1 + 1 + 1) (y3.setCell ⟨bm, 4, none⟩ (.int .i64 1000000)) := DB.out.set 4 (.int .i64 1000000) (by omega) rfl (DB.out.l.mate rfl rfl rfl rfl) DB.out.nb
        exact ⟨_, _, _, _, _, HS.up (by omega), fits_se HF.out.fits⟩
      · have k1 : y3.cell? ⟨y2.heap.size, 2, none⟩ = some (.int .i64 1000001) := kl 2
        clear kl
        go_wp2_with fail
        go_meet
        have HS : Dn W0 kr bm B { m with se := 1000001 } (.slice a1 m.ws.length b1) (.slice a2 m.rs.length bb2) (.slice a3 m.qs.length b3) (.slice a4 m.gs.length b4) (q + 1 + 1 + 1) (y3.setCell ⟨bm, 4, none⟩ (.int .i64 1000001)) := DB.out.set 4 (.int .i64 1000001) (by omega) rfl (DB.out.l.mate rfl rfl rfl rfl) DB.out.nb
        exact ⟨_, _, _, _, _, HS.up (by omega), fits_se HF.out.fits⟩
    · have k9 : y2.cell? ⟨bm, 5, none⟩ = some (.slice a1 m.ws.length b1) := D4.out.b 5
      cases hws : m.ws with
      | nil =>
        have hs0 : ¬ ((0 : Int) < (m.ws.length : Int)) := by rw [hws]; simp
        clear hws
        go_wp2_with fail
        go_meet
        exact ⟨m, _, _, _, _, D4.out.up (by omega), HF.out.fits⟩
      | cons r0 ws =>
        have HW : Hid (m.ws = r0 :: ws) := hws
        have j1 : (0 : Int) < (m.ws.length : Int) := by rw [hws]; simp
        clear hws
        obtain ⟨g, cc, hv, -, -, -, -⟩ := W.Ow.blk D4.out.l.a1 (i := 0) (by rw [HW.out]; simp)
        simp only [Value.slice.injEq] at hv
        obtain ⟨rfl, -, rfl⟩ := hv
        go_wp2_with fail
        refine wp_region_any (by kernel_rfl) ?_
        refine reg_inv 66 9 9 (G17 kr bm B (.slice (some ⟨g, 0, none⟩) m.ws.length b1) g r0) (fun p y => Dn W0 kr bm B m (.slice (some ⟨g, 0, none⟩) m.ws.length b1) (.slice a2 m.rs.length bb2) (.slice a3 m.qs.length b3) (.slice a4 m.gs.length b4) (p) y) (fun y => ∃ m' t1 t2 t3 t4, Dn W0 kr bm B m' t1 t2 t3 t4 (q + 4300) y ∧ m'.fits) (q + 1 + 1) (by decide) rfl (Nat.le_of_ble_eq_true rfl) (D4.out.below (bl_drew (Below.refl _ _))) ?done17 ?step17
        case done17 =>
          intro l y hl hE
          obtain ⟨v0, l0, rfl, hl0⟩ := len_succ hl
          obtain ⟨v1, l1, rfl, hl1⟩ := len_succ hl0
          obtain ⟨v2, l2, rfl, hl2⟩ := len_succ hl1
          obtain ⟨v3, l3, rfl, hl3⟩ := len_succ hl2
          obtain ⟨v4, l4, rfl, hl4⟩ := len_succ hl3
          obtain ⟨v5, l5, rfl, hl5⟩ := len_succ hl4
          obtain ⟨v6, l6, rfl, hl6⟩ := len_succ hl5
          obtain ⟨v7, l7, rfl, hl7⟩ := len_succ hl6
          obtain ⟨v8, l8, rfl, hl8⟩ := len_succ hl7
          obtain rfl := len_zero hl8
          simp only [List.take_succ_cons, List.take_zero, List.drop_succ_cons, List.drop_zero, List.cons_append, List.nil_append, Nat.reduceAdd]
          go_wp2_with fail
          go_meet
          exact hE
        case step17 =>
          intro listed x y i hI hi hlt
          have ho := ready_open hi
          obtain rfl | rfl | rfl | rfl | rfl | rfl | rfl | rfl | rfl | rfl : i = 0 ∨ i = 1 ∨ i = 2 ∨ i = 3 ∨ i = 4 ∨ i = 5 ∨ i = 6 ∨ i = 7 ∨ i = 8 ∨ i = 9 := by omega
          · have hA : listed.getD 9 false = false := not_true (fun h => open_not ho (hI.tr 1 0 (by rfl) (hI.tr 8 1 (by rfl) (hI.tr 9 8 (by rfl) h))))
            have hn := hA
            obtain ⟨pc, hD, hpc⟩ := hI.v.1 hA
            have HI : Hid (_ ∈ Region.ready _ _ _) := hi
            clear hi
            refine wpOp_plain rfl rfl ?_
            refine wp_hide (fun K hK => ?_)
            have e5 : x.tmps[5]?.getD undef = .pointer (some ⟨bm, 0, none⟩) := ev_tmp (hI.out 5 (Or.inl (by omega)))
            have HJ : Hid (Ir _ _ _ _ _ _ _ _ _ _ _) := hI
            have HO : Hid _ := ho
            clear hI ho
            go_simp
            have ho := HO.out
            exact hK.out _ _ (HJ.out.put HI.out (by omega) (Nat.le_of_ble_eq_true rfl) (rfl) (fun j u _ _ _ _ h => h) (HJ.out.v.same ho (by omega) (by omega)))
          · have hA : listed.getD 9 false = false := not_true (fun h => open_not ho (hI.tr 8 1 (by rfl) (hI.tr 9 8 (by rfl) h)))
            have hn := hA
            obtain ⟨pc, hD, hpc⟩ := hI.v.1 hA
            have d0 := dep_of hi (j := 0) (by rfl)
            have HI : Hid (_ ∈ Region.ready _ _ _) := hi
            clear hi
            refine wpOp_plain rfl rfl ?_
            refine wp_hide (fun K hK => ?_)
            have e1 : x.tmps[66]?.getD undef = .pointer (some ⟨bm, 5, none⟩) := ev_tmp (hI.good 0 (by omega) d0 (Or.inl hA))
            have k1 : y.cell? ⟨bm, 5, none⟩ = some (.slice (some ⟨g, 0, none⟩) m.ws.length b1) := hD.b 5
            have HJ : Hid (Ir _ _ _ _ _ _ _ _ _ _ _) := hI
            have HO : Hid _ := ho
            clear hI ho
            go_simp
            have ho := HO.out
            exact hK.out _ _ (HJ.out.put HI.out (by omega) (Nat.le_of_ble_eq_true rfl) (rfl) (fun j u _ _ _ _ h => h) (HJ.out.v.same ho (by omega) (by omega)))
          · have hA : listed.getD 9 false = false := not_true (fun h => open_not ho (hI.tr 7 2 (by rfl) (hI.tr 9 7 (by rfl) h)))
            have hn := hA
            obtain ⟨pc, hD, hpc⟩ := hI.v.1 hA
            have HI : Hid (_ ∈ Region.ready _ _ _) := hi
            clear hi
            refine wpOp_plain rfl rfl ?_
            refine wp_hide (fun K hK => ?_)
            have e5 : x.tmps[0]?.getD undef = .pointer (some ⟨kr, 0, none⟩) := ev_tmp (hI.out 0 (Or.inl (by omega)))
            have HJ : Hid (Ir _ _ _ _ _ _ _ _ _ _ _) := hI
            have HO : Hid _ := ho
            clear hI ho
            go_simp
            have ho := HO.out
            exact hK.out _ _ (HJ.out.put HI.out (by omega) (Nat.le_of_ble_eq_true rfl) (rfl) (fun j u _ _ _ _ h => h) (HJ.out.v.same ho (by omega) (by omega)))
          · have hA : listed.getD 9 false = false := not_true (fun h => open_not ho (hI.tr 4 3 (by rfl) (hI.tr 5 4 (by rfl) (hI.tr 6 5 (by rfl) (hI.tr 7 6 (by rfl) (hI.tr 9 7 (by rfl) h))))))
            have hn := hA
            obtain ⟨pc, hD, hpc⟩ := hI.v.1 hA
            have HI : Hid (_ ∈ Region.ready _ _ _) := hi
            clear hi
            refine wpOp_plain rfl rfl ?_
            refine wp_hide (fun K hK => ?_)
            have e5 : x.tmps[5]?.getD undef = .pointer (some ⟨bm, 0, none⟩) := ev_tmp (hI.out 5 (Or.inl (by omega)))
            have HJ : Hid (Ir _ _ _ _ _ _ _ _ _ _ _) := hI
            have HO : Hid _ := ho
            clear hI ho
            go_simp
            have ho := HO.out
            exact hK.out _ _ (HJ.out.put HI.out (by omega) (Nat.le_of_ble_eq_true rfl) (rfl) (fun j u _ _ _ _ h => h) (HJ.out.v.same ho (by omega) (by omega)))
          · have hA : listed.getD 9 false = false := not_true (fun h => open_not ho (hI.tr 5 4 (by rfl) (hI.tr 6 5 (by rfl) (hI.tr 7 6 (by rfl) (hI.tr 9 7 (by rfl) h)))))
            have hn := hA
            obtain ⟨pc, hD, hpc⟩ := hI.v.1 hA
            have d3 := dep_of hi (j := 3) (by rfl)
            have HI : Hid (_ ∈ Region.ready _ _ _) := hi
            clear hi
            refine wpOp_plain rfl rfl ?_
            refine wp_hide (fun K hK => ?_)
            have e1 : x.tmps[69]?.getD undef = .pointer (some ⟨bm, 5, none⟩) := ev_tmp (hI.good 3 (by omega) d3 (Or.inl hA))
            have k1 : y.cell? ⟨bm, 5, none⟩ = some (.slice (some ⟨g, 0, none⟩) m.ws.length b1) := hD.b 5
            have HJ : Hid (Ir _ _ _ _ _ _ _ _ _ _ _) := hI
            have HO : Hid _ := ho
            clear hI ho
            go_simp
            have ho := HO.out
            exact hK.out _ _ (HJ.out.put HI.out (by omega) (Nat.le_of_ble_eq_true rfl) (rfl) (fun j u _ _ _ _ h => h) (HJ.out.v.same ho (by omega) (by omega)))
          · have hA : listed.getD 9 false = false := not_true (fun h => open_not ho (hI.tr 6 5 (by rfl) (hI.tr 7 6 (by rfl) (hI.tr 9 7 (by rfl) h))))
            have hn := hA
            obtain ⟨pc, hD, hpc⟩ := hI.v.1 hA
            have d4 := dep_of hi (j := 4) (by rfl)
            have HI : Hid (_ ∈ Region.ready _ _ _) := hi
            clear hi
            refine wpOp_plain rfl rfl ?_
            refine wp_hide (fun K hK => ?_)
            have e1 : x.tmps[70]?.getD undef = .slice (some ⟨g, 0, none⟩) m.ws.length b1 := ev_tmp (hI.good 4 (by omega) d4 (Or.inl hA))
            have j0 : (0 : Int) < (m.ws.length : Int) := by rw [HW.out]; simp
            have HJ : Hid (Ir _ _ _ _ _ _ _ _ _ _ _) := hI
            have HO : Hid _ := ho
            clear hI ho
            go_simp
            have ho := HO.out
            exact hK.out _ _ (HJ.out.put HI.out (by omega) (Nat.le_of_ble_eq_true rfl) (rfl) (fun j u _ _ _ _ h => h) (HJ.out.v.same ho (by omega) (by omega)))
          · have hA : listed.getD 9 false = false := not_true (fun h => open_not ho (hI.tr 7 6 (by rfl) (hI.tr 9 7 (by rfl) h)))
            have hn := hA
            obtain ⟨pc, hD, hpc⟩ := hI.v.1 hA
            have d5 := dep_of hi (j := 5) (by rfl)
            have HI : Hid (_ ∈ Region.ready _ _ _) := hi
            clear hi
            refine wpOp_plain rfl rfl ?_
            refine wp_hide (fun K hK => ?_)
            have e1 : x.tmps[71]?.getD undef = .pointer (some ⟨g, 0, none⟩) := ev_tmp (hI.good 5 (by omega) d5 (Or.inl hA))
            obtain ⟨c0, c1', c2', c3, c4, c5, c6⟩ := W.RowsAt.at (W.Ow.rows hD.l.a1).1 (k := 0) (r := r0) (by rw [HW.out]; rfl)
            simp only [Nat.zero_mul, Nat.zero_add] at c0 c1' c2' c3 c4 c5 c6
            have HJ : Hid (Ir _ _ _ _ _ _ _ _ _ _ _) := hI
            have HO : Hid _ := ho
            clear hI ho
            go_simp
            have ho := HO.out
            exact hK.out _ _ (HJ.out.put HI.out (by omega) (Nat.le_of_ble_eq_true rfl) (rfl) (fun j u _ _ _ _ h => h) (HJ.out.v.same ho (by omega) (by omega)))
          · have hA : listed.getD 9 false = false := not_true (fun h => open_not ho (hI.tr 9 7 (by rfl) h))
            have hn := hA
            obtain ⟨pc, hD, hpc⟩ := hI.v.1 hA
            have d2 := dep_of hi (j := 2) (by rfl)
            have d6 := dep_of hi (j := 6) (by rfl)
            have HI : Hid (_ ∈ Region.ready _ _ _) := hi
            clear hi
            refine wpOp_plain rfl rfl ?_
            refine wp_hide (fun K hK => ?_)
            have e1 : x.tmps[68]?.getD undef = .pointer (some ⟨kr, 0, none⟩) := ev_tmp (hI.good 2 (by omega) d2 (Or.inl hA))
            have e2 : x.tmps[72]?.getD undef = .agg r0.cells.toArray := ev_tmp (hI.good 6 (by omega) d6 (Or.inl hA))
            have h0 : r0.fits := HF.out.w2 r0 (by rw [HW.out]; exact List.mem_cons_self ..)
            have HJ : Hid (Ir _ _ _ _ _ _ _ _ _ _ _) := hI
            have HO : Hid _ := ho
            clear hI ho
            go_simp
            have ho := HO.out
            refine (spoilWantQ kr pc r0.c r0.h r0.v r0.p r0.s r0.d r0.g y hD.r (by omega) h0.1 h0.2).mono ?_
            rintro e y' ⟨c, h, v, p, s, d, g', rfl, hc, hh, r9, e9⟩
            exact hK.out _ _ (HJ.out.put HI.out (by omega) (Nat.le_of_ble_eq_true rfl) (⟨⟨c, h, v, p, s, d, g'⟩, rfl, hc, hh⟩) (fun j u hj hne hl hc h => G17.keep e9 hk0 j u (fun e' => by subst e'; rw [hA] at hl; cases hl) h) (Vr.turn ho hn (by omega) (hD.pick e9 r9) (by omega)))
          · have hA : listed.getD 9 false = false := not_true (fun h => open_not ho (hI.tr 9 8 (by rfl) h))
            have hn := hA
            obtain ⟨pc, hD, hpc⟩ := hI.v.1 hA
            have d1 := dep_of hi (j := 1) (by rfl)
            have HI : Hid (_ ∈ Region.ready _ _ _) := hi
            clear hi
            refine wpOp_plain rfl rfl ?_
            refine wp_hide (fun K hK => ?_)
            have e1 : x.tmps[67]?.getD undef = .slice (some ⟨g, 0, none⟩) m.ws.length b1 := ev_tmp (hI.good 1 (by omega) d1 (Or.inl hA))
            have j0 : (0 : Int) < (m.ws.length : Int) := by rw [HW.out]; simp
            have HJ : Hid (Ir _ _ _ _ _ _ _ _ _ _ _) := hI
            have HO : Hid _ := ho
            clear hI ho
            go_simp
            have ho := HO.out
            exact hK.out _ _ (HJ.out.put HI.out (by omega) (Nat.le_of_ble_eq_true rfl) (rfl) (fun j u _ _ _ _ h => h) (HJ.out.v.same ho (by omega) (by omega)))
          · have hA : listed.getD 9 false = false := not_true (fun h => open_not ho h)
            have hn := hA
            obtain ⟨pc, hD, hpc⟩ := hI.v.1 hA
            have d8 := dep_of hi (j := 8) (by rfl)
            have d7 := dep_of hi (j := 7) (by rfl)
            have HI : Hid (_ ∈ Region.ready _ _ _) := hi
            clear hi
            refine wpOp_plain rfl rfl ?_
            refine wp_hide (fun K hK => ?_)
            obtain ⟨⟨c, h, v, p, s, d, gg⟩, hv, hr⟩ := hI.good 7 (by omega) d7 (Or.inl hA)
            have hv : x.tmps.getD 73 undef = .agg #[.string c, .int .i64 v, .string h, .int .i64 p, .int .i64 s, .int .i64 d, .int .i64 gg] := hv
            have e1 : x.tmps.getD 74 undef = .pointer (some ⟨g, 0, none⟩) := hI.good 8 (by omega) d8 (Or.inl hA)
            have hA' : (listed.setIfInBounds 9 true).getD 9 false = true := set_same (by rw [hI.lz]; omega)
            have hO : W.Ow y (.slice (some ⟨g, 0, none⟩) m.ws.length b1) (r0 :: ws) B := by have h := hD.l.a1; rw [HW.out] at h ⊢; exact h
            refine wp_store_mid 36 _ _ rfl g 0 #[.string c, .int .i64 v, .string h, .int .i64 p, .int .i64 s, .int .i64 d, .int .i64 gg] e1 hv (there_sub (o := 0) (l := 7) (W.Ow.rows hO).2 (by simp; omega)) hinfoW (by simp [Value.oneCell']) ?_
            have HE : Dn W0 kr bm B { m with ws := ⟨c, h, v, p, s, d, gg⟩ :: ws } (.slice (some ⟨g, 0, none⟩) m.ws.length b1) (.slice a2 m.rs.length bb2) (.slice a3 m.qs.length b3) (.slice a4 m.gs.length b4) pc (y.setCells g 0 (⟨c, h, v, p, s, d, gg⟩ : W.WantD).cells) := Dn.want1 hD hO ⟨c, h, v, p, s, d, gg⟩
            exact hK.out _ _ (hI.last (u := undef) HI.out (Or.inl rfl) (Vr.fin hA' ⟨_, _, _, _, _, HE.up (by omega), fits_ws HF.out.fits HW.out hr⟩))
    · have k9 : y2.cell? ⟨bm, 6, none⟩ = some (.slice a2 m.rs.length bb2) := D4.out.b 6
      by_cases hrs : 0 < m.rs.length
      · have hkl := hk hrs
        have j1 : (0 : Int) < (m.rs.length : Int) := by omega
        obtain ⟨r0, hr0⟩ : ∃ r0, m.rs[k]? = some r0 := ⟨m.rs[k], List.getElem?_eq_getElem hkl⟩
        have HK : Hid (m.rs[k]? = some r0) := hr0
        clear hr0 hk
        obtain ⟨g, cc, hv, -, -, -, -⟩ := Ow.blk D4.out.l.a2 hkl
        simp only [Value.slice.injEq] at hv
        obtain ⟨rfl, -, rfl⟩ := hv
        go_wp2_with fail
        refine wp_region_any (by kernel_rfl) ?_
        refine reg_inv 82 11 11 (G21 kr bm B (.slice (some ⟨g, 0, none⟩) m.rs.length bb2) g k r0) (fun p y => Dn W0 kr bm B m (.slice a1 m.ws.length b1) (.slice (some ⟨g, 0, none⟩) m.rs.length bb2) (.slice a3 m.qs.length b3) (.slice a4 m.gs.length b4) (p) y) (fun y => ∃ m' t1 t2 t3 t4, Dn W0 kr bm B m' t1 t2 t3 t4 (q + 4300) y ∧ m'.fits) (q + 1 + 1) (by decide) rfl (Nat.le_of_ble_eq_true rfl) (D4.out.below (bl_drew (Below.refl _ _))) ?done21 ?step21
        case done21 =>
          intro l y hl hE
          obtain ⟨v0, l0, rfl, hl0⟩ := len_succ hl
          obtain ⟨v1, l1, rfl, hl1⟩ := len_succ hl0
          obtain ⟨v2, l2, rfl, hl2⟩ := len_succ hl1
          obtain ⟨v3, l3, rfl, hl3⟩ := len_succ hl2
          obtain ⟨v4, l4, rfl, hl4⟩ := len_succ hl3
          obtain ⟨v5, l5, rfl, hl5⟩ := len_succ hl4
          obtain ⟨v6, l6, rfl, hl6⟩ := len_succ hl5
          obtain ⟨v7, l7, rfl, hl7⟩ := len_succ hl6
          obtain ⟨v8, l8, rfl, hl8⟩ := len_succ hl7
          obtain ⟨v9, l9, rfl, hl9⟩ := len_succ hl8
          obtain ⟨v10, l10, rfl, hl10⟩ := len_succ hl9
          obtain rfl := len_zero hl10
          simp only [List.take_succ_cons, List.take_zero, List.drop_succ_cons, List.drop_zero, List.cons_append, List.nil_append, Nat.reduceAdd]
          go_wp2_with fail
          go_meet
          exact hE
        case step21 =>
          intro listed x y i hI hi hlt
          have ho := ready_open hi
          obtain rfl | rfl | rfl | rfl | rfl | rfl | rfl | rfl | rfl | rfl | rfl | rfl : i = 0 ∨ i = 1 ∨ i = 2 ∨ i = 3 ∨ i = 4 ∨ i = 5 ∨ i = 6 ∨ i = 7 ∨ i = 8 ∨ i = 9 ∨ i = 10 ∨ i = 11 := by omega
          · have hA : listed.getD 11 false = false := not_true (fun h => open_not ho (hI.tr 1 0 (by rfl) (hI.tr 10 1 (by rfl) (hI.tr 11 10 (by rfl) h))))
            have hn := hA
            obtain ⟨pc, hD, hpc⟩ := hI.v.1 hA
            have HI : Hid (_ ∈ Region.ready _ _ _) := hi
            clear hi
            refine wpOp_plain rfl rfl ?_
            refine wp_hide (fun K hK => ?_)
            have e5 : x.tmps[5]?.getD undef = .pointer (some ⟨bm, 0, none⟩) := ev_tmp (hI.out 5 (Or.inl (by omega)))
            have HJ : Hid (Ir _ _ _ _ _ _ _ _ _ _ _) := hI
            have HO : Hid _ := ho
            clear hI ho
            go_simp
            have ho := HO.out
            exact hK.out _ _ (HJ.out.put HI.out (by omega) (Nat.le_of_ble_eq_true rfl) (rfl) (fun j u _ _ _ _ h => h) (HJ.out.v.same ho (by omega) (by omega)))
          · have hA : listed.getD 11 false = false := not_true (fun h => open_not ho (hI.tr 10 1 (by rfl) (hI.tr 11 10 (by rfl) h)))
            have hn := hA
            obtain ⟨pc, hD, hpc⟩ := hI.v.1 hA
            have d0 := dep_of hi (j := 0) (by rfl)
            have HI : Hid (_ ∈ Region.ready _ _ _) := hi
            clear hi
            refine wpOp_plain rfl rfl ?_
            refine wp_hide (fun K hK => ?_)
            have e1 : x.tmps[82]?.getD undef = .pointer (some ⟨bm, 6, none⟩) := ev_tmp (hI.good 0 (by omega) d0 (Or.inl hA))
            have k1 : y.cell? ⟨bm, 6, none⟩ = some (.slice (some ⟨g, 0, none⟩) m.rs.length bb2) := hD.b 6
            have HJ : Hid (Ir _ _ _ _ _ _ _ _ _ _ _) := hI
            have HO : Hid _ := ho
            clear hI ho
            go_simp
            have ho := HO.out
            exact hK.out _ _ (HJ.out.put HI.out (by omega) (Nat.le_of_ble_eq_true rfl) (rfl) (fun j u _ _ _ _ h => h) (HJ.out.v.same ho (by omega) (by omega)))
          · have hA : listed.getD 11 false = false := not_true (fun h => open_not ho (hI.tr 10 2 (by rfl) (hI.tr 11 10 (by rfl) h)))
            have hn := hA
            obtain ⟨pc, hD, hpc⟩ := hI.v.1 hA
            have HI : Hid (_ ∈ Region.ready _ _ _) := hi
            clear hi
            refine wpOp_plain rfl rfl ?_
            refine wp_hide (fun K hK => ?_)
            have e5 : x.tmps[6]?.getD undef = .int .i64 (k : Int) := ev_tmp (hI.out 6 (Or.inl (by omega)))
            have HJ : Hid (Ir _ _ _ _ _ _ _ _ _ _ _) := hI
            have HO : Hid _ := ho
            clear hI ho
            go_simp
            have ho := HO.out
            exact hK.out _ _ (HJ.out.put HI.out (by omega) (Nat.le_of_ble_eq_true rfl) (rfl) (fun j u _ _ _ _ h => h) (HJ.out.v.same ho (by omega) (by omega)))
          · have hA : listed.getD 11 false = false := not_true (fun h => open_not ho (hI.tr 9 3 (by rfl) (hI.tr 11 9 (by rfl) h)))
            have hn := hA
            obtain ⟨pc, hD, hpc⟩ := hI.v.1 hA
            have HI : Hid (_ ∈ Region.ready _ _ _) := hi
            clear hi
            refine wpOp_plain rfl rfl ?_
            refine wp_hide (fun K hK => ?_)
            have e5 : x.tmps[0]?.getD undef = .pointer (some ⟨kr, 0, none⟩) := ev_tmp (hI.out 0 (Or.inl (by omega)))
            have HJ : Hid (Ir _ _ _ _ _ _ _ _ _ _ _) := hI
            have HO : Hid _ := ho
            clear hI ho
            go_simp
            have ho := HO.out
            exact hK.out _ _ (HJ.out.put HI.out (by omega) (Nat.le_of_ble_eq_true rfl) (rfl) (fun j u _ _ _ _ h => h) (HJ.out.v.same ho (by omega) (by omega)))
          · have hA : listed.getD 11 false = false := not_true (fun h => open_not ho (hI.tr 5 4 (by rfl) (hI.tr 7 5 (by rfl) (hI.tr 8 7 (by rfl) (hI.tr 9 8 (by rfl) (hI.tr 11 9 (by rfl) h))))))
            have hn := hA
            obtain ⟨pc, hD, hpc⟩ := hI.v.1 hA
            have HI : Hid (_ ∈ Region.ready _ _ _) := hi
            clear hi
            refine wpOp_plain rfl rfl ?_
            refine wp_hide (fun K hK => ?_)
            have e5 : x.tmps[5]?.getD undef = .pointer (some ⟨bm, 0, none⟩) := ev_tmp (hI.out 5 (Or.inl (by omega)))
            have HJ : Hid (Ir _ _ _ _ _ _ _ _ _ _ _) := hI
            have HO : Hid _ := ho
            clear hI ho
            go_simp
            have ho := HO.out
            exact hK.out _ _ (HJ.out.put HI.out (by omega) (Nat.le_of_ble_eq_true rfl) (rfl) (fun j u _ _ _ _ h => h) (HJ.out.v.same ho (by omega) (by omega)))
          · have hA : listed.getD 11 false = false := not_true (fun h => open_not ho (hI.tr 7 5 (by rfl) (hI.tr 8 7 (by rfl) (hI.tr 9 8 (by rfl) (hI.tr 11 9 (by rfl) h)))))
            have hn := hA
            obtain ⟨pc, hD, hpc⟩ := hI.v.1 hA
            have d4 := dep_of hi (j := 4) (by rfl)
            have HI : Hid (_ ∈ Region.ready _ _ _) := hi
            clear hi
            refine wpOp_plain rfl rfl ?_
            refine wp_hide (fun K hK => ?_)
            have e1 : x.tmps[86]?.getD undef = .pointer (some ⟨bm, 6, none⟩) := ev_tmp (hI.good 4 (by omega) d4 (Or.inl hA))
            have k1 : y.cell? ⟨bm, 6, none⟩ = some (.slice (some ⟨g, 0, none⟩) m.rs.length bb2) := hD.b 6
            have HJ : Hid (Ir _ _ _ _ _ _ _ _ _ _ _) := hI
            have HO : Hid _ := ho
            clear hI ho
            go_simp
            have ho := HO.out
            exact hK.out _ _ (HJ.out.put HI.out (by omega) (Nat.le_of_ble_eq_true rfl) (rfl) (fun j u _ _ _ _ h => h) (HJ.out.v.same ho (by omega) (by omega)))
          · have hA : listed.getD 11 false = false := not_true (fun h => open_not ho (hI.tr 7 6 (by rfl) (hI.tr 8 7 (by rfl) (hI.tr 9 8 (by rfl) (hI.tr 11 9 (by rfl) h)))))
            have hn := hA
            obtain ⟨pc, hD, hpc⟩ := hI.v.1 hA
            have HI : Hid (_ ∈ Region.ready _ _ _) := hi
            clear hi
            refine wpOp_plain rfl rfl ?_
            refine wp_hide (fun K hK => ?_)
            have e5 : x.tmps[6]?.getD undef = .int .i64 (k : Int) := ev_tmp (hI.out 6 (Or.inl (by omega)))
            have HJ : Hid (Ir _ _ _ _ _ _ _ _ _ _ _) := hI
            have HO : Hid _ := ho
            clear hI ho
            go_simp
            have ho := HO.out
            exact hK.out _ _ (HJ.out.put HI.out (by omega) (Nat.le_of_ble_eq_true rfl) (rfl) (fun j u _ _ _ _ h => h) (HJ.out.v.same ho (by omega) (by omega)))
          · have hA : listed.getD 11 false = false := not_true (fun h => open_not ho (hI.tr 8 7 (by rfl) (hI.tr 9 8 (by rfl) (hI.tr 11 9 (by rfl) h))))
            have hn := hA
            obtain ⟨pc, hD, hpc⟩ := hI.v.1 hA
            have d5 := dep_of hi (j := 5) (by rfl)
            have d6 := dep_of hi (j := 6) (by rfl)
            have HI : Hid (_ ∈ Region.ready _ _ _) := hi
            clear hi
            refine wpOp_plain rfl rfl ?_
            refine wp_hide (fun K hK => ?_)
            have e1 : x.tmps[87]?.getD undef = .slice (some ⟨g, 0, none⟩) m.rs.length bb2 := ev_tmp (hI.good 5 (by omega) d5 (Or.inl hA))
            have e2 : x.tmps[88]?.getD undef = .int .i64 (k : Int) := ev_tmp (hI.good 6 (by omega) d6 (Or.inl hA))
            have j1 : (k : Int) < (m.rs.length : Int) := by omega
            have HJ : Hid (Ir _ _ _ _ _ _ _ _ _ _ _) := hI
            have HO : Hid _ := ho
            clear hI ho
            go_simp
            have ho := HO.out
            exact hK.out _ _ (HJ.out.put HI.out (by omega) (Nat.le_of_ble_eq_true rfl) (rfl) (fun j u _ _ _ _ h => h) (HJ.out.v.same ho (by omega) (by omega)))
          · have hA : listed.getD 11 false = false := not_true (fun h => open_not ho (hI.tr 9 8 (by rfl) (hI.tr 11 9 (by rfl) h)))
            have hn := hA
            obtain ⟨pc, hD, hpc⟩ := hI.v.1 hA
            have d7 := dep_of hi (j := 7) (by rfl)
            have HI : Hid (_ ∈ Region.ready _ _ _) := hi
            clear hi
            refine wpOp_plain rfl rfl ?_
            refine wp_hide (fun K hK => ?_)
            have e1 : x.tmps[89]?.getD undef = .pointer (some ⟨g, k * 11, none⟩) := ev_tmp (hI.good 7 (by omega) d7 (Or.inl hA))
            obtain ⟨c0', c1', c2', c3', c4', c5', c6', c7', c8', c9', c10'⟩ := RowsAt.at (Ow.rows hD.l.a2).1 HK.out
            simp only [Nat.zero_add] at c0' c1' c2' c3' c4' c5' c6' c7' c8' c9' c10'
            have HJ : Hid (Ir _ _ _ _ _ _ _ _ _ _ _) := hI
            have HO : Hid _ := ho
            clear hI ho
            go_simp
            have ho := HO.out
            exact hK.out _ _ (HJ.out.put HI.out (by omega) (Nat.le_of_ble_eq_true rfl) (rfl) (fun j u _ _ _ _ h => h) (HJ.out.v.same ho (by omega) (by omega)))
          · have hA : listed.getD 11 false = false := not_true (fun h => open_not ho (hI.tr 11 9 (by rfl) h))
            have hn := hA
            obtain ⟨pc, hD, hpc⟩ := hI.v.1 hA
            have d3 := dep_of hi (j := 3) (by rfl)
            have d8 := dep_of hi (j := 8) (by rfl)
            have HI : Hid (_ ∈ Region.ready _ _ _) := hi
            clear hi
            refine wpOp_plain rfl rfl ?_
            refine wp_hide (fun K hK => ?_)
            have e1 : x.tmps[85]?.getD undef = .pointer (some ⟨kr, 0, none⟩) := ev_tmp (hI.good 3 (by omega) d3 (Or.inl hA))
            have e2 : x.tmps[90]?.getD undef = .agg r0.cells.toArray := ev_tmp (hI.good 8 (by omega) d8 (Or.inl hA))
            have h0 : Small r0 := HF.out.r2 r0 (List.mem_of_getElem? HK.out)
            have HJ : Hid (Ir _ _ _ _ _ _ _ _ _ _ _) := hI
            have HO : Hid _ := ho
            clear hI ho
            go_simp
            have ho := HO.out
            refine (spoilRunQ kr pc r0.c r0.h r0.v r0.p r0.s r0.d r0.g r0.a r0.b r0.i r0.u y hD.r (by omega) h0.2.2.1.2 ⟨by have := h0.2.2.2.1.1; omega, h0.2.2.2.1.2⟩ h0.1 h0.2.1).mono ?_
            rintro e y' ⟨c, h, v, p, s, d, g', x1, x2, x3, x4, rfl, k2, k3, hc, hh, r9, e9⟩
            exact hK.out _ _ (HJ.out.put HI.out (by omega) (Nat.le_of_ble_eq_true rfl) (⟨⟨c, h, v, p, s, d, g', x1, x2, x3, x4⟩, rfl, hc, hh, by show x2 ≤ _; omega, by show _ ≤ x3; omega⟩) (fun j u hj hne hl hc h => G21.keep e9 hk0 j u (fun e' => by subst e'; rw [hA] at hl; cases hl) h) (Vr.turn ho hn (by omega) (hD.pick e9 r9) (by omega)))
          · have hA : listed.getD 11 false = false := not_true (fun h => open_not ho (hI.tr 11 10 (by rfl) h))
            have hn := hA
            obtain ⟨pc, hD, hpc⟩ := hI.v.1 hA
            have d1 := dep_of hi (j := 1) (by rfl)
            have d2 := dep_of hi (j := 2) (by rfl)
            have HI : Hid (_ ∈ Region.ready _ _ _) := hi
            clear hi
            refine wpOp_plain rfl rfl ?_
            refine wp_hide (fun K hK => ?_)
            have e1 : x.tmps[83]?.getD undef = .slice (some ⟨g, 0, none⟩) m.rs.length bb2 := ev_tmp (hI.good 1 (by omega) d1 (Or.inl hA))
            have e2 : x.tmps[84]?.getD undef = .int .i64 (k : Int) := ev_tmp (hI.good 2 (by omega) d2 (Or.inl hA))
            have j1 : (k : Int) < (m.rs.length : Int) := by omega
            have HJ : Hid (Ir _ _ _ _ _ _ _ _ _ _ _) := hI
            have HO : Hid _ := ho
            clear hI ho
            go_simp
            have ho := HO.out
            exact hK.out _ _ (HJ.out.put HI.out (by omega) (Nat.le_of_ble_eq_true rfl) (rfl) (fun j u _ _ _ _ h => h) (HJ.out.v.same ho (by omega) (by omega)))
          · have hA : listed.getD 11 false = false := not_true (fun h => open_not ho h)
            have hn := hA
            obtain ⟨pc, hD, hpc⟩ := hI.v.1 hA
            have d10 := dep_of hi (j := 10) (by rfl)
            have d9 := dep_of hi (j := 9) (by rfl)
            have HI : Hid (_ ∈ Region.ready _ _ _) := hi
            clear hi
            refine wpOp_plain rfl rfl ?_
            refine wp_hide (fun K hK => ?_)
            obtain ⟨⟨c, h, v, p, s, d, gg, x1, x2, x3, x4⟩, hv, hr⟩ := hI.good 9 (by omega) d9 (Or.inl hA)
            have hv : x.tmps.getD 91 undef = .agg #[.string c, .int .i64 v, .string h, .int .i64 p, .int .i64 s, .int .i64 d, .int .i64 gg, .int .i64 x1, .int .i64 x2, .int .i64 x3, .int .i64 x4] := hv
            have e1 : x.tmps.getD 92 undef = .pointer (some ⟨g, k * 11, none⟩) := hI.good 10 (by omega) d10 (Or.inl hA)
            have hA' : (listed.setIfInBounds 11 true).getD 11 false = true := set_same (by rw [hI.lz]; omega)
            have hO : Ow y (.slice (some ⟨g, 0, none⟩) m.rs.length bb2) m.rs B := hD.l.a2
            refine wp_store_mid 38 _ _ rfl g (k * 11) #[.string c, .int .i64 v, .string h, .int .i64 p, .int .i64 s, .int .i64 d, .int .i64 gg, .int .i64 x1, .int .i64 x2, .int .i64 x3, .int .i64 x4] e1 hv (there_sub (o := k * 11) (l := 11) (Ow.rows hO).2 (by omega)) hinfoR (by simp [Value.oneCell']) ?_
            have HE : Dn W0 kr bm B { m with rs := m.rs.set k ⟨c, h, v, p, s, d, gg, x1, x2, x3, x4⟩ } (.slice a1 m.ws.length b1) (.slice (some ⟨g, 0, none⟩) m.rs.length bb2) (.slice a3 m.qs.length b3) (.slice a4 m.gs.length b4) pc (y.setCells g (k * 11) (⟨c, h, v, p, s, d, gg, x1, x2, x3, x4⟩ : RunD).cells) := Dn.run1 hD ⟨c, h, v, p, s, d, gg, x1, x2, x3, x4⟩ hkl
            exact hK.out _ _ (hI.last (u := undef) HI.out (Or.inl rfl) (Vr.fin hA' ⟨_, _, _, _, _, HE.up (by omega), fits_rs HF.out.fits hr⟩))
      · have j1 : ¬ ((0 : Int) < (m.rs.length : Int)) := by omega
        go_wp2_with fail
        go_meet
        exact ⟨m, _, _, _, _, D4.out.up (by omega), HF.out.fits⟩
    · have k9 : y2.cell? ⟨bm, 6, none⟩ = some (.slice a2 m.rs.length bb2) := D4.out.b 6
      by_cases hrs : 0 < m.rs.length
      · have hkl := hk hrs
        have j1 : (0 : Int) < (m.rs.length : Int) := by omega
        obtain ⟨r0, hr0⟩ : ∃ r0, m.rs[k]? = some r0 := ⟨m.rs[k], List.getElem?_eq_getElem hkl⟩
        have HK : Hid (m.rs[k]? = some r0) := hr0
        clear hr0 hk
        obtain ⟨g, cc, hv, -, -, -, -⟩ := Ow.blk D4.out.l.a2 hkl
        simp only [Value.slice.injEq] at hv
        obtain ⟨rfl, -, rfl⟩ := hv
        go_wp2_with fail
        refine wp_region_any (by kernel_rfl) ?_
        refine reg_inv 82 11 11 (G21 kr bm B (.slice (some ⟨g, 0, none⟩) m.rs.length bb2) g k r0) (fun p y => Dn W0 kr bm B m (.slice a1 m.ws.length b1) (.slice (some ⟨g, 0, none⟩) m.rs.length bb2) (.slice a3 m.qs.length b3) (.slice a4 m.gs.length b4) (p) y) (fun y => ∃ m' t1 t2 t3 t4, Dn W0 kr bm B m' t1 t2 t3 t4 (q + 4300) y ∧ m'.fits) (q + 1 + 1) (by decide) rfl (Nat.le_of_ble_eq_true rfl) (D4.out.below (bl_drew (Below.refl _ _))) ?done21 ?step21
        case done21 =>
          intro l y hl hE
          obtain ⟨v0, l0, rfl, hl0⟩ := len_succ hl
          obtain ⟨v1, l1, rfl, hl1⟩ := len_succ hl0
          obtain ⟨v2, l2, rfl, hl2⟩ := len_succ hl1
          obtain ⟨v3, l3, rfl, hl3⟩ := len_succ hl2
          obtain ⟨v4, l4, rfl, hl4⟩ := len_succ hl3
          obtain ⟨v5, l5, rfl, hl5⟩ := len_succ hl4
          obtain ⟨v6, l6, rfl, hl6⟩ := len_succ hl5
          obtain ⟨v7, l7, rfl, hl7⟩ := len_succ hl6
          obtain ⟨v8, l8, rfl, hl8⟩ := len_succ hl7
          obtain ⟨v9, l9, rfl, hl9⟩ := len_succ hl8
          obtain ⟨v10, l10, rfl, hl10⟩ := len_succ hl9
          obtain rfl := len_zero hl10
          simp only [List.take_succ_cons, List.take_zero, List.drop_succ_cons, List.drop_zero, List.cons_append, List.nil_append, Nat.reduceAdd]
          go_wp2_with fail
          go_meet
          exact hE
        case step21 =>
          intro listed x y i hI hi hlt
          have ho := ready_open hi
          obtain rfl | rfl | rfl | rfl | rfl | rfl | rfl | rfl | rfl | rfl | rfl | rfl : i = 0 ∨ i = 1 ∨ i = 2 ∨ i = 3 ∨ i = 4 ∨ i = 5 ∨ i = 6 ∨ i = 7 ∨ i = 8 ∨ i = 9 ∨ i = 10 ∨ i = 11 := by omega
          · have hA : listed.getD 11 false = false := not_true (fun h => open_not ho (hI.tr 1 0 (by rfl) (hI.tr 10 1 (by rfl) (hI.tr 11 10 (by rfl) h))))
            have hn := hA
            obtain ⟨pc, hD, hpc⟩ := hI.v.1 hA
            have HI : Hid (_ ∈ Region.ready _ _ _) := hi
            clear hi
            refine wpOp_plain rfl rfl ?_
            refine wp_hide (fun K hK => ?_)
            have e5 : x.tmps[5]?.getD undef = .pointer (some ⟨bm, 0, none⟩) := ev_tmp (hI.out 5 (Or.inl (by omega)))
            have HJ : Hid (Ir _ _ _ _ _ _ _ _ _ _ _) := hI
            have HO : Hid _ := ho
            clear hI ho
            go_simp
            have ho := HO.out
            exact hK.out _ _ (HJ.out.put HI.out (by omega) (Nat.le_of_ble_eq_true rfl) (rfl) (fun j u _ _ _ _ h => h) (HJ.out.v.same ho (by omega) (by omega)))
          · have hA : listed.getD 11 false = false := not_true (fun h => open_not ho (hI.tr 10 1 (by rfl) (hI.tr 11 10 (by rfl) h)))
            have hn := hA
            obtain ⟨pc, hD, hpc⟩ := hI.v.1 hA
            have d0 := dep_of hi (j := 0) (by rfl)
            have HI : Hid (_ ∈ Region.ready _ _ _) := hi
            clear hi
            refine wpOp_plain rfl rfl ?_
            refine wp_hide (fun K hK => ?_)
            have e1 : x.tmps[82]?.getD undef = .pointer (some ⟨bm, 6, none⟩) := ev_tmp (hI.good 0 (by omega) d0 (Or.inl hA))
            have k1 : y.cell? ⟨bm, 6, none⟩ = some (.slice (some ⟨g, 0, none⟩) m.rs.length bb2) := hD.b 6
            have HJ : Hid (Ir _ _ _ _ _ _ _ _ _ _ _) := hI
            have HO : Hid _ := ho
            clear hI ho
            go_simp
            have ho := HO.out
            exact hK.out _ _ (HJ.out.put HI.out (by omega) (Nat.le_of_ble_eq_true rfl) (rfl) (fun j u _ _ _ _ h => h) (HJ.out.v.same ho (by omega) (by omega)))
          · have hA : listed.getD 11 false = false := not_true (fun h => open_not ho (hI.tr 10 2 (by rfl) (hI.tr 11 10 (by rfl) h)))
            have hn := hA
            obtain ⟨pc, hD, hpc⟩ := hI.v.1 hA
            have HI : Hid (_ ∈ Region.ready _ _ _) := hi
            clear hi
            refine wpOp_plain rfl rfl ?_
            refine wp_hide (fun K hK => ?_)
            have e5 : x.tmps[6]?.getD undef = .int .i64 (k : Int) := ev_tmp (hI.out 6 (Or.inl (by omega)))
            have HJ : Hid (Ir _ _ _ _ _ _ _ _ _ _ _) := hI
            have HO : Hid _ := ho
            clear hI ho
            go_simp
            have ho := HO.out
            exact hK.out _ _ (HJ.out.put HI.out (by omega) (Nat.le_of_ble_eq_true rfl) (rfl) (fun j u _ _ _ _ h => h) (HJ.out.v.same ho (by omega) (by omega)))
          · have hA : listed.getD 11 false = false := not_true (fun h => open_not ho (hI.tr 9 3 (by rfl) (hI.tr 11 9 (by rfl) h)))
            have hn := hA
            obtain ⟨pc, hD, hpc⟩ := hI.v.1 hA
            have HI : Hid (_ ∈ Region.ready _ _ _) := hi
            clear hi
            refine wpOp_plain rfl rfl ?_
            refine wp_hide (fun K hK => ?_)
            have e5 : x.tmps[0]?.getD undef = .pointer (some ⟨kr, 0, none⟩) := ev_tmp (hI.out 0 (Or.inl (by omega)))
            have HJ : Hid (Ir _ _ _ _ _ _ _ _ _ _ _) := hI
            have HO : Hid _ := ho
            clear hI ho
            go_simp
            have ho := HO.out
            exact hK.out _ _ (HJ.out.put HI.out (by omega) (Nat.le_of_ble_eq_true rfl) (rfl) (fun j u _ _ _ _ h => h) (HJ.out.v.same ho (by omega) (by omega)))
          · have hA : listed.getD 11 false = false := not_true (fun h => open_not ho (hI.tr 5 4 (by rfl) (hI.tr 7 5 (by rfl) (hI.tr 8 7 (by rfl) (hI.tr 9 8 (by rfl) (hI.tr 11 9 (by rfl) h))))))
            have hn := hA
            obtain ⟨pc, hD, hpc⟩ := hI.v.1 hA
            have HI : Hid (_ ∈ Region.ready _ _ _) := hi
            clear hi
            refine wpOp_plain rfl rfl ?_
            refine wp_hide (fun K hK => ?_)
            have e5 : x.tmps[5]?.getD undef = .pointer (some ⟨bm, 0, none⟩) := ev_tmp (hI.out 5 (Or.inl (by omega)))
            have HJ : Hid (Ir _ _ _ _ _ _ _ _ _ _ _) := hI
            have HO : Hid _ := ho
            clear hI ho
            go_simp
            have ho := HO.out
            exact hK.out _ _ (HJ.out.put HI.out (by omega) (Nat.le_of_ble_eq_true rfl) (rfl) (fun j u _ _ _ _ h => h) (HJ.out.v.same ho (by omega) (by omega)))
          · have hA : listed.getD 11 false = false := not_true (fun h => open_not ho (hI.tr 7 5 (by rfl) (hI.tr 8 7 (by rfl) (hI.tr 9 8 (by rfl) (hI.tr 11 9 (by rfl) h)))))
            have hn := hA
            obtain ⟨pc, hD, hpc⟩ := hI.v.1 hA
            have d4 := dep_of hi (j := 4) (by rfl)
            have HI : Hid (_ ∈ Region.ready _ _ _) := hi
            clear hi
            refine wpOp_plain rfl rfl ?_
            refine wp_hide (fun K hK => ?_)
            have e1 : x.tmps[86]?.getD undef = .pointer (some ⟨bm, 6, none⟩) := ev_tmp (hI.good 4 (by omega) d4 (Or.inl hA))
            have k1 : y.cell? ⟨bm, 6, none⟩ = some (.slice (some ⟨g, 0, none⟩) m.rs.length bb2) := hD.b 6
            have HJ : Hid (Ir _ _ _ _ _ _ _ _ _ _ _) := hI
            have HO : Hid _ := ho
            clear hI ho
            go_simp
            have ho := HO.out
            exact hK.out _ _ (HJ.out.put HI.out (by omega) (Nat.le_of_ble_eq_true rfl) (rfl) (fun j u _ _ _ _ h => h) (HJ.out.v.same ho (by omega) (by omega)))
          · have hA : listed.getD 11 false = false := not_true (fun h => open_not ho (hI.tr 7 6 (by rfl) (hI.tr 8 7 (by rfl) (hI.tr 9 8 (by rfl) (hI.tr 11 9 (by rfl) h)))))
            have hn := hA
            obtain ⟨pc, hD, hpc⟩ := hI.v.1 hA
            have HI : Hid (_ ∈ Region.ready _ _ _) := hi
            clear hi
            refine wpOp_plain rfl rfl ?_
            refine wp_hide (fun K hK => ?_)
            have e5 : x.tmps[6]?.getD undef = .int .i64 (k : Int) := ev_tmp (hI.out 6 (Or.inl (by omega)))
            have HJ : Hid (Ir _ _ _ _ _ _ _ _ _ _ _) := hI
            have HO : Hid _ := ho
            clear hI ho
            go_simp
            have ho := HO.out
            exact hK.out _ _ (HJ.out.put HI.out (by omega) (Nat.le_of_ble_eq_true rfl) (rfl) (fun j u _ _ _ _ h => h) (HJ.out.v.same ho (by omega) (by omega)))
          · have hA : listed.getD 11 false = false := not_true (fun h => open_not ho (hI.tr 8 7 (by rfl) (hI.tr 9 8 (by rfl) (hI.tr 11 9 (by rfl) h))))
            have hn := hA
            obtain ⟨pc, hD, hpc⟩ := hI.v.1 hA
            have d5 := dep_of hi (j := 5) (by rfl)
            have d6 := dep_of hi (j := 6) (by rfl)
            have HI : Hid (_ ∈ Region.ready _ _ _) := hi
            clear hi
            refine wpOp_plain rfl rfl ?_
            refine wp_hide (fun K hK => ?_)
            have e1 : x.tmps[87]?.getD undef = .slice (some ⟨g, 0, none⟩) m.rs.length bb2 := ev_tmp (hI.good 5 (by omega) d5 (Or.inl hA))
            have e2 : x.tmps[88]?.getD undef = .int .i64 (k : Int) := ev_tmp (hI.good 6 (by omega) d6 (Or.inl hA))
            have j1 : (k : Int) < (m.rs.length : Int) := by omega
            have HJ : Hid (Ir _ _ _ _ _ _ _ _ _ _ _) := hI
            have HO : Hid _ := ho
            clear hI ho
            go_simp
            have ho := HO.out
            exact hK.out _ _ (HJ.out.put HI.out (by omega) (Nat.le_of_ble_eq_true rfl) (rfl) (fun j u _ _ _ _ h => h) (HJ.out.v.same ho (by omega) (by omega)))
          · have hA : listed.getD 11 false = false := not_true (fun h => open_not ho (hI.tr 9 8 (by rfl) (hI.tr 11 9 (by rfl) h)))
            have hn := hA
            obtain ⟨pc, hD, hpc⟩ := hI.v.1 hA
            have d7 := dep_of hi (j := 7) (by rfl)
            have HI : Hid (_ ∈ Region.ready _ _ _) := hi
            clear hi
            refine wpOp_plain rfl rfl ?_
            refine wp_hide (fun K hK => ?_)
            have e1 : x.tmps[89]?.getD undef = .pointer (some ⟨g, k * 11, none⟩) := ev_tmp (hI.good 7 (by omega) d7 (Or.inl hA))
            obtain ⟨c0', c1', c2', c3', c4', c5', c6', c7', c8', c9', c10'⟩ := RowsAt.at (Ow.rows hD.l.a2).1 HK.out
            simp only [Nat.zero_add] at c0' c1' c2' c3' c4' c5' c6' c7' c8' c9' c10'
            have HJ : Hid (Ir _ _ _ _ _ _ _ _ _ _ _) := hI
            have HO : Hid _ := ho
            clear hI ho
            go_simp
            have ho := HO.out
            exact hK.out _ _ (HJ.out.put HI.out (by omega) (Nat.le_of_ble_eq_true rfl) (rfl) (fun j u _ _ _ _ h => h) (HJ.out.v.same ho (by omega) (by omega)))
          · have hA : listed.getD 11 false = false := not_true (fun h => open_not ho (hI.tr 11 9 (by rfl) h))
            have hn := hA
            obtain ⟨pc, hD, hpc⟩ := hI.v.1 hA
            have d3 := dep_of hi (j := 3) (by rfl)
            have d8 := dep_of hi (j := 8) (by rfl)
            have HI : Hid (_ ∈ Region.ready _ _ _) := hi
            clear hi
            refine wpOp_plain rfl rfl ?_
            refine wp_hide (fun K hK => ?_)
            have e1 : x.tmps[85]?.getD undef = .pointer (some ⟨kr, 0, none⟩) := ev_tmp (hI.good 3 (by omega) d3 (Or.inl hA))
            have e2 : x.tmps[90]?.getD undef = .agg r0.cells.toArray := ev_tmp (hI.good 8 (by omega) d8 (Or.inl hA))
            have h0 : Small r0 := HF.out.r2 r0 (List.mem_of_getElem? HK.out)
            have HJ : Hid (Ir _ _ _ _ _ _ _ _ _ _ _) := hI
            have HO : Hid _ := ho
            clear hI ho
            go_simp
            have ho := HO.out
            refine (spoilRunQ kr pc r0.c r0.h r0.v r0.p r0.s r0.d r0.g r0.a r0.b r0.i r0.u y hD.r (by omega) h0.2.2.1.2 ⟨by have := h0.2.2.2.1.1; omega, h0.2.2.2.1.2⟩ h0.1 h0.2.1).mono ?_
            rintro e y' ⟨c, h, v, p, s, d, g', x1, x2, x3, x4, rfl, k2, k3, hc, hh, r9, e9⟩
            exact hK.out _ _ (HJ.out.put HI.out (by omega) (Nat.le_of_ble_eq_true rfl) (⟨⟨c, h, v, p, s, d, g', x1, x2, x3, x4⟩, rfl, hc, hh, by show x2 ≤ _; omega, by show _ ≤ x3; omega⟩) (fun j u hj hne hl hc h => G21.keep e9 hk0 j u (fun e' => by subst e'; rw [hA] at hl; cases hl) h) (Vr.turn ho hn (by omega) (hD.pick e9 r9) (by omega)))
          · have hA : listed.getD 11 false = false := not_true (fun h => open_not ho (hI.tr 11 10 (by rfl) h))
            have hn := hA
            obtain ⟨pc, hD, hpc⟩ := hI.v.1 hA
            have d1 := dep_of hi (j := 1) (by rfl)
            have d2 := dep_of hi (j := 2) (by rfl)
            have HI : Hid (_ ∈ Region.ready _ _ _) := hi
            clear hi
            refine wpOp_plain rfl rfl ?_
            refine wp_hide (fun K hK => ?_)
            have e1 : x.tmps[83]?.getD undef = .slice (some ⟨g, 0, none⟩) m.rs.length bb2 := ev_tmp (hI.good 1 (by omega) d1 (Or.inl hA))
            have e2 : x.tmps[84]?.getD undef = .int .i64 (k : Int) := ev_tmp (hI.good 2 (by omega) d2 (Or.inl hA))
            have j1 : (k : Int) < (m.rs.length : Int) := by omega
            have HJ : Hid (Ir _ _ _ _ _ _ _ _ _ _ _) := hI
            have HO : Hid _ := ho
            clear hI ho
            go_simp
            have ho := HO.out
            exact hK.out _ _ (HJ.out.put HI.out (by omega) (Nat.le_of_ble_eq_true rfl) (rfl) (fun j u _ _ _ _ h => h) (HJ.out.v.same ho (by omega) (by omega)))
          · have hA : listed.getD 11 false = false := not_true (fun h => open_not ho h)
            have hn := hA
            obtain ⟨pc, hD, hpc⟩ := hI.v.1 hA
            have d10 := dep_of hi (j := 10) (by rfl)
            have d9 := dep_of hi (j := 9) (by rfl)
            have HI : Hid (_ ∈ Region.ready _ _ _) := hi
            clear hi
            refine wpOp_plain rfl rfl ?_
            refine wp_hide (fun K hK => ?_)
            obtain ⟨⟨c, h, v, p, s, d, gg, x1, x2, x3, x4⟩, hv, hr⟩ := hI.good 9 (by omega) d9 (Or.inl hA)
            have hv : x.tmps.getD 91 undef = .agg #[.string c, .int .i64 v, .string h, .int .i64 p, .int .i64 s, .int .i64 d, .int .i64 gg, .int .i64 x1, .int .i64 x2, .int .i64 x3, .int .i64 x4] := hv
            have e1 : x.tmps.getD 92 undef = .pointer (some ⟨g, k * 11, none⟩) := hI.good 10 (by omega) d10 (Or.inl hA)
            have hA' : (listed.setIfInBounds 11 true).getD 11 false = true := set_same (by rw [hI.lz]; omega)
            have hO : Ow y (.slice (some ⟨g, 0, none⟩) m.rs.length bb2) m.rs B := hD.l.a2
            refine wp_store_mid 38 _ _ rfl g (k * 11) #[.string c, .int .i64 v, .string h, .int .i64 p, .int .i64 s, .int .i64 d, .int .i64 gg, .int .i64 x1, .int .i64 x2, .int .i64 x3, .int .i64 x4] e1 hv (there_sub (o := k * 11) (l := 11) (Ow.rows hO).2 (by omega)) hinfoR (by simp [Value.oneCell']) ?_
            have HE : Dn W0 kr bm B { m with rs := m.rs.set k ⟨c, h, v, p, s, d, gg, x1, x2, x3, x4⟩ } (.slice a1 m.ws.length b1) (.slice (some ⟨g, 0, none⟩) m.rs.length bb2) (.slice a3 m.qs.length b3) (.slice a4 m.gs.length b4) pc (y.setCells g (k * 11) (⟨c, h, v, p, s, d, gg, x1, x2, x3, x4⟩ : RunD).cells) := Dn.run1 hD ⟨c, h, v, p, s, d, gg, x1, x2, x3, x4⟩ hkl
            exact hK.out _ _ (hI.last (u := undef) HI.out (Or.inl rfl) (Vr.fin hA' ⟨_, _, _, _, _, HE.up (by omega), fits_rs HF.out.fits hr⟩))
      · have j1 : ¬ ((0 : Int) < (m.rs.length : Int)) := by omega
        go_wp2_with fail
        go_meet
        exact ⟨m, _, _, _, _, D4.out.up (by omega), HF.out.fits⟩
    · go_wp2_with fail
      refine wp_region_any (by kernel_rfl) ?_
      refine reg_inv 95 20 18 (G23 kr bm B (.slice a3 m.qs.length b3) B (fun p y => Dn W0 kr bm B m (.slice a1 m.ws.length b1) (.slice a2 m.rs.length bb2) (.slice a3 m.qs.length b3) (.slice a4 m.gs.length b4) (p) y) (q + 1 + 1 + 4200) m.qs) (fun p y => Dn W0 kr bm B m (.slice a1 m.ws.length b1) (.slice a2 m.rs.length bb2) (.slice a3 m.qs.length b3) (.slice a4 m.gs.length b4) (p) y) (fun y => ∃ m' t1 t2 t3 t4, Dn W0 kr bm B m' t1 t2 t3 t4 (q + 4300) y ∧ m'.fits) (q + 1 + 1) (by decide) rfl (Nat.le_of_ble_eq_true rfl) (D4.out.below (bl_drew (Below.refl _ _))) ?done23 ?step23
      case done23 =>
        intro l y hl hE
        obtain ⟨v0, l0, rfl, hl0⟩ := len_succ hl
        obtain ⟨v1, l1, rfl, hl1⟩ := len_succ hl0
        obtain ⟨v2, l2, rfl, hl2⟩ := len_succ hl1
        obtain ⟨v3, l3, rfl, hl3⟩ := len_succ hl2
        obtain ⟨v4, l4, rfl, hl4⟩ := len_succ hl3
        obtain ⟨v5, l5, rfl, hl5⟩ := len_succ hl4
        obtain ⟨v6, l6, rfl, hl6⟩ := len_succ hl5
        obtain ⟨v7, l7, rfl, hl7⟩ := len_succ hl6
        obtain ⟨v8, l8, rfl, hl8⟩ := len_succ hl7
        obtain ⟨v9, l9, rfl, hl9⟩ := len_succ hl8
        obtain ⟨v10, l10, rfl, hl10⟩ := len_succ hl9
        obtain ⟨v11, l11, rfl, hl11⟩ := len_succ hl10
        obtain ⟨v12, l12, rfl, hl12⟩ := len_succ hl11
        obtain ⟨v13, l13, rfl, hl13⟩ := len_succ hl12
        obtain ⟨v14, l14, rfl, hl14⟩ := len_succ hl13
        obtain ⟨v15, l15, rfl, hl15⟩ := len_succ hl14
        obtain ⟨v16, l16, rfl, hl16⟩ := len_succ hl15
        obtain ⟨v17, l17, rfl, hl17⟩ := len_succ hl16
        obtain ⟨v18, l18, rfl, hl18⟩ := len_succ hl17
        obtain ⟨v19, l19, rfl, hl19⟩ := len_succ hl18
        obtain rfl := len_zero hl19
        simp only [List.take_succ_cons, List.take_zero, List.drop_succ_cons, List.drop_zero, List.cons_append, List.nil_append, Nat.reduceAdd]
        go_wp2_with fail
        go_meet
        exact hE
      case step23 =>
        intro listed x y i hI hi hlt
        have ho := ready_open hi
        obtain rfl | rfl | rfl | rfl | rfl | rfl | rfl | rfl | rfl | rfl | rfl | rfl | rfl | rfl | rfl | rfl | rfl | rfl | rfl | rfl | rfl : i = 0 ∨ i = 1 ∨ i = 2 ∨ i = 3 ∨ i = 4 ∨ i = 5 ∨ i = 6 ∨ i = 7 ∨ i = 8 ∨ i = 9 ∨ i = 10 ∨ i = 11 ∨ i = 12 ∨ i = 13 ∨ i = 14 ∨ i = 15 ∨ i = 16 ∨ i = 17 ∨ i = 18 ∨ i = 19 ∨ i = 20 := by omega
        · have hA : listed.getD 18 false = false := not_true (fun h => open_not ho (hI.tr 1 0 (by rfl) (hI.tr 18 1 (by rfl) h)))
          have hn : listed.getD 20 false = false := not_true (fun h => by rw [hI.tr 20 18 (by rfl) h] at hA; cases hA)
          obtain ⟨pc, hD, hpc⟩ := hI.v.1 hA
          have HI : Hid (_ ∈ Region.ready _ _ _) := hi
          clear hi
          refine wpOp_plain rfl rfl ?_
          refine wp_hide (fun K hK => ?_)
          have e5 : x.tmps[5]?.getD undef = .pointer (some ⟨bm, 0, none⟩) := ev_tmp (hI.out 5 (Or.inl (by omega)))
          have HJ : Hid (Ir _ _ _ _ _ _ _ _ _ _ _) := hI
          have HO : Hid _ := ho
          clear hI ho
          go_simp
          have ho := HO.out
          exact hK.out _ _ (HJ.out.put HI.out (by omega) (Nat.le_of_ble_eq_true rfl) (rfl) (fun j u _ _ _ _ h => h) (HJ.out.v.same ho (by omega) (by omega)))
        · have hA : listed.getD 18 false = false := not_true (fun h => open_not ho (hI.tr 18 1 (by rfl) h))
          have hn : listed.getD 20 false = false := not_true (fun h => by rw [hI.tr 20 18 (by rfl) h] at hA; cases hA)
          obtain ⟨pc, hD, hpc⟩ := hI.v.1 hA
          have d0 := dep_of hi (j := 0) (by rfl)
          have HI : Hid (_ ∈ Region.ready _ _ _) := hi
          clear hi
          refine wpOp_plain rfl rfl ?_
          refine wp_hide (fun K hK => ?_)
          have e1 : x.tmps[95]?.getD undef = .pointer (some ⟨bm, 7, none⟩) := ev_tmp (hI.good 0 (by omega) d0 (Or.inl hA))
          have k1 : y.cell? ⟨bm, 7, none⟩ = some ((.slice a3 m.qs.length b3)) := hD.b 7
          have HJ : Hid (Ir _ _ _ _ _ _ _ _ _ _ _) := hI
          have HO : Hid _ := ho
          clear hI ho
          go_simp
          have ho := HO.out
          exact hK.out _ _ (HJ.out.put HI.out (by omega) (Nat.le_of_ble_eq_true rfl) (rfl) (fun j u _ _ _ _ h => h) (HJ.out.v.same ho (by omega) (by omega)))
        · have hA : listed.getD 18 false = false := not_true (fun h => open_not ho (hI.tr 5 2 (by rfl) (hI.tr 6 5 (by rfl) (hI.tr 16 6 (by rfl) (hI.tr 17 16 (by rfl) (hI.tr 18 17 (by rfl) h))))))
          have hn : listed.getD 20 false = false := not_true (fun h => by rw [hI.tr 20 18 (by rfl) h] at hA; cases hA)
          obtain ⟨pc, hD, hpc⟩ := hI.v.1 hA
          have HI : Hid (_ ∈ Region.ready _ _ _) := hi
          clear hi
          refine wpOp_plain rfl rfl ?_
          refine wp_hide (fun K hK => ?_)
          have hb := bld4s { data := #[] } { data := #[118, 111, 108] } { data := #[122, 122] } { data := #[42] }
          have HJ : Hid (Ir _ _ _ _ _ _ _ _ _ _ _) := hI
          have HO : Hid _ := ho
          clear hI ho
          go_simp
          have ho := HO.out
          have hbl : Below y.heap.size y (y.alloc (.cells (arr4s { data := #[] } { data := #[118, 111, 108] } { data := #[122, 122] } { data := #[42] }) 9)) := bl_alloc (Below.refl _ _) _
          have hg9 : Lst Txt B bm 4 (y.alloc (.cells (arr4s { data := #[] } { data := #[118, 111, 108] } { data := #[122, 122] } { data := #[42] }) 9)) (.slice (some ⟨y.heap.size, 0, none⟩) 4 4) := lst_of (cs := [.string { data := #[] }, .string { data := #[118, 111, 108] }, .string { data := #[122, 122] }, .string { data := #[42] }]) (by have := hD.z; omega) hD.z (fun v hv => by simp only [List.mem_cons, List.not_mem_nil, or_false] at hv; rcases hv with rfl | rfl | rfl | rfl <;> exact ⟨_, rfl, by decide⟩)
          exact hK.out _ _ (HJ.out.put HI.out (by omega) (Nat.le_of_ble_eq_true rfl) (hg9) (fun j u hj hne hl hc h => G23.keep (Ex.of_below hbl) hk0 j u (fun e' => by subst e'; rw [hA] at hl; cases hl) h) (Vr.turn ho hn (by omega) (hD.below hbl) (by omega)))
        · have hA : listed.getD 18 false = false := not_true (fun h => open_not ho (hI.tr 4 3 (by rfl) (hI.tr 5 4 (by rfl) (hI.tr 6 5 (by rfl) (hI.tr 16 6 (by rfl) (hI.tr 17 16 (by rfl) (hI.tr 18 17 (by rfl) h)))))))
          have hn : listed.getD 20 false = false := not_true (fun h => by rw [hI.tr 20 18 (by rfl) h] at hA; cases hA)
          obtain ⟨pc, hD, hpc⟩ := hI.v.1 hA
          have HI : Hid (_ ∈ Region.ready _ _ _) := hi
          clear hi
          refine wpOp_plain rfl rfl ?_
          refine wp_hide (fun K hK => ?_)
          have e5 : x.tmps[0]?.getD undef = .pointer (some ⟨kr, 0, none⟩) := ev_tmp (hI.out 0 (Or.inl (by omega)))
          have HJ : Hid (Ir _ _ _ _ _ _ _ _ _ _ _) := hI
          have HO : Hid _ := ho
          clear hI ho
          go_simp
          have ho := HO.out
          exact hK.out _ _ (HJ.out.put HI.out (by omega) (Nat.le_of_ble_eq_true rfl) (rfl) (fun j u _ _ _ _ h => h) (HJ.out.v.same ho (by omega) (by omega)))
        · have hA : listed.getD 18 false = false := not_true (fun h => open_not ho (hI.tr 5 4 (by rfl) (hI.tr 6 5 (by rfl) (hI.tr 16 6 (by rfl) (hI.tr 17 16 (by rfl) (hI.tr 18 17 (by rfl) h))))))
          have hn : listed.getD 20 false = false := not_true (fun h => by rw [hI.tr 20 18 (by rfl) h] at hA; cases hA)
          obtain ⟨pc, hD, hpc⟩ := hI.v.1 hA
          have d3 := dep_of hi (j := 3) (by rfl)
          have HI : Hid (_ ∈ Region.ready _ _ _) := hi
          clear hi
          refine wpOp_plain rfl rfl ?_
          refine wp_hide (fun K hK => ?_)
          have e1 : x.tmps[98]?.getD undef = .pointer (some ⟨kr, 0, none⟩) := ev_tmp (hI.good 3 (by omega) d3 (Or.inl hA))
          have HJ : Hid (Ir _ _ _ _ _ _ _ _ _ _ _) := hI
          have HO : Hid _ := ho
          clear hI ho
          go_simp
          have ho := HO.out
          refine (pickQ kr pc 4 y hD.r (by omega) (by omega) (by omega)).mono ?_
          rintro e y' ⟨z, rfl, z0, z1, r9, e9⟩
          exact hK.out _ _ (HJ.out.put HI.out (by omega) (Nat.le_of_ble_eq_true rfl) (⟨z, rfl, z0, by omega⟩) (fun j u hj hne hl hc h => G23.keep e9 hk0 j u (fun e' => by subst e'; rw [hA] at hl; cases hl) h) (Vr.turn ho hn (by omega) (hD.pick e9 r9) (by omega)))
        · have hA : listed.getD 18 false = false := not_true (fun h => open_not ho (hI.tr 6 5 (by rfl) (hI.tr 16 6 (by rfl) (hI.tr 17 16 (by rfl) (hI.tr 18 17 (by rfl) h)))))
          have hn : listed.getD 20 false = false := not_true (fun h => by rw [hI.tr 20 18 (by rfl) h] at hA; cases hA)
          obtain ⟨pc, hD, hpc⟩ := hI.v.1 hA
          have d2 := dep_of hi (j := 2) (by rfl)
          have d4 := dep_of hi (j := 4) (by rfl)
          have HI : Hid (_ ∈ Region.ready _ _ _) := hi
          clear hi
          refine wpOp_plain rfl rfl ?_
          refine wp_hide (fun K hK => ?_)
          obtain ⟨g, hg, g0, g1, g2, gc⟩ := hI.good 2 (by omega) d2 (Or.inl hA)
          obtain ⟨z, hm, m0, m1⟩ := hI.good 4 (by omega) d4 (Or.inl hA)
          have e1 : x.tmps[97]?.getD undef = _ := ev_tmp hg
          have e2 : x.tmps[99]?.getD undef = _ := ev_tmp hm
          obtain ⟨j, rfl⟩ := Int.eq_ofNat_of_zero_le m0
          obtain ⟨u, hu, hP⟩ := gc j (by omega)
          have j0 : (j : Int) < 4 := by omega
          clear gc hm hg
          have HJ : Hid (Ir _ _ _ _ _ _ _ _ _ _ _) := hI
          have HO : Hid _ := ho
          clear hI ho
          go_simp
          have ho := HO.out
          exact hK.out _ _ (HJ.out.put HI.out (by omega) (Nat.le_of_ble_eq_true rfl) (⟨g, j, u, rfl, g0, g1, g2, hu, hP⟩) (fun j u _ _ _ _ h => h) (HJ.out.v.same ho (by omega) (by omega)))
        · have hA : listed.getD 18 false = false := not_true (fun h => open_not ho (hI.tr 16 6 (by rfl) (hI.tr 17 16 (by rfl) (hI.tr 18 17 (by rfl) h))))
          have hn : listed.getD 20 false = false := not_true (fun h => by rw [hI.tr 20 18 (by rfl) h] at hA; cases hA)
          obtain ⟨pc, hD, hpc⟩ := hI.v.1 hA
          have d5 := dep_of hi (j := 5) (by rfl)
          have HI : Hid (_ ∈ Region.ready _ _ _) := hi
          clear hi
          refine wpOp_plain rfl rfl ?_
          refine wp_hide (fun K hK => ?_)
          obtain ⟨g, j, u, hv, g0, g1, g2, hu, hP⟩ := hI.good 5 (by omega) d5 (Or.inl hA)
          have e1 : x.tmps[100]?.getD undef = _ := ev_tmp hv
          obtain ⟨s, rfl, hs⟩ := hP
          clear hv
          have HJ : Hid (Ir _ _ _ _ _ _ _ _ _ _ _) := hI
          have HO : Hid _ := ho
          clear hI ho
          go_simp
          have ho := HO.out
          exact hK.out _ _ (HJ.out.put HI.out (by omega) (Nat.le_of_ble_eq_true rfl) (⟨s, rfl, hs⟩) (fun j u _ _ _ _ h => h) (HJ.out.v.same ho (by omega) (by omega)))
        · have hA : listed.getD 18 false = false := not_true (fun h => open_not ho (hI.tr 10 7 (by rfl) (hI.tr 11 10 (by rfl) (hI.tr 16 11 (by rfl) (hI.tr 17 16 (by rfl) (hI.tr 18 17 (by rfl) h))))))
          have hn : listed.getD 20 false = false := not_true (fun h => by rw [hI.tr 20 18 (by rfl) h] at hA; cases hA)
          obtain ⟨pc, hD, hpc⟩ := hI.v.1 hA
          have HI : Hid (_ ∈ Region.ready _ _ _) := hi
          clear hi
          refine wpOp_plain rfl rfl ?_
          refine wp_hide (fun K hK => ?_)
          have hb := bld2s { data := #[] } { data := #[99] }
          have HJ : Hid (Ir _ _ _ _ _ _ _ _ _ _ _) := hI
          have HO : Hid _ := ho
          clear hI ho
          go_simp
          have ho := HO.out
          have hbl : Below y.heap.size y (y.alloc (.cells (arr2s { data := #[] } { data := #[99] }) 9)) := bl_alloc (Below.refl _ _) _
          have hg9 : Lst Txt B bm 2 (y.alloc (.cells (arr2s { data := #[] } { data := #[99] }) 9)) (.slice (some ⟨y.heap.size, 0, none⟩) 2 2) := lst_of (cs := [.string { data := #[] }, .string { data := #[99] }]) (by have := hD.z; omega) hD.z (fun v hv => by simp only [List.mem_cons, List.not_mem_nil, or_false] at hv; rcases hv with rfl | rfl <;> exact ⟨_, rfl, by decide⟩)
          exact hK.out _ _ (HJ.out.put HI.out (by omega) (Nat.le_of_ble_eq_true rfl) (hg9) (fun j u hj hne hl hc h => G23.keep (Ex.of_below hbl) hk0 j u (fun e' => by subst e'; rw [hA] at hl; cases hl) h) (Vr.turn ho hn (by omega) (hD.below hbl) (by omega)))
        · have hA : listed.getD 18 false = false := not_true (fun h => open_not ho (hI.tr 9 8 (by rfl) (hI.tr 10 9 (by rfl) (hI.tr 11 10 (by rfl) (hI.tr 16 11 (by rfl) (hI.tr 17 16 (by rfl) (hI.tr 18 17 (by rfl) h)))))))
          have hn : listed.getD 20 false = false := not_true (fun h => by rw [hI.tr 20 18 (by rfl) h] at hA; cases hA)
          obtain ⟨pc, hD, hpc⟩ := hI.v.1 hA
          have HI : Hid (_ ∈ Region.ready _ _ _) := hi
          clear hi
          refine wpOp_plain rfl rfl ?_
          refine wp_hide (fun K hK => ?_)
          have e5 : x.tmps[0]?.getD undef = .pointer (some ⟨kr, 0, none⟩) := ev_tmp (hI.out 0 (Or.inl (by omega)))
          have HJ : Hid (Ir _ _ _ _ _ _ _ _ _ _ _) := hI
          have HO : Hid _ := ho
          clear hI ho
          go_simp
          have ho := HO.out
          exact hK.out _ _ (HJ.out.put HI.out (by omega) (Nat.le_of_ble_eq_true rfl) (rfl) (fun j u _ _ _ _ h => h) (HJ.out.v.same ho (by omega) (by omega)))
        · have hA : listed.getD 18 false = false := not_true (fun h => open_not ho (hI.tr 10 9 (by rfl) (hI.tr 11 10 (by rfl) (hI.tr 16 11 (by rfl) (hI.tr 17 16 (by rfl) (hI.tr 18 17 (by rfl) h))))))
          have hn : listed.getD 20 false = false := not_true (fun h => by rw [hI.tr 20 18 (by rfl) h] at hA; cases hA)
          obtain ⟨pc, hD, hpc⟩ := hI.v.1 hA
          have d8 := dep_of hi (j := 8) (by rfl)
          have HI : Hid (_ ∈ Region.ready _ _ _) := hi
          clear hi
          refine wpOp_plain rfl rfl ?_
          refine wp_hide (fun K hK => ?_)
          have e1 : x.tmps[103]?.getD undef = .pointer (some ⟨kr, 0, none⟩) := ev_tmp (hI.good 8 (by omega) d8 (Or.inl hA))
          have HJ : Hid (Ir _ _ _ _ _ _ _ _ _ _ _) := hI
          have HO : Hid _ := ho
          clear hI ho
          go_simp
          have ho := HO.out
          refine (pickQ kr pc 2 y hD.r (by omega) (by omega) (by omega)).mono ?_
          rintro e y' ⟨z, rfl, z0, z1, r9, e9⟩
          exact hK.out _ _ (HJ.out.put HI.out (by omega) (Nat.le_of_ble_eq_true rfl) (⟨z, rfl, z0, by omega⟩) (fun j u hj hne hl hc h => G23.keep e9 hk0 j u (fun e' => by subst e'; rw [hA] at hl; cases hl) h) (Vr.turn ho hn (by omega) (hD.pick e9 r9) (by omega)))
        · have hA : listed.getD 18 false = false := not_true (fun h => open_not ho (hI.tr 11 10 (by rfl) (hI.tr 16 11 (by rfl) (hI.tr 17 16 (by rfl) (hI.tr 18 17 (by rfl) h)))))
          have hn : listed.getD 20 false = false := not_true (fun h => by rw [hI.tr 20 18 (by rfl) h] at hA; cases hA)
          obtain ⟨pc, hD, hpc⟩ := hI.v.1 hA
          have d7 := dep_of hi (j := 7) (by rfl)
          have d9 := dep_of hi (j := 9) (by rfl)
          have HI : Hid (_ ∈ Region.ready _ _ _) := hi
          clear hi
          refine wpOp_plain rfl rfl ?_
          refine wp_hide (fun K hK => ?_)
          obtain ⟨g, hg, g0, g1, g2, gc⟩ := hI.good 7 (by omega) d7 (Or.inl hA)
          obtain ⟨z, hm, m0, m1⟩ := hI.good 9 (by omega) d9 (Or.inl hA)
          have e1 : x.tmps[102]?.getD undef = _ := ev_tmp hg
          have e2 : x.tmps[104]?.getD undef = _ := ev_tmp hm
          obtain ⟨j, rfl⟩ := Int.eq_ofNat_of_zero_le m0
          obtain ⟨u, hu, hP⟩ := gc j (by omega)
          have j0 : (j : Int) < 2 := by omega
          clear gc hm hg
          have HJ : Hid (Ir _ _ _ _ _ _ _ _ _ _ _) := hI
          have HO : Hid _ := ho
          clear hI ho
          go_simp
          have ho := HO.out
          exact hK.out _ _ (HJ.out.put HI.out (by omega) (Nat.le_of_ble_eq_true rfl) (⟨g, j, u, rfl, g0, g1, g2, hu, hP⟩) (fun j u _ _ _ _ h => h) (HJ.out.v.same ho (by omega) (by omega)))
        · have hA : listed.getD 18 false = false := not_true (fun h => open_not ho (hI.tr 16 11 (by rfl) (hI.tr 17 16 (by rfl) (hI.tr 18 17 (by rfl) h))))
          have hn : listed.getD 20 false = false := not_true (fun h => by rw [hI.tr 20 18 (by rfl) h] at hA; cases hA)
          obtain ⟨pc, hD, hpc⟩ := hI.v.1 hA
          have d10 := dep_of hi (j := 10) (by rfl)
          have HI : Hid (_ ∈ Region.ready _ _ _) := hi
          clear hi
          refine wpOp_plain rfl rfl ?_
          refine wp_hide (fun K hK => ?_)
          obtain ⟨g, j, u, hv, g0, g1, g2, hu, hP⟩ := hI.good 10 (by omega) d10 (Or.inl hA)
          have e1 : x.tmps[105]?.getD undef = _ := ev_tmp hv
          obtain ⟨s, rfl, hs⟩ := hP
          clear hv
          have HJ : Hid (Ir _ _ _ _ _ _ _ _ _ _ _) := hI
          have HO : Hid _ := ho
          clear hI ho
          go_simp
          have ho := HO.out
          exact hK.out _ _ (HJ.out.put HI.out (by omega) (Nat.le_of_ble_eq_true rfl) (⟨s, rfl, hs⟩) (fun j u _ _ _ _ h => h) (HJ.out.v.same ho (by omega) (by omega)))
        · have hA : listed.getD 18 false = false := not_true (fun h => open_not ho (hI.tr 13 12 (by rfl) (hI.tr 16 13 (by rfl) (hI.tr 17 16 (by rfl) (hI.tr 18 17 (by rfl) h)))))
          have hn : listed.getD 20 false = false := not_true (fun h => by rw [hI.tr 20 18 (by rfl) h] at hA; cases hA)
          obtain ⟨pc, hD, hpc⟩ := hI.v.1 hA
          have HI : Hid (_ ∈ Region.ready _ _ _) := hi
          clear hi
          refine wpOp_plain rfl rfl ?_
          refine wp_hide (fun K hK => ?_)
          have e5 : x.tmps[0]?.getD undef = .pointer (some ⟨kr, 0, none⟩) := ev_tmp (hI.out 0 (Or.inl (by omega)))
          have HJ : Hid (Ir _ _ _ _ _ _ _ _ _ _ _) := hI
          have HO : Hid _ := ho
          clear hI ho
          go_simp
          have ho := HO.out
          exact hK.out _ _ (HJ.out.put HI.out (by omega) (Nat.le_of_ble_eq_true rfl) (rfl) (fun j u _ _ _ _ h => h) (HJ.out.v.same ho (by omega) (by omega)))
        · have hA : listed.getD 18 false = false := not_true (fun h => open_not ho (hI.tr 16 13 (by rfl) (hI.tr 17 16 (by rfl) (hI.tr 18 17 (by rfl) h))))
          have hn : listed.getD 20 false = false := not_true (fun h => by rw [hI.tr 20 18 (by rfl) h] at hA; cases hA)
          obtain ⟨pc, hD, hpc⟩ := hI.v.1 hA
          have d12 := dep_of hi (j := 12) (by rfl)
          have HI : Hid (_ ∈ Region.ready _ _ _) := hi
          clear hi
          refine wpOp_plain rfl rfl ?_
          refine wp_hide (fun K hK => ?_)
          have e1 : x.tmps[107]?.getD undef = .pointer (some ⟨kr, 0, none⟩) := ev_tmp (hI.good 12 (by omega) d12 (Or.inl hA))
          have HJ : Hid (Ir _ _ _ _ _ _ _ _ _ _ _) := hI
          have HO : Hid _ := ho
          clear hI ho
          go_simp
          have ho := HO.out
          refine (pickQ kr pc 3 y hD.r (by omega) (by omega) (by omega)).mono ?_
          rintro e y' ⟨z, rfl, z0, z1, r9, e9⟩
          exact hK.out _ _ (HJ.out.put HI.out (by omega) (Nat.le_of_ble_eq_true rfl) (⟨z, rfl, z0, by omega⟩) (fun j u hj hne hl hc h => G23.keep e9 hk0 j u (fun e' => by subst e'; rw [hA] at hl; cases hl) h) (Vr.turn ho hn (by omega) (hD.pick e9 r9) (by omega)))
        · have hA : listed.getD 18 false = false := not_true (fun h => open_not ho (hI.tr 15 14 (by rfl) (hI.tr 16 15 (by rfl) (hI.tr 17 16 (by rfl) (hI.tr 18 17 (by rfl) h)))))
          have hn : listed.getD 20 false = false := not_true (fun h => by rw [hI.tr 20 18 (by rfl) h] at hA; cases hA)
          obtain ⟨pc, hD, hpc⟩ := hI.v.1 hA
          have HI : Hid (_ ∈ Region.ready _ _ _) := hi
          clear hi
          refine wpOp_plain rfl rfl ?_
          refine wp_hide (fun K hK => ?_)
          have e5 : x.tmps[0]?.getD undef = .pointer (some ⟨kr, 0, none⟩) := ev_tmp (hI.out 0 (Or.inl (by omega)))
          have HJ : Hid (Ir _ _ _ _ _ _ _ _ _ _ _) := hI
          have HO : Hid _ := ho
          clear hI ho
          go_simp
          have ho := HO.out
          exact hK.out _ _ (HJ.out.put HI.out (by omega) (Nat.le_of_ble_eq_true rfl) (rfl) (fun j u _ _ _ _ h => h) (HJ.out.v.same ho (by omega) (by omega)))
        · have hA : listed.getD 18 false = false := not_true (fun h => open_not ho (hI.tr 16 15 (by rfl) (hI.tr 17 16 (by rfl) (hI.tr 18 17 (by rfl) h))))
          have hn : listed.getD 20 false = false := not_true (fun h => by rw [hI.tr 20 18 (by rfl) h] at hA; cases hA)
          obtain ⟨pc, hD, hpc⟩ := hI.v.1 hA
          have d14 := dep_of hi (j := 14) (by rfl)
          have HI : Hid (_ ∈ Region.ready _ _ _) := hi
          clear hi
          refine wpOp_plain rfl rfl ?_
          refine wp_hide (fun K hK => ?_)
          have e1 : x.tmps[109]?.getD undef = .pointer (some ⟨kr, 0, none⟩) := ev_tmp (hI.good 14 (by omega) d14 (Or.inl hA))
          have HJ : Hid (Ir _ _ _ _ _ _ _ _ _ _ _) := hI
          have HO : Hid _ := ho
          clear hI ho
          go_simp
          have ho := HO.out
          refine (pickQ kr pc 70 y hD.r (by omega) (by omega) (by omega)).mono ?_
          rintro e y' ⟨z, rfl, z0, z1, r9, e9⟩
          exact hK.out _ _ (HJ.out.put HI.out (by omega) (Nat.le_of_ble_eq_true rfl) (⟨z, rfl, z0, by omega⟩) (fun j u hj hne hl hc h => G23.keep e9 hk0 j u (fun e' => by subst e'; rw [hA] at hl; cases hl) h) (Vr.turn ho hn (by omega) (hD.pick e9 r9) (by omega)))
        · have hA : listed.getD 18 false = false := not_true (fun h => open_not ho (hI.tr 17 16 (by rfl) (hI.tr 18 17 (by rfl) h)))
          have hn : listed.getD 20 false = false := not_true (fun h => by rw [hI.tr 20 18 (by rfl) h] at hA; cases hA)
          obtain ⟨pc, hD, hpc⟩ := hI.v.1 hA
          have d6 := dep_of hi (j := 6) (by rfl)
          have d11 := dep_of hi (j := 11) (by rfl)
          have d13 := dep_of hi (j := 13) (by rfl)
          have d15 := dep_of hi (j := 15) (by rfl)
          have HI : Hid (_ ∈ Region.ready _ _ _) := hi
          clear hi
          refine wpOp_plain rfl rfl ?_
          refine wp_hide (fun K hK => ?_)
          obtain ⟨h, h1, hh⟩ := hI.good 6 (by omega) d6 (Or.inl hA)
          obtain ⟨c, h2, hc⟩ := hI.good 11 (by omega) d11 (Or.inl hA)
          obtain ⟨f, h3, f0, f1⟩ := hI.good 13 (by omega) d13 (Or.inl hA)
          obtain ⟨a, h4, a0', a1'⟩ := hI.good 15 (by omega) d15 (Or.inl hA)
          have e0 : x.tmps[101]?.getD undef = _ := ev_tmp h1
          have e1 : x.tmps[106]?.getD undef = _ := ev_tmp h2
          have e2 : x.tmps[108]?.getD undef = _ := ev_tmp h3
          have e3 : x.tmps[110]?.getD undef = _ := ev_tmp h4
          clear h1 h2 h3 h4
          have HJ : Hid (Ir _ _ _ _ _ _ _ _ _ _ _) := hI
          have HO : Hid _ := ho
          clear hI ho
          go_simp
          have ho := HO.out
          exact hK.out _ _ (HJ.out.put HI.out (by omega) (Nat.le_of_ble_eq_true rfl) (⟨h, _, f, a, rfl, hh, hc⟩) (fun j u _ _ _ _ h => h) (HJ.out.v.same ho (by omega) (by omega)))
        · have hA : listed.getD 18 false = false := not_true (fun h => open_not ho (hI.tr 18 17 (by rfl) h))
          have hn : listed.getD 20 false = false := not_true (fun h => by rw [hI.tr 20 18 (by rfl) h] at hA; cases hA)
          obtain ⟨pc, hD, hpc⟩ := hI.v.1 hA
          have d16 := dep_of hi (j := 16) (by rfl)
          have HI : Hid (_ ∈ Region.ready _ _ _) := hi
          clear hi
          refine wpOp_plain rfl rfl ?_
          refine wp_hide (fun K hK => ?_)
          obtain ⟨h, c, f, a, hv, hh, hc⟩ := hI.good 16 (by omega) d16 (Or.inl hA)
          have e1 : x.tmps[111]?.getD undef = _ := ev_tmp hv
          have hb := bld1a h c f a
          clear hv
          have HJ : Hid (Ir _ _ _ _ _ _ _ _ _ _ _) := hI
          have HO : Hid _ := ho
          clear hI ho
          go_simp
          have ho := HO.out
          have hbl : Below y.heap.size y (y.alloc (.cells (arrA h c f a) 99)) := bl_alloc (Below.refl _ _) _
          have hg9 : AskN B (y.alloc (.cells (arrA h c f a) 99)) (.slice (some ⟨y.heap.size, 0, none⟩) 1 1) := ⟨h, c, f, a, y.heap.size, rfl, (by have := hD.z; omega), by simp, heap_new rfl, hh, hc⟩
          exact hK.out _ _ (HJ.out.put HI.out (by omega) (Nat.le_of_ble_eq_true rfl) (hg9) (fun j u hj hne hl hc h => G23.keep (Ex.of_below hbl) hk0 j u (fun e' => by subst e'; rw [hA] at hl; cases hl) h) (Vr.turn ho hn (by omega) (hD.below hbl) (by omega)))
        · have hA : listed.getD 18 false = false := not_true (fun h => open_not ho h)
          have hn : listed.getD 20 false = false := not_true (fun h => by rw [hI.tr 20 18 (by rfl) h] at hA; cases hA)
          obtain ⟨pc, hD, hpc⟩ := hI.v.1 hA
          have d1 := dep_of hi (j := 1) (by rfl)
          have d17 := dep_of hi (j := 17) (by rfl)
          have HI : Hid (_ ∈ Region.ready _ _ _) := hi
          clear hi
          refine wpOp_plain rfl rfl ?_
          refine wp_hide (fun K hK => ?_)
          have e1 : x.tmps.getD 96 undef = (.slice a3 m.qs.length b3) := hI.good 1 (by omega) d1 (Or.inl hA)
          have hN : AskN B y (x.tmps.getD 112 undef) := hI.good 17 (by omega) d17 (Or.inl hA)
          refine askApp B (.tmp 96) (.tmp 112) rfl m.qs (.slice a3 m.qs.length b3) _ e1 hD.l.a3 (by have := hD.z; omega) rfl hN (by have := HF.out.q1; omega) ?_
          intro s' w' hh c f a o1 g1 hat h20 c20
          exact hK.out _ _ (hI.put HI.out (by omega) (Nat.le_of_ble_eq_true rfl) ⟨y, pc, hh, c, f, a, hD, by omega, g1, o1, hat, h20, c20⟩ (fun j u hj hne hl hc h => by
            rcases hc with hc | hc
            · rw [set_same (by rw [hI.lz]; omega)] at hc; cases hc
            · obtain rfl : j = 19 := by omega
              exact h) (Vr.past (set_same (by rw [hI.lz]; omega)) (by rw [set_ne (by omega)]; exact hn)))
        · have HI : Hid (_ ∈ Region.ready _ _ _) := hi
          clear hi
          refine wpOp_plain rfl rfl ?_
          refine wp_hide (fun K hK => ?_)
          have e5 : x.tmps[5]?.getD undef = .pointer (some ⟨bm, 0, none⟩) := ev_tmp (hI.out 5 (Or.inl (by omega)))
          have HJ : Hid (Ir _ _ _ _ _ _ _ _ _ _ _) := hI
          have HO : Hid _ := ho
          clear hI ho
          go_simp
          have ho := HO.out
          exact hK.out _ _ (HJ.out.put HI.out (by omega) (Nat.le_of_ble_eq_true rfl) (rfl) (fun j u _ _ _ _ h => h) (HJ.out.v.same ho (by omega) (by omega)))
        · have hn : listed.getD 20 false = false := not_true (fun h => open_not ho h)
          have d19 := dep_of hi (j := 19) (by rfl)
          have d18 := dep_of hi (j := 18) (by rfl)
          have HI : Hid (_ ∈ Region.ready _ _ _) := hi
          clear hi
          refine wpOp_plain rfl rfl ?_
          refine wp_hide (fun K hK => ?_)
          obtain ⟨x0, p0, hh, c, f, a, hD, hp, hg, ho1, hat, h20, c20⟩ := hI.good 18 (by omega) d18 (Or.inr ⟨by omega, hn⟩)
          have e1 : x.tmps[114]?.getD undef = .pointer (some ⟨bm, 7, none⟩) := ev_tmp (hI.good 19 (by omega) d19 (Or.inr ⟨by omega, hn⟩))
          obtain ⟨aa, pp, hv⟩ := A.Ow.shape ho1
          generalize hnn : List.length _ = nn at hv
          have e2 : x.tmps[113]?.getD undef = _ := ev_tmp hv
          rw [hv] at ho1 hat
          obtain ⟨kb, kc, -⟩ := dn_rest hD hg (fun k hk => ⟨by have h1 := (hD.l.a3.lt k hk).1; have h2 := hD.zb; omega, fun e => hD.nb.2.2.1 (by rw [hk, e])⟩)
          have k1 : y.cell? ⟨bm, 7, none⟩ = some (.slice a3 m.qs.length b3) := kb 7
          have k2 : y.frozen? ⟨bm, 7, none⟩ = false := kc 7
          have HE := Dn.app3 hD hg ho1 hat
          have hA' : (listed.setIfInBounds 20 true).getD 18 false = true := by rw [set_ne (by omega)]; exact d18
          clear kb kc hv hnn
          have HJ : Hid (Ir _ _ _ _ _ _ _ _ _ _ _) := hI
          have HO : Hid _ := ho
          clear hI ho
          go_simp
          have ho := HO.out
          exact hK.out _ _ (HJ.out.last (u := undef) HI.out (Or.inr d18) (Vr.fin hA' ⟨_, _, _, _, _, HE.up (by omega), fits_qs HF.out.fits (by have := HF.out.q1; omega) ⟨by show hh.size ≤ maxLen; unfold maxLen; omega, by show c.size ≤ maxLen; unfold maxLen; omega⟩⟩))
    · go_wp2_with fail
      refine wp_region_any (by kernel_rfl) ?_
      refine reg_inv 117 16 14 (G25 kr bm B (.slice a4 m.gs.length b4) B (fun p y => Dn W0 kr bm B m (.slice a1 m.ws.length b1) (.slice a2 m.rs.length bb2) (.slice a3 m.qs.length b3) (.slice a4 m.gs.length b4) (p) y) (q + 1 + 1 + 3400) m.gs) (fun p y => Dn W0 kr bm B m (.slice a1 m.ws.length b1) (.slice a2 m.rs.length bb2) (.slice a3 m.qs.length b3) (.slice a4 m.gs.length b4) (p) y) (fun y => ∃ m' t1 t2 t3 t4, Dn W0 kr bm B m' t1 t2 t3 t4 (q + 4300) y ∧ m'.fits) (q + 1 + 1) (by decide) rfl (Nat.le_of_ble_eq_true rfl) (D4.out.below (bl_drew (Below.refl _ _))) ?done25 ?step25
      case done25 =>
        intro l y hl hE
        obtain ⟨v0, l0, rfl, hl0⟩ := len_succ hl
        obtain ⟨v1, l1, rfl, hl1⟩ := len_succ hl0
        obtain ⟨v2, l2, rfl, hl2⟩ := len_succ hl1
        obtain ⟨v3, l3, rfl, hl3⟩ := len_succ hl2
        obtain ⟨v4, l4, rfl, hl4⟩ := len_succ hl3
        obtain ⟨v5, l5, rfl, hl5⟩ := len_succ hl4
        obtain ⟨v6, l6, rfl, hl6⟩ := len_succ hl5
        obtain ⟨v7, l7, rfl, hl7⟩ := len_succ hl6
        obtain ⟨v8, l8, rfl, hl8⟩ := len_succ hl7
        obtain ⟨v9, l9, rfl, hl9⟩ := len_succ hl8
        obtain ⟨v10, l10, rfl, hl10⟩ := len_succ hl9
        obtain ⟨v11, l11, rfl, hl11⟩ := len_succ hl10
        obtain ⟨v12, l12, rfl, hl12⟩ := len_succ hl11
        obtain ⟨v13, l13, rfl, hl13⟩ := len_succ hl12
        obtain ⟨v14, l14, rfl, hl14⟩ := len_succ hl13
        obtain ⟨v15, l15, rfl, hl15⟩ := len_succ hl14
        obtain rfl := len_zero hl15
        simp only [List.take_succ_cons, List.take_zero, List.drop_succ_cons, List.drop_zero, List.cons_append, List.nil_append, Nat.reduceAdd]
        go_wp2_with fail
        go_meet
        exact hE
      case step25 =>
        intro listed x y i hI hi hlt
        have ho := ready_open hi
        obtain rfl | rfl | rfl | rfl | rfl | rfl | rfl | rfl | rfl | rfl | rfl | rfl | rfl | rfl | rfl | rfl | rfl : i = 0 ∨ i = 1 ∨ i = 2 ∨ i = 3 ∨ i = 4 ∨ i = 5 ∨ i = 6 ∨ i = 7 ∨ i = 8 ∨ i = 9 ∨ i = 10 ∨ i = 11 ∨ i = 12 ∨ i = 13 ∨ i = 14 ∨ i = 15 ∨ i = 16 := by omega
        · have hA : listed.getD 14 false = false := not_true (fun h => open_not ho (hI.tr 1 0 (by rfl) (hI.tr 14 1 (by rfl) h)))
          have hn : listed.getD 16 false = false := not_true (fun h => by rw [hI.tr 16 14 (by rfl) h] at hA; cases hA)
          obtain ⟨pc, hD, hpc⟩ := hI.v.1 hA
          have HI : Hid (_ ∈ Region.ready _ _ _) := hi
          clear hi
          refine wpOp_plain rfl rfl ?_
          refine wp_hide (fun K hK => ?_)
          have e5 : x.tmps[5]?.getD undef = .pointer (some ⟨bm, 0, none⟩) := ev_tmp (hI.out 5 (Or.inl (by omega)))
          have HJ : Hid (Ir _ _ _ _ _ _ _ _ _ _ _) := hI
          have HO : Hid _ := ho
          clear hI ho
          go_simp
          have ho := HO.out
          exact hK.out _ _ (HJ.out.put HI.out (by omega) (Nat.le_of_ble_eq_true rfl) (rfl) (fun j u _ _ _ _ h => h) (HJ.out.v.same ho (by omega) (by omega)))
        · have hA : listed.getD 14 false = false := not_true (fun h => open_not ho (hI.tr 14 1 (by rfl) h))
          have hn : listed.getD 16 false = false := not_true (fun h => by rw [hI.tr 16 14 (by rfl) h] at hA; cases hA)
          obtain ⟨pc, hD, hpc⟩ := hI.v.1 hA
          have d0 := dep_of hi (j := 0) (by rfl)
          have HI : Hid (_ ∈ Region.ready _ _ _) := hi
          clear hi
          refine wpOp_plain rfl rfl ?_
          refine wp_hide (fun K hK => ?_)
          have e1 : x.tmps[117]?.getD undef = .pointer (some ⟨bm, 8, none⟩) := ev_tmp (hI.good 0 (by omega) d0 (Or.inl hA))
          have k1 : y.cell? ⟨bm, 8, none⟩ = some ((.slice a4 m.gs.length b4)) := hD.b 8
          have HJ : Hid (Ir _ _ _ _ _ _ _ _ _ _ _) := hI
          have HO : Hid _ := ho
          clear hI ho
          go_simp
          have ho := HO.out
          exact hK.out _ _ (HJ.out.put HI.out (by omega) (Nat.le_of_ble_eq_true rfl) (rfl) (fun j u _ _ _ _ h => h) (HJ.out.v.same ho (by omega) (by omega)))
        · have hA : listed.getD 14 false = false := not_true (fun h => open_not ho (hI.tr 5 2 (by rfl) (hI.tr 6 5 (by rfl) (hI.tr 12 6 (by rfl) (hI.tr 13 12 (by rfl) (hI.tr 14 13 (by rfl) h))))))
          have hn : listed.getD 16 false = false := not_true (fun h => by rw [hI.tr 16 14 (by rfl) h] at hA; cases hA)
          obtain ⟨pc, hD, hpc⟩ := hI.v.1 hA
          have HI : Hid (_ ∈ Region.ready _ _ _) := hi
          clear hi
          refine wpOp_plain rfl rfl ?_
          refine wp_hide (fun K hK => ?_)
          have hb := bld3s { data := #[] } { data := #[118, 111, 108] } { data := #[122, 122] }
          have HJ : Hid (Ir _ _ _ _ _ _ _ _ _ _ _) := hI
          have HO : Hid _ := ho
          clear hI ho
          go_simp
          have ho := HO.out
          have hbl : Below y.heap.size y (y.alloc (.cells (arr3s { data := #[] } { data := #[118, 111, 108] } { data := #[122, 122] }) 9)) := bl_alloc (Below.refl _ _) _
          have hg9 : Lst Txt B bm 3 (y.alloc (.cells (arr3s { data := #[] } { data := #[118, 111, 108] } { data := #[122, 122] }) 9)) (.slice (some ⟨y.heap.size, 0, none⟩) 3 3) := lst_of (cs := [.string { data := #[] }, .string { data := #[118, 111, 108] }, .string { data := #[122, 122] }]) (by have := hD.z; omega) hD.z (fun v hv => by simp only [List.mem_cons, List.not_mem_nil, or_false] at hv; rcases hv with rfl | rfl | rfl <;> exact ⟨_, rfl, by decide⟩)
          exact hK.out _ _ (HJ.out.put HI.out (by omega) (Nat.le_of_ble_eq_true rfl) (hg9) (fun j u hj hne hl hc h => G25.keep (Ex.of_below hbl) hk0 j u (fun e' => by subst e'; rw [hA] at hl; cases hl) h) (Vr.turn ho hn (by omega) (hD.below hbl) (by omega)))
        · have hA : listed.getD 14 false = false := not_true (fun h => open_not ho (hI.tr 4 3 (by rfl) (hI.tr 5 4 (by rfl) (hI.tr 6 5 (by rfl) (hI.tr 12 6 (by rfl) (hI.tr 13 12 (by rfl) (hI.tr 14 13 (by rfl) h)))))))
          have hn : listed.getD 16 false = false := not_true (fun h => by rw [hI.tr 16 14 (by rfl) h] at hA; cases hA)
          obtain ⟨pc, hD, hpc⟩ := hI.v.1 hA
          have HI : Hid (_ ∈ Region.ready _ _ _) := hi
          clear hi
          refine wpOp_plain rfl rfl ?_
          refine wp_hide (fun K hK => ?_)
          have e5 : x.tmps[0]?.getD undef = .pointer (some ⟨kr, 0, none⟩) := ev_tmp (hI.out 0 (Or.inl (by omega)))
          have HJ : Hid (Ir _ _ _ _ _ _ _ _ _ _ _) := hI
          have HO : Hid _ := ho
          clear hI ho
          go_simp
          have ho := HO.out
          exact hK.out _ _ (HJ.out.put HI.out (by omega) (Nat.le_of_ble_eq_true rfl) (rfl) (fun j u _ _ _ _ h => h) (HJ.out.v.same ho (by omega) (by omega)))
        · have hA : listed.getD 14 false = false := not_true (fun h => open_not ho (hI.tr 5 4 (by rfl) (hI.tr 6 5 (by rfl) (hI.tr 12 6 (by rfl) (hI.tr 13 12 (by rfl) (hI.tr 14 13 (by rfl) h))))))
          have hn : listed.getD 16 false = false := not_true (fun h => by rw [hI.tr 16 14 (by rfl) h] at hA; cases hA)
          obtain ⟨pc, hD, hpc⟩ := hI.v.1 hA
          have d3 := dep_of hi (j := 3) (by rfl)
          have HI : Hid (_ ∈ Region.ready _ _ _) := hi
          clear hi
          refine wpOp_plain rfl rfl ?_
          refine wp_hide (fun K hK => ?_)
          have e1 : x.tmps[120]?.getD undef = .pointer (some ⟨kr, 0, none⟩) := ev_tmp (hI.good 3 (by omega) d3 (Or.inl hA))
          have HJ : Hid (Ir _ _ _ _ _ _ _ _ _ _ _) := hI
          have HO : Hid _ := ho
          clear hI ho
          go_simp
          have ho := HO.out
          refine (pickQ kr pc 3 y hD.r (by omega) (by omega) (by omega)).mono ?_
          rintro e y' ⟨z, rfl, z0, z1, r9, e9⟩
          exact hK.out _ _ (HJ.out.put HI.out (by omega) (Nat.le_of_ble_eq_true rfl) (⟨z, rfl, z0, by omega⟩) (fun j u hj hne hl hc h => G25.keep e9 hk0 j u (fun e' => by subst e'; rw [hA] at hl; cases hl) h) (Vr.turn ho hn (by omega) (hD.pick e9 r9) (by omega)))
        · have hA : listed.getD 14 false = false := not_true (fun h => open_not ho (hI.tr 6 5 (by rfl) (hI.tr 12 6 (by rfl) (hI.tr 13 12 (by rfl) (hI.tr 14 13 (by rfl) h)))))
          have hn : listed.getD 16 false = false := not_true (fun h => by rw [hI.tr 16 14 (by rfl) h] at hA; cases hA)
          obtain ⟨pc, hD, hpc⟩ := hI.v.1 hA
          have d2 := dep_of hi (j := 2) (by rfl)
          have d4 := dep_of hi (j := 4) (by rfl)
          have HI : Hid (_ ∈ Region.ready _ _ _) := hi
          clear hi
          refine wpOp_plain rfl rfl ?_
          refine wp_hide (fun K hK => ?_)
          obtain ⟨g, hg, g0, g1, g2, gc⟩ := hI.good 2 (by omega) d2 (Or.inl hA)
          obtain ⟨z, hm, m0, m1⟩ := hI.good 4 (by omega) d4 (Or.inl hA)
          have e1 : x.tmps[119]?.getD undef = _ := ev_tmp hg
          have e2 : x.tmps[121]?.getD undef = _ := ev_tmp hm
          obtain ⟨j, rfl⟩ := Int.eq_ofNat_of_zero_le m0
          obtain ⟨u, hu, hP⟩ := gc j (by omega)
          have j0 : (j : Int) < 3 := by omega
          clear gc hm hg
          have HJ : Hid (Ir _ _ _ _ _ _ _ _ _ _ _) := hI
          have HO : Hid _ := ho
          clear hI ho
          go_simp
          have ho := HO.out
          exact hK.out _ _ (HJ.out.put HI.out (by omega) (Nat.le_of_ble_eq_true rfl) (⟨g, j, u, rfl, g0, g1, g2, hu, hP⟩) (fun j u _ _ _ _ h => h) (HJ.out.v.same ho (by omega) (by omega)))
        · have hA : listed.getD 14 false = false := not_true (fun h => open_not ho (hI.tr 12 6 (by rfl) (hI.tr 13 12 (by rfl) (hI.tr 14 13 (by rfl) h))))
          have hn : listed.getD 16 false = false := not_true (fun h => by rw [hI.tr 16 14 (by rfl) h] at hA; cases hA)
          obtain ⟨pc, hD, hpc⟩ := hI.v.1 hA
          have d5 := dep_of hi (j := 5) (by rfl)
          have HI : Hid (_ ∈ Region.ready _ _ _) := hi
          clear hi
          refine wpOp_plain rfl rfl ?_
          refine wp_hide (fun K hK => ?_)
          obtain ⟨g, j, u, hv, g0, g1, g2, hu, hP⟩ := hI.good 5 (by omega) d5 (Or.inl hA)
          have e1 : x.tmps[122]?.getD undef = _ := ev_tmp hv
          obtain ⟨s, rfl, hs⟩ := hP
          clear hv
          have HJ : Hid (Ir _ _ _ _ _ _ _ _ _ _ _) := hI
          have HO : Hid _ := ho
          clear hI ho
          go_simp
          have ho := HO.out
          exact hK.out _ _ (HJ.out.put HI.out (by omega) (Nat.le_of_ble_eq_true rfl) (⟨s, rfl, hs⟩) (fun j u _ _ _ _ h => h) (HJ.out.v.same ho (by omega) (by omega)))
        · have hA : listed.getD 14 false = false := not_true (fun h => open_not ho (hI.tr 8 7 (by rfl) (hI.tr 9 8 (by rfl) (hI.tr 12 9 (by rfl) (hI.tr 13 12 (by rfl) (hI.tr 14 13 (by rfl) h))))))
          have hn : listed.getD 16 false = false := not_true (fun h => by rw [hI.tr 16 14 (by rfl) h] at hA; cases hA)
          obtain ⟨pc, hD, hpc⟩ := hI.v.1 hA
          have HI : Hid (_ ∈ Region.ready _ _ _) := hi
          clear hi
          refine wpOp_plain rfl rfl ?_
          refine wp_hide (fun K hK => ?_)
          have e5 : x.tmps[0]?.getD undef = .pointer (some ⟨kr, 0, none⟩) := ev_tmp (hI.out 0 (Or.inl (by omega)))
          have HJ : Hid (Ir _ _ _ _ _ _ _ _ _ _ _) := hI
          have HO : Hid _ := ho
          clear hI ho
          go_simp
          have ho := HO.out
          exact hK.out _ _ (HJ.out.put HI.out (by omega) (Nat.le_of_ble_eq_true rfl) (rfl) (fun j u _ _ _ _ h => h) (HJ.out.v.same ho (by omega) (by omega)))
        · have hA : listed.getD 14 false = false := not_true (fun h => open_not ho (hI.tr 9 8 (by rfl) (hI.tr 12 9 (by rfl) (hI.tr 13 12 (by rfl) (hI.tr 14 13 (by rfl) h)))))
          have hn : listed.getD 16 false = false := not_true (fun h => by rw [hI.tr 16 14 (by rfl) h] at hA; cases hA)
          obtain ⟨pc, hD, hpc⟩ := hI.v.1 hA
          have d7 := dep_of hi (j := 7) (by rfl)
          have HI : Hid (_ ∈ Region.ready _ _ _) := hi
          clear hi
          refine wpOp_plain rfl rfl ?_
          refine wp_hide (fun K hK => ?_)
          have e1 : x.tmps[124]?.getD undef = .pointer (some ⟨kr, 0, none⟩) := ev_tmp (hI.good 7 (by omega) d7 (Or.inl hA))
          have HJ : Hid (Ir _ _ _ _ _ _ _ _ _ _ _) := hI
          have HO : Hid _ := ho
          clear hI ho
          go_simp
          have ho := HO.out
          refine (pickQ kr pc 3 y hD.r (by omega) (by omega) (by omega)).mono ?_
          rintro e y' ⟨z, rfl, z0, z1, r9, e9⟩
          exact hK.out _ _ (HJ.out.put HI.out (by omega) (Nat.le_of_ble_eq_true rfl) (⟨z, rfl, z0, by omega⟩) (fun j u hj hne hl hc h => G25.keep e9 hk0 j u (fun e' => by subst e'; rw [hA] at hl; cases hl) h) (Vr.turn ho hn (by omega) (hD.pick e9 r9) (by omega)))
        · have hA : listed.getD 14 false = false := not_true (fun h => open_not ho (hI.tr 12 9 (by rfl) (hI.tr 13 12 (by rfl) (hI.tr 14 13 (by rfl) h))))
          have hn : listed.getD 16 false = false := not_true (fun h => by rw [hI.tr 16 14 (by rfl) h] at hA; cases hA)
          obtain ⟨pc, hD, hpc⟩ := hI.v.1 hA
          have d8 := dep_of hi (j := 8) (by rfl)
          have HI : Hid (_ ∈ Region.ready _ _ _) := hi
          clear hi
          refine wpOp_plain rfl rfl ?_
          refine wp_hide (fun K hK => ?_)
          obtain ⟨z, hz, z0, z1⟩ := hI.good 8 (by omega) d8 (Or.inl hA)
          have e1 : x.tmps[125]?.getD undef = _ := ev_tmp hz
          have HJ : Hid (Ir _ _ _ _ _ _ _ _ _ _ _) := hI
          have HO : Hid _ := ho
          clear hI ho
          go_simp
          have ho := HO.out
          exact hK.out _ _ (HJ.out.put HI.out (by omega) (Nat.le_of_ble_eq_true rfl) (⟨_, rfl⟩) (fun j u _ _ _ _ h => h) (HJ.out.v.same ho (by omega) (by omega)))
        · have hA : listed.getD 14 false = false := not_true (fun h => open_not ho (hI.tr 11 10 (by rfl) (hI.tr 12 11 (by rfl) (hI.tr 13 12 (by rfl) (hI.tr 14 13 (by rfl) h)))))
          have hn : listed.getD 16 false = false := not_true (fun h => by rw [hI.tr 16 14 (by rfl) h] at hA; cases hA)
          obtain ⟨pc, hD, hpc⟩ := hI.v.1 hA
          have HI : Hid (_ ∈ Region.ready _ _ _) := hi
          clear hi
          refine wpOp_plain rfl rfl ?_
          refine wp_hide (fun K hK => ?_)
          have e5 : x.tmps[0]?.getD undef = .pointer (some ⟨kr, 0, none⟩) := ev_tmp (hI.out 0 (Or.inl (by omega)))
          have HJ : Hid (Ir _ _ _ _ _ _ _ _ _ _ _) := hI
          have HO : Hid _ := ho
          clear hI ho
          go_simp
          have ho := HO.out
          exact hK.out _ _ (HJ.out.put HI.out (by omega) (Nat.le_of_ble_eq_true rfl) (rfl) (fun j u _ _ _ _ h => h) (HJ.out.v.same ho (by omega) (by omega)))
        · have hA : listed.getD 14 false = false := not_true (fun h => open_not ho (hI.tr 12 11 (by rfl) (hI.tr 13 12 (by rfl) (hI.tr 14 13 (by rfl) h))))
          have hn : listed.getD 16 false = false := not_true (fun h => by rw [hI.tr 16 14 (by rfl) h] at hA; cases hA)
          obtain ⟨pc, hD, hpc⟩ := hI.v.1 hA
          have d10 := dep_of hi (j := 10) (by rfl)
          have HI : Hid (_ ∈ Region.ready _ _ _) := hi
          clear hi
          refine wpOp_plain rfl rfl ?_
          refine wp_hide (fun K hK => ?_)
          have e1 : x.tmps[127]?.getD undef = .pointer (some ⟨kr, 0, none⟩) := ev_tmp (hI.good 10 (by omega) d10 (Or.inl hA))
          have HJ : Hid (Ir _ _ _ _ _ _ _ _ _ _ _) := hI
          have HO : Hid _ := ho
          clear hI ho
          go_simp
          have ho := HO.out
          refine (pickQ kr pc 5 y hD.r (by omega) (by omega) (by omega)).mono ?_
          rintro e y' ⟨z, rfl, z0, z1, r9, e9⟩
          exact hK.out _ _ (HJ.out.put HI.out (by omega) (Nat.le_of_ble_eq_true rfl) (⟨z, rfl, z0, by omega⟩) (fun j u hj hne hl hc h => G25.keep e9 hk0 j u (fun e' => by subst e'; rw [hA] at hl; cases hl) h) (Vr.turn ho hn (by omega) (hD.pick e9 r9) (by omega)))
        · have hA : listed.getD 14 false = false := not_true (fun h => open_not ho (hI.tr 13 12 (by rfl) (hI.tr 14 13 (by rfl) h)))
          have hn : listed.getD 16 false = false := not_true (fun h => by rw [hI.tr 16 14 (by rfl) h] at hA; cases hA)
          obtain ⟨pc, hD, hpc⟩ := hI.v.1 hA
          have d6 := dep_of hi (j := 6) (by rfl)
          have d9 := dep_of hi (j := 9) (by rfl)
          have d11 := dep_of hi (j := 11) (by rfl)
          have HI : Hid (_ ∈ Region.ready _ _ _) := hi
          clear hi
          refine wpOp_plain rfl rfl ?_
          refine wp_hide (fun K hK => ?_)
          obtain ⟨h, h1, hh⟩ := hI.good 6 (by omega) d6 (Or.inl hA)
          obtain ⟨f, h3⟩ := hI.good 9 (by omega) d9 (Or.inl hA)
          obtain ⟨a, h4, a0', a1'⟩ := hI.good 11 (by omega) d11 (Or.inl hA)
          have e0 : x.tmps[123]?.getD undef = _ := ev_tmp h1
          have e2 : x.tmps[126]?.getD undef = _ := ev_tmp h3
          have e3 : x.tmps[128]?.getD undef = _ := ev_tmp h4
          clear h1 h3 h4
          have HJ : Hid (Ir _ _ _ _ _ _ _ _ _ _ _) := hI
          have HO : Hid _ := ho
          clear hI ho
          go_simp
          have ho := HO.out
          exact hK.out _ _ (HJ.out.put HI.out (by omega) (Nat.le_of_ble_eq_true rfl) (⟨h, _, f, a, rfl, hh, (by decide)⟩) (fun j u _ _ _ _ h => h) (HJ.out.v.same ho (by omega) (by omega)))
        · have hA : listed.getD 14 false = false := not_true (fun h => open_not ho (hI.tr 14 13 (by rfl) h))
          have hn : listed.getD 16 false = false := not_true (fun h => by rw [hI.tr 16 14 (by rfl) h] at hA; cases hA)
          obtain ⟨pc, hD, hpc⟩ := hI.v.1 hA
          have d12 := dep_of hi (j := 12) (by rfl)
          have HI : Hid (_ ∈ Region.ready _ _ _) := hi
          clear hi
          refine wpOp_plain rfl rfl ?_
          refine wp_hide (fun K hK => ?_)
          obtain ⟨h, c, f, a, hv, hh, hc⟩ := hI.good 12 (by omega) d12 (Or.inl hA)
          have e1 : x.tmps[129]?.getD undef = _ := ev_tmp hv
          have hb := bld1a h c f a
          clear hv
          have HJ : Hid (Ir _ _ _ _ _ _ _ _ _ _ _) := hI
          have HO : Hid _ := ho
          clear hI ho
          go_simp
          have ho := HO.out
          have hbl : Below y.heap.size y (y.alloc (.cells (arrA h c f a) 99)) := bl_alloc (Below.refl _ _) _
          have hg9 : AskN B (y.alloc (.cells (arrA h c f a) 99)) (.slice (some ⟨y.heap.size, 0, none⟩) 1 1) := ⟨h, c, f, a, y.heap.size, rfl, (by have := hD.z; omega), by simp, heap_new rfl, hh, hc⟩
          exact hK.out _ _ (HJ.out.put HI.out (by omega) (Nat.le_of_ble_eq_true rfl) (hg9) (fun j u hj hne hl hc h => G25.keep (Ex.of_below hbl) hk0 j u (fun e' => by subst e'; rw [hA] at hl; cases hl) h) (Vr.turn ho hn (by omega) (hD.below hbl) (by omega)))
        · have hA : listed.getD 14 false = false := not_true (fun h => open_not ho h)
          have hn : listed.getD 16 false = false := not_true (fun h => by rw [hI.tr 16 14 (by rfl) h] at hA; cases hA)
          obtain ⟨pc, hD, hpc⟩ := hI.v.1 hA
          have d1 := dep_of hi (j := 1) (by rfl)
          have d13 := dep_of hi (j := 13) (by rfl)
          have HI : Hid (_ ∈ Region.ready _ _ _) := hi
          clear hi
          refine wpOp_plain rfl rfl ?_
          refine wp_hide (fun K hK => ?_)
          have e1 : x.tmps.getD 118 undef = (.slice a4 m.gs.length b4) := hI.good 1 (by omega) d1 (Or.inl hA)
          have hN : AskN B y (x.tmps.getD 130 undef) := hI.good 13 (by omega) d13 (Or.inl hA)
          refine askApp B (.tmp 118) (.tmp 130) rfl m.gs (.slice a4 m.gs.length b4) _ e1 hD.l.a4 (by have := hD.z; omega) rfl hN (by have := HF.out.g1; omega) ?_
          intro s' w' hh c f a o1 g1 hat h20 c20
          exact hK.out _ _ (hI.put HI.out (by omega) (Nat.le_of_ble_eq_true rfl) ⟨y, pc, hh, c, f, a, hD, by omega, g1, o1, hat, h20, c20⟩ (fun j u hj hne hl hc h => by
            rcases hc with hc | hc
            · rw [set_same (by rw [hI.lz]; omega)] at hc; cases hc
            · obtain rfl : j = 15 := by omega
              exact h) (Vr.past (set_same (by rw [hI.lz]; omega)) (by rw [set_ne (by omega)]; exact hn)))
        · have HI : Hid (_ ∈ Region.ready _ _ _) := hi
          clear hi
          refine wpOp_plain rfl rfl ?_
          refine wp_hide (fun K hK => ?_)
          have e5 : x.tmps[5]?.getD undef = .pointer (some ⟨bm, 0, none⟩) := ev_tmp (hI.out 5 (Or.inl (by omega)))
          have HJ : Hid (Ir _ _ _ _ _ _ _ _ _ _ _) := hI
          have HO : Hid _ := ho
          clear hI ho
          go_simp
          have ho := HO.out
          exact hK.out _ _ (HJ.out.put HI.out (by omega) (Nat.le_of_ble_eq_true rfl) (rfl) (fun j u _ _ _ _ h => h) (HJ.out.v.same ho (by omega) (by omega)))
        · have hn : listed.getD 16 false = false := not_true (fun h => open_not ho h)
          have d15 := dep_of hi (j := 15) (by rfl)
          have d14 := dep_of hi (j := 14) (by rfl)
          have HI : Hid (_ ∈ Region.ready _ _ _) := hi
          clear hi
          refine wpOp_plain rfl rfl ?_
          refine wp_hide (fun K hK => ?_)
          obtain ⟨x0, p0, hh, c, f, a, hD, hp, hg, ho1, hat, h20, c20⟩ := hI.good 14 (by omega) d14 (Or.inr ⟨by omega, hn⟩)
          have e1 : x.tmps[132]?.getD undef = .pointer (some ⟨bm, 8, none⟩) := ev_tmp (hI.good 15 (by omega) d15 (Or.inr ⟨by omega, hn⟩))
          obtain ⟨aa, pp, hv⟩ := A.Ow.shape ho1
          generalize hnn : List.length _ = nn at hv
          have e2 : x.tmps[131]?.getD undef = _ := ev_tmp hv
          rw [hv] at ho1 hat
          obtain ⟨kb, kc, -⟩ := dn_rest hD hg (fun k hk => ⟨by have h1 := (hD.l.a4.lt k hk).1; have h2 := hD.zb; omega, fun e => hD.nb.2.2.2 (by rw [hk, e])⟩)
          have k1 : y.cell? ⟨bm, 8, none⟩ = some (.slice a4 m.gs.length b4) := kb 8
          have k2 : y.frozen? ⟨bm, 8, none⟩ = false := kc 8
          have HE := Dn.app4 hD hg ho1 hat
          have hA' : (listed.setIfInBounds 16 true).getD 14 false = true := by rw [set_ne (by omega)]; exact d14
          clear kb kc hv hnn
          have HJ : Hid (Ir _ _ _ _ _ _ _ _ _ _ _) := hI
          have HO : Hid _ := ho
          clear hI ho
          go_simp
          have ho := HO.out
          exact hK.out _ _ (HJ.out.last (u := undef) HI.out (Or.inr d14) (Vr.fin hA' ⟨_, _, _, _, _, HE.up (by omega), fits_gs HF.out.fits (by have := HF.out.g1; omega) ⟨by show hh.size ≤ maxLen; unfold maxLen; omega, by show c.size ≤ maxLen; unfold maxLen; omega⟩⟩))
    · go_wp2_with fail
      refine wp_region_any (by kernel_rfl) ?_
      refine reg_inv 135 10 8 (G27 kr bm B (.slice a2 m.rs.length bb2) B (fun p y => Dn W0 kr bm B m (.slice a1 m.ws.length b1) (.slice a2 m.rs.length bb2) (.slice a3 m.qs.length b3) (.slice a4 m.gs.length b4) (p) y) (q + 1 + 1 + 2200) m.rs) (fun p y => Dn W0 kr bm B m (.slice a1 m.ws.length b1) (.slice a2 m.rs.length bb2) (.slice a3 m.qs.length b3) (.slice a4 m.gs.length b4) (p) y) (fun y => ∃ m' t1 t2 t3 t4, Dn W0 kr bm B m' t1 t2 t3 t4 (q + 4300) y ∧ m'.fits) (q + 1 + 1) (by decide) rfl (Nat.le_of_ble_eq_true rfl) (D4.out.below (bl_drew (Below.refl _ _))) ?done27 ?step27
      case done27 =>
        intro l y hl hE
        obtain ⟨v0, l0, rfl, hl0⟩ := len_succ hl
        obtain ⟨v1, l1, rfl, hl1⟩ := len_succ hl0
        obtain ⟨v2, l2, rfl, hl2⟩ := len_succ hl1
        obtain ⟨v3, l3, rfl, hl3⟩ := len_succ hl2
        obtain ⟨v4, l4, rfl, hl4⟩ := len_succ hl3
        obtain ⟨v5, l5, rfl, hl5⟩ := len_succ hl4
        obtain ⟨v6, l6, rfl, hl6⟩ := len_succ hl5
        obtain ⟨v7, l7, rfl, hl7⟩ := len_succ hl6
        obtain ⟨v8, l8, rfl, hl8⟩ := len_succ hl7
        obtain ⟨v9, l9, rfl, hl9⟩ := len_succ hl8
        obtain rfl := len_zero hl9
        simp only [List.take_succ_cons, List.take_zero, List.drop_succ_cons, List.drop_zero, List.cons_append, List.nil_append, Nat.reduceAdd]
        go_wp2_with fail
        go_meet
        exact hE
      case step27 =>
        intro listed x y i hI hi hlt
        have ho := ready_open hi
        obtain rfl | rfl | rfl | rfl | rfl | rfl | rfl | rfl | rfl | rfl | rfl : i = 0 ∨ i = 1 ∨ i = 2 ∨ i = 3 ∨ i = 4 ∨ i = 5 ∨ i = 6 ∨ i = 7 ∨ i = 8 ∨ i = 9 ∨ i = 10 := by omega
        · have hA : listed.getD 8 false = false := not_true (fun h => open_not ho (hI.tr 1 0 (by rfl) (hI.tr 8 1 (by rfl) h)))
          have hn : listed.getD 10 false = false := not_true (fun h => by rw [hI.tr 10 8 (by rfl) h] at hA; cases hA)
          obtain ⟨pc, hD, hpc⟩ := hI.v.1 hA
          have HI : Hid (_ ∈ Region.ready _ _ _) := hi
          clear hi
          refine wpOp_plain rfl rfl ?_
          refine wp_hide (fun K hK => ?_)
          have e5 : x.tmps[5]?.getD undef = .pointer (some ⟨bm, 0, none⟩) := ev_tmp (hI.out 5 (Or.inl (by omega)))
          have HJ : Hid (Ir _ _ _ _ _ _ _ _ _ _ _) := hI
          have HO : Hid _ := ho
          clear hI ho
          go_simp
          have ho := HO.out
          exact hK.out _ _ (HJ.out.put HI.out (by omega) (Nat.le_of_ble_eq_true rfl) (rfl) (fun j u _ _ _ _ h => h) (HJ.out.v.same ho (by omega) (by omega)))
        · have hA : listed.getD 8 false = false := not_true (fun h => open_not ho (hI.tr 8 1 (by rfl) h))
          have hn : listed.getD 10 false = false := not_true (fun h => by rw [hI.tr 10 8 (by rfl) h] at hA; cases hA)
          obtain ⟨pc, hD, hpc⟩ := hI.v.1 hA
          have d0 := dep_of hi (j := 0) (by rfl)
          have HI : Hid (_ ∈ Region.ready _ _ _) := hi
          clear hi
          refine wpOp_plain rfl rfl ?_
          refine wp_hide (fun K hK => ?_)
          have e1 : x.tmps[135]?.getD undef = .pointer (some ⟨bm, 6, none⟩) := ev_tmp (hI.good 0 (by omega) d0 (Or.inl hA))
          have k1 : y.cell? ⟨bm, 6, none⟩ = some ((.slice a2 m.rs.length bb2)) := hD.b 6
          have HJ : Hid (Ir _ _ _ _ _ _ _ _ _ _ _) := hI
          have HO : Hid _ := ho
          clear hI ho
          go_simp
          have ho := HO.out
          exact hK.out _ _ (HJ.out.put HI.out (by omega) (Nat.le_of_ble_eq_true rfl) (rfl) (fun j u _ _ _ _ h => h) (HJ.out.v.same ho (by omega) (by omega)))
        · have hA : listed.getD 8 false = false := not_true (fun h => open_not ho (hI.tr 6 2 (by rfl) (hI.tr 7 6 (by rfl) (hI.tr 8 7 (by rfl) h))))
          have hn : listed.getD 10 false = false := not_true (fun h => by rw [hI.tr 10 8 (by rfl) h] at hA; cases hA)
          obtain ⟨pc, hD, hpc⟩ := hI.v.1 hA
          have HI : Hid (_ ∈ Region.ready _ _ _) := hi
          clear hi
          refine wpOp_plain rfl rfl ?_
          refine wp_hide (fun K hK => ?_)
          have HJ : Hid (Ir _ _ _ _ _ _ _ _ _ _ _) := hI
          have HO : Hid _ := ho
          clear hI ho
          go_simp
          have ho := HO.out
          exact hK.out _ _ (HJ.out.put HI.out (by omega) (Nat.le_of_ble_eq_true rfl) (rfl) (fun j u _ _ _ _ h => h) (HJ.out.v.same ho (by omega) (by omega)))
        · have hA : listed.getD 8 false = false := not_true (fun h => open_not ho (hI.tr 4 3 (by rfl) (hI.tr 5 4 (by rfl) (hI.tr 6 5 (by rfl) (hI.tr 7 6 (by rfl) (hI.tr 8 7 (by rfl) h))))))
          have hn : listed.getD 10 false = false := not_true (fun h => by rw [hI.tr 10 8 (by rfl) h] at hA; cases hA)
          obtain ⟨pc, hD, hpc⟩ := hI.v.1 hA
          have HI : Hid (_ ∈ Region.ready _ _ _) := hi
          clear hi
          refine wpOp_plain rfl rfl ?_
          refine wp_hide (fun K hK => ?_)
          have e5 : x.tmps[0]?.getD undef = .pointer (some ⟨kr, 0, none⟩) := ev_tmp (hI.out 0 (Or.inl (by omega)))
          have HJ : Hid (Ir _ _ _ _ _ _ _ _ _ _ _) := hI
          have HO : Hid _ := ho
          clear hI ho
          go_simp
          have ho := HO.out
          exact hK.out _ _ (HJ.out.put HI.out (by omega) (Nat.le_of_ble_eq_true rfl) (rfl) (fun j u _ _ _ _ h => h) (HJ.out.v.same ho (by omega) (by omega)))
        · have hA : listed.getD 8 false = false := not_true (fun h => open_not ho (hI.tr 5 4 (by rfl) (hI.tr 6 5 (by rfl) (hI.tr 7 6 (by rfl) (hI.tr 8 7 (by rfl) h)))))
          have hn : listed.getD 10 false = false := not_true (fun h => by rw [hI.tr 10 8 (by rfl) h] at hA; cases hA)
          obtain ⟨pc, hD, hpc⟩ := hI.v.1 hA
          have d3 := dep_of hi (j := 3) (by rfl)
          have HI : Hid (_ ∈ Region.ready _ _ _) := hi
          clear hi
          refine wpOp_plain rfl rfl ?_
          refine wp_hide (fun K hK => ?_)
          have e1 : x.tmps[138]?.getD undef = .pointer (some ⟨kr, 0, none⟩) := ev_tmp (hI.good 3 (by omega) d3 (Or.inl hA))
          have HJ : Hid (Ir _ _ _ _ _ _ _ _ _ _ _) := hI
          have HO : Hid _ := ho
          clear hI ho
          go_simp
          have ho := HO.out
          refine (pickQ kr pc 6 y hD.r (by omega) (by omega) (by omega)).mono ?_
          rintro e y' ⟨z, rfl, z0, z1, r9, e9⟩
          exact hK.out _ _ (HJ.out.put HI.out (by omega) (Nat.le_of_ble_eq_true rfl) (⟨z, rfl, z0, by omega⟩) (fun j u hj hne hl hc h => G27.keep e9 hk0 j u (fun e' => by subst e'; rw [hA] at hl; cases hl) h) (Vr.turn ho hn (by omega) (hD.pick e9 r9) (by omega)))
        · have hA : listed.getD 8 false = false := not_true (fun h => open_not ho (hI.tr 6 5 (by rfl) (hI.tr 7 6 (by rfl) (hI.tr 8 7 (by rfl) h))))
          have hn : listed.getD 10 false = false := not_true (fun h => by rw [hI.tr 10 8 (by rfl) h] at hA; cases hA)
          obtain ⟨pc, hD, hpc⟩ := hI.v.1 hA
          have d4 := dep_of hi (j := 4) (by rfl)
          have HI : Hid (_ ∈ Region.ready _ _ _) := hi
          clear hi
          refine wpOp_plain rfl rfl ?_
          refine wp_hide (fun K hK => ?_)
          obtain ⟨z, hz, z0, z1⟩ := hI.good 4 (by omega) d4 (Or.inl hA)
          have e1 : x.tmps[139]?.getD undef = _ := ev_tmp hz
          have HJ : Hid (Ir _ _ _ _ _ _ _ _ _ _ _) := hI
          have HO : Hid _ := ho
          clear hI ho
          go_simp
          have ho := HO.out
          exact hK.out _ _ (HJ.out.put HI.out (by omega) (Nat.le_of_ble_eq_true rfl) (⟨_, rfl⟩) (fun j u _ _ _ _ h => h) (HJ.out.v.same ho (by omega) (by omega)))
        · have hA : listed.getD 8 false = false := not_true (fun h => open_not ho (hI.tr 7 6 (by rfl) (hI.tr 8 7 (by rfl) h)))
          have hn : listed.getD 10 false = false := not_true (fun h => by rw [hI.tr 10 8 (by rfl) h] at hA; cases hA)
          obtain ⟨pc, hD, hpc⟩ := hI.v.1 hA
          have d2 := dep_of hi (j := 2) (by rfl)
          have d5 := dep_of hi (j := 5) (by rfl)
          have HI : Hid (_ ∈ Region.ready _ _ _) := hi
          clear hi
          refine wpOp_plain rfl rfl ?_
          refine wp_hide (fun K hK => ?_)
          have e1 : x.tmps[137]?.getD undef = .agg #[.string { data := #[122, 122] }, .int .i64 1, .string { data := #[] }, .int .i64 0, .int .i64 0, .int .i64 0, .int .i64 0] := ev_tmp (hI.good 2 (by omega) d2 (Or.inl hA))
          obtain ⟨z, hz⟩ := hI.good 5 (by omega) d5 (Or.inl hA)
          have e2 : x.tmps[140]?.getD undef = _ := ev_tmp hz
          clear hz
          have HJ : Hid (Ir _ _ _ _ _ _ _ _ _ _ _) := hI
          have HO : Hid _ := ho
          clear hI ho
          go_simp
          have ho := HO.out
          exact hK.out _ _ (HJ.out.put HI.out (by omega) (Nat.le_of_ble_eq_true rfl) (⟨z, rfl⟩) (fun j u _ _ _ _ h => h) (HJ.out.v.same ho (by omega) (by omega)))
        · have hA : listed.getD 8 false = false := not_true (fun h => open_not ho (hI.tr 8 7 (by rfl) h))
          have hn : listed.getD 10 false = false := not_true (fun h => by rw [hI.tr 10 8 (by rfl) h] at hA; cases hA)
          obtain ⟨pc, hD, hpc⟩ := hI.v.1 hA
          have d6 := dep_of hi (j := 6) (by rfl)
          have HI : Hid (_ ∈ Region.ready _ _ _) := hi
          clear hi
          refine wpOp_plain rfl rfl ?_
          refine wp_hide (fun K hK => ?_)
          obtain ⟨a, hv⟩ := hI.good 6 (by omega) d6 (Or.inl hA)
          have e1 : x.tmps[141]?.getD undef = .agg #[.string { data := #[122, 122] }, .int .i64 1, .string { data := #[] }, .int .i64 0, .int .i64 0, .int .i64 0, .int .i64 0, .int .i64 a, .int .i64 0, .int .i64 0, .int .i64 0] := ev_tmp hv
          have hb := build1r a
          clear hv
          have HJ : Hid (Ir _ _ _ _ _ _ _ _ _ _ _) := hI
          have HO : Hid _ := ho
          clear hI ho
          go_simp
          have ho := HO.out
          have hbl : Below y.heap.size y (y.alloc (.cells (nilRun a).cells.toArray 38)) := bl_alloc (Below.refl _ _) _
          have hg9 : RunN B (y.alloc (.cells (nilRun a).cells.toArray 38)) (.slice (some ⟨y.heap.size, 0, none⟩) 1 1) := ⟨a, y.heap.size, rfl, (by have := hD.z; omega), by simp, heap_new rfl⟩
          exact hK.out _ _ (HJ.out.put HI.out (by omega) (Nat.le_of_ble_eq_true rfl) (hg9) (fun j u hj hne hl hc h => G27.keep (Ex.of_below hbl) hk0 j u (fun e' => by subst e'; rw [hA] at hl; cases hl) h) (Vr.turn ho hn (by omega) (hD.below hbl) (by omega)))
        · have hA : listed.getD 8 false = false := not_true (fun h => open_not ho h)
          have hn : listed.getD 10 false = false := not_true (fun h => by rw [hI.tr 10 8 (by rfl) h] at hA; cases hA)
          obtain ⟨pc, hD, hpc⟩ := hI.v.1 hA
          have d1 := dep_of hi (j := 1) (by rfl)
          have d7 := dep_of hi (j := 7) (by rfl)
          have HI : Hid (_ ∈ Region.ready _ _ _) := hi
          clear hi
          refine wpOp_plain rfl rfl ?_
          refine wp_hide (fun K hK => ?_)
          have e1 : x.tmps.getD 136 undef = (.slice a2 m.rs.length bb2) := hI.good 1 (by omega) d1 (Or.inl hA)
          have hN : RunN B y (x.tmps.getD 142 undef) := hI.good 7 (by omega) d7 (Or.inl hA)
          refine runApp B (.tmp 136) (.tmp 142) rfl m.rs (.slice a2 m.rs.length bb2) _ e1 hD.l.a2 (by have := hD.z; omega) rfl hN (by have := HF.out.r1; omega) ?_
          intro s' w' st o1 g1 hat
          exact hK.out _ _ (hI.put HI.out (by omega) (Nat.le_of_ble_eq_true rfl) ⟨y, pc, st, hD, by omega, g1, o1, hat⟩ (fun j u hj hne hl hc h => by
            rcases hc with hc | hc
            · rw [set_same (by rw [hI.lz]; omega)] at hc; cases hc
            · obtain rfl : j = 9 := by omega
              exact h) (Vr.past (set_same (by rw [hI.lz]; omega)) (by rw [set_ne (by omega)]; exact hn)))
        · have HI : Hid (_ ∈ Region.ready _ _ _) := hi
          clear hi
          refine wpOp_plain rfl rfl ?_
          refine wp_hide (fun K hK => ?_)
          have e5 : x.tmps[5]?.getD undef = .pointer (some ⟨bm, 0, none⟩) := ev_tmp (hI.out 5 (Or.inl (by omega)))
          have HJ : Hid (Ir _ _ _ _ _ _ _ _ _ _ _) := hI
          have HO : Hid _ := ho
          clear hI ho
          go_simp
          have ho := HO.out
          exact hK.out _ _ (HJ.out.put HI.out (by omega) (Nat.le_of_ble_eq_true rfl) (rfl) (fun j u _ _ _ _ h => h) (HJ.out.v.same ho (by omega) (by omega)))
        · have hn : listed.getD 10 false = false := not_true (fun h => open_not ho h)
          have d9 := dep_of hi (j := 9) (by rfl)
          have d8 := dep_of hi (j := 8) (by rfl)
          have HI : Hid (_ ∈ Region.ready _ _ _) := hi
          clear hi
          refine wpOp_plain rfl rfl ?_
          refine wp_hide (fun K hK => ?_)
          obtain ⟨x0, p0, st, hD, hp, hg, ho1, hat⟩ := hI.good 8 (by omega) d8 (Or.inr ⟨by omega, hn⟩)
          have e1 : x.tmps[144]?.getD undef = .pointer (some ⟨bm, 6, none⟩) := ev_tmp (hI.good 9 (by omega) d9 (Or.inr ⟨by omega, hn⟩))
          obtain ⟨aa, pp, hv⟩ := Ow.shape ho1
          generalize hnn : List.length _ = nn at hv
          have e2 : x.tmps[143]?.getD undef = _ := ev_tmp hv
          rw [hv] at ho1 hat
          obtain ⟨kb, kc, -⟩ := dn_rest hD hg (fun k hk => ⟨by have h1 := (hD.l.a2.lt k hk).1; have h2 := hD.zb; omega, fun e => hD.nb.2.1 (by rw [hk, e])⟩)
          have k1 : y.cell? ⟨bm, 6, none⟩ = some (.slice a2 m.rs.length bb2) := kb 6
          have k2 : y.frozen? ⟨bm, 6, none⟩ = false := kc 6
          have HE := Dn.app2 hD hg ho1 hat
          have hA' : (listed.setIfInBounds 10 true).getD 8 false = true := by rw [set_ne (by omega)]; exact d8
          clear kb kc hv hnn
          have HJ : Hid (Ir _ _ _ _ _ _ _ _ _ _ _) := hI
          have HO : Hid _ := ho
          clear hI ho
          go_simp
          have ho := HO.out
          exact hK.out _ _ (HJ.out.last (u := undef) HI.out (Or.inr d8) (Vr.fin hA' ⟨_, _, _, _, _, HE.up (by omega), fits_nil HF.out.fits (by have := HF.out.r1; omega)⟩))
    · have nba := build0a
      have k9 : y2.cell? ⟨bm, 7, none⟩ = some (.slice a3 m.qs.length b3) := D4.out.b 7
      have kz : bm < y2.heap.size := D4.out.z
      go_wp2_with (at_builtin; refine A.wp_copyO y2 rfl (.tmp 16) (.tmp 18) rfl m.qs a3 b3 (by first | rfl | simp [Act.eval]) (by first | rfl | simp [Act.eval]) D4.out.l.a3.sl.src HF.out.fits.k3 ?_; intro s9 w9 r9 b9; obtain ⟨a9, p9, hs9⟩ := A.Ow.shape r9; subst hs9; have DB : Hid (Dn W0 kr bm B m (.slice a1 m.ws.length b1) (.slice a2 m.rs.length bb2) (.slice a3 m.qs.length b3) (.slice a4 m.gs.length b4) (q + 1 + 1) w9) := D4.out.below b9; have k8 : w9.cell? ⟨bm, 8, none⟩ = some (.slice a4 m.gs.length b4) := DB.out.b 8; have f8 : w9.frozen? ⟨bm, 8, none⟩ = false := DB.out.c 8; have HG : Hid (Dn W0 kr bm B { m with gs := m.qs } (.slice a1 m.ws.length b1) (.slice a2 m.rs.length bb2) (.slice a3 m.qs.length b3) (.slice a9 m.qs.length p9) (q + 1 + 1) (w9.setCell ⟨bm, 8, none⟩ (.slice a9 m.qs.length p9))) := Dn.gives D4.out b9 r9 (by have := D4.out.z; omega); clear r9 b9)
      go_meet
      exact ⟨_, _, _, _, _, HG.out.up (by omega), fits_all HF.out.fits⟩
  case rest =>
    obtain ⟨m', t1, t2, t3, t4, hK, hfit⟩ := hcut
    have HK : Hid (Dn W0 kr bm B m' t1 t2 t3 t4 (q + 4300) wc) := hK
    have HT : Hid (m'.fits) := hfit
    clear hK hfit
    generalize hrb : w.heap.size + 1 = rb at hz0 ⊢
    obtain ⟨e1, o1, hs1⟩ := HK.out.l.a1.shape
    obtain ⟨e2, o2, hs2⟩ := HK.out.l.a2.shape
    obtain ⟨e3, o3, hs3⟩ := HK.out.l.a3.shape
    obtain ⟨e4, o4, hs4⟩ := HK.out.l.a4.shape
    subst hs1 hs2 hs3 hs4
    have ho := ones m' HK.out.l.a1.sl HK.out.l.a2.sl HK.out.l.a3.sl HK.out.l.a4.sl
    have kb := HK.out.b
    have kw := HK.out.zw
    have kz := HK.out.z
    have kk := HK.out.zk
    have hdd : wc.there rb 0 9 := by have h := HK.out.d; rw [hz0] at h; exact h
    have HDD : Hid (wc.there rb 0 9) := hdd
    have HE : Hid (Ex rb wc (wc.setCells rb 0 [.string m'.nm, .bool m'.up, .int .i64 m'.ck, .bool m'.kn, .int .i64 m'.se, .slice e1 m'.ws.length o1, .slice e2 m'.rs.length o2, .slice e3 m'.qs.length o3, .slice e4 m'.gs.length o4])) := (Ex.refl _ _).cells _ _
    have Hg : Hid (wc.grownBy (wc.setCells rb 0 [.string m'.nm, .bool m'.up, .int .i64 m'.ck, .bool m'.kn, .int .i64 m'.se, .slice e1 m'.ws.length o1, .slice e2 m'.rs.length o2, .slice e3 m'.qs.length o3, .slice e4 m'.gs.length o4]) (some rb)) := A.ex_grown HE.out
    have Ho : Hid (∀ u ∈ ([.string m'.nm, .bool m'.up, .int .i64 m'.ck, .bool m'.kn, .int .i64 m'.se, .slice e1 m'.ws.length o1, .slice e2 m'.rs.length o2, .slice e3 m'.qs.length o3, .slice e4 m'.gs.length o4] : List Value), u.oneCell' = true) := ho
    have hcw : m'.ws.length ≤ o1 := own_cap HK.out.l.a1
    have HZ : Hid (W0.heap.size = rb ∧ w.heap.size + 1 = rb ∧ B = w.heap.size + 2 ∧ B ≤ bm) := ⟨hz0, hrb, hBz, hB2⟩
    clear ho hdd hrb hz0 hBz hB2 hk0 hk z0 z1
    go_wp2_with (refine wpList_store_mid (by rfl) 27 _ _ (by rfl) rb 0 #[.string m'.nm, .bool m'.up, .int .i64 m'.ck, .bool m'.kn, .int .i64 m'.se, .slice e1 m'.ws.length o1, .slice e2 m'.rs.length o2, .slice e3 m'.qs.length o3, .slice e4 m'.gs.length o4] (by rfl) (by rfl) (by exact HDD.out) hinfo (by exact all_oneCell_toArray Ho.out) ?_)
    have hrg := World.rangeAt_setCells_same wc rb 0 [.string m'.nm, .bool m'.up, .int .i64 m'.ck, .bool m'.kn, .int .i64 m'.se, .slice e1 m'.ws.length o1, .slice e2 m'.rs.length o2, .slice e3 m'.qs.length o3, .slice e4 m'.gs.length o4] HDD.out
    obtain ⟨hz0, hrb, hBz, hB2⟩ := HZ.out
    have HL : Hid (SlM (wc.setCells rb 0 [.string m'.nm, .bool m'.up, .int .i64 m'.ck, .bool m'.kn, .int .i64 m'.se, .slice e1 m'.ws.length o1, .slice e2 m'.rs.length o2, .slice e3 m'.qs.length o3, .slice e4 m'.gs.length o4]) m' (.slice e1 m'.ws.length o1) (.slice e2 m'.rs.length o2) (.slice e3 m'.qs.length o3) (.slice e4 m'.gs.length o4) w.heap.size) := (HK.out.l.ex HE.out (by omega)).sl.low (by omega)
    have HR9 : Hid (Rq (wc.setCells rb 0 [.string m'.nm, .bool m'.up, .int .i64 m'.ck, .bool m'.kn, .int .i64 m'.se, .slice e1 m'.ws.length o1, .slice e2 m'.rs.length o2, .slice e3 m'.qs.length o3, .slice e4 m'.gs.length o4]) kr (q + 4500)) := (HK.out.r.grown Hg.out (fun a ha => by cases ha; omega)).up (by omega)
    have HE9 : Hid (Ex kr w (wc.setCells rb 0 [.string m'.nm, .bool m'.up, .int .i64 m'.ck, .bool m'.kn, .int .i64 m'.se, .slice e1 m'.ws.length o1, .slice e2 m'.rs.length o2, .slice e3 m'.qs.length o3, .slice e4 m'.gs.length o4])) := (E0.out.trans HK.out.e).grown Hg.out (fun a ha => by cases ha; omega)
    clear HE Hg Ho HDD kb
    generalize (wc.setCells rb 0 [.string m'.nm, .bool m'.up, .int .i64 m'.ck, .bool m'.kn, .int .i64 m'.se, .slice e1 m'.ws.length o1, .slice e2 m'.rs.length o2, .slice e3 m'.qs.length o3, .slice e4 m'.gs.length o4]) = X at hrg HL HR9 HE9 ⊢
    have d0 := hrg 0 _ rfl
    have d1 := hrg 1 _ rfl
    have d2 := hrg 2 _ rfl
    have d3 := hrg 3 _ rfl
    have d4 := hrg 4 _ rfl
    have d5 := hrg 5 _ rfl
    have d6 := hrg 6 _ rfl
    have d7 := hrg 7 _ rfl
    have d8 := hrg 8 _ rfl
    simp only [Nat.zero_add] at d0 d1 d2 d3 d4 d5 d6 d7 d8
    refine bodyPost_ret (v := .agg #[.string m'.nm, .bool m'.up, .int .i64 m'.ck, .bool m'.kn, .int .i64 m'.se, .slice e1 m'.ws.length o1, .slice e2 m'.rs.length o2, .slice e3 m'.qs.length o3, .slice e4 m'.gs.length o4]) ?_ rfl ?_
    · simp [results, Try.results122, go_sem, d0, d1, d2, d3, d4, d5, d6, d7, d8]
    · exact ⟨m', _, _, _, _, rfl, HL.out, ⟨_, _, rfl, hcw⟩, HT.out, HR9.out, HE9.out⟩
end Go.Proofs.Ytkebokkckmgloaa
