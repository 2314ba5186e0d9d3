/- FnExactMateLive: the walk. -/
import Derived.Test.YtmfcnckhgeggkabConv
import Derived.Test.YtmfcnckhgeggkabEq
import Derived.Deep.RegionHeld3
import Derived.Laws.Pointers
import Derived.StillTactics
import Derived.Deep.DeepCutAuto
namespace Go.Proofs.Ytmfcnckhgeggkab
open Go.RowKit
set_option linter.unusedVariables false

theorem toWant_b (c h : ByteArray) (v p s d g : Int) (w : World) :
    Calls Try.prog 22 #[.agg #[.string c, .int .i64 v, .string h, .int .i64 p, .int .i64 s, .int .i64 d, .int .i64 g]] w fun e w' => e = .returned (.agg #[.string c, .int .i64 v, .string h, .int .i64 p, .int .i64 s, .int .i64 d, .int .i64 g]) ∧ Below w.heap.size w w' := by
  refine (toWant_any c h v p s d g w).mono ?_
  rintro e w' ⟨rfl, rfl⟩
  exact ⟨rfl, by repeat (first | exact Below.refl _ _ | refine bl_alloc ?_ _)⟩

/-- A block that has just been laid, behind a call. -/
theorem newK {X w' : World} {z : Array Value} {t : TypeId} (hb : Below (X.alloc (.cells z t)).heap.size (X.alloc (.cells z t)) w') :
    (∀ o, w'.cell? ⟨X.heap.size, o, none⟩ = z[o]?) ∧ (∀ o, w'.frozen? ⟨X.heap.size, o, none⟩ = false) ∧ X.heap.size < w'.heap.size := by
  refine ⟨fun o => ?_, fun o => ?_, ?_⟩
  · rw [hb.cell (p := ⟨X.heap.size, o, none⟩) (by simp)]; simp [go_sem]
  · rw [hb.frozen (p := ⟨X.heap.size, o, none⟩) (by simp)]; simp [go_sem]
  · have := hb.size; simp at this; omega
theorem newKd {X w' : World} {z : Array Value} {t : TypeId} (hb : Below (X.alloc (.cells z t)).drew.heap.size (X.alloc (.cells z t)).drew w') :
    (∀ o, w'.cell? ⟨X.heap.size, o, none⟩ = z[o]?) ∧ (∀ o, w'.frozen? ⟨X.heap.size, o, none⟩ = false) ∧ X.heap.size < w'.heap.size := by
  refine ⟨fun o => ?_, fun o => ?_, ?_⟩
  · rw [hb.cell (p := ⟨X.heap.size, o, none⟩) (by simp)]; simp [go_sem]
  · rw [hb.frozen (p := ⟨X.heap.size, o, none⟩) (by simp)]; simp [go_sem]
  · have := hb.size; simp at this; omega
/-- .. and behind one more. -/
theorem oldK {X w' : World} {z : Array Value} {k : Nat} (hb : Below X.heap.size X w') (h1 : ∀ o, X.cell? ⟨k, o, none⟩ = z[o]?) (h2 : ∀ o, X.frozen? ⟨k, o, none⟩ = false) (h3 : k < X.heap.size) :
    (∀ o, w'.cell? ⟨k, o, none⟩ = z[o]?) ∧ (∀ o, w'.frozen? ⟨k, o, none⟩ = false) ∧ k < w'.heap.size :=
  ⟨fun o => (hb.cell (p := ⟨k, o, none⟩) h3).trans (h1 o), fun o => (hb.frozen (p := ⟨k, o, none⟩) h3).trans (h2 o), Nat.lt_of_lt_of_le h3 hb.size⟩
theorem bl_set_iff {A w' : World} {k o : Nat} {u : Value} (hk : A.heap.size ≤ k) : Below A.heap.size A (w'.setCell ⟨k, o, none⟩ u) ↔ Below A.heap.size A w' :=
  ⟨fun h => ⟨h.os, h.tape, h.output, by have := h.size; simpa [World.setCell] using this, fun j hj => (Below.heap_setCell w' ⟨k, o, none⟩ u j (by show j ≠ k; omega)).symm.trans (h.block j hj)⟩, fun h => bl_set h hk u⟩
theorem range11 {wx : World} {k : Nat} {v0 v1 v2 v3 v4 v5 v6 v7 v8 v9 v10 : Value} (h0 : wx.cell? ⟨k, 0, none⟩ = some v0) (h1 : wx.cell? ⟨k, 1, none⟩ = some v1) (h2 : wx.cell? ⟨k, 2, none⟩ = some v2) (h3 : wx.cell? ⟨k, 3, none⟩ = some v3) (h4 : wx.cell? ⟨k, 4, none⟩ = some v4) (h5 : wx.cell? ⟨k, 5, none⟩ = some v5) (h6 : wx.cell? ⟨k, 6, none⟩ = some v6) (h7 : wx.cell? ⟨k, 7, none⟩ = some v7) (h8 : wx.cell? ⟨k, 8, none⟩ = some v8) (h9 : wx.cell? ⟨k, 9, none⟩ = some v9) (h10 : wx.cell? ⟨k, 10, none⟩ = some v10) : wx.rangeAt k 0 [v0, v1, v2, v3, v4, v5, v6, v7, v8, v9, v10] := by
  intro j v hj
  match j, hj with
  | 0, hj => simp at hj; subst hj; exact h0
  | 1, hj => simp at hj; subst hj; exact h1
  | 2, hj => simp at hj; subst hj; exact h2
  | 3, hj => simp at hj; subst hj; exact h3
  | 4, hj => simp at hj; subst hj; exact h4
  | 5, hj => simp at hj; subst hj; exact h5
  | 6, hj => simp at hj; subst hj; exact h6
  | 7, hj => simp at hj; subst hj; exact h7
  | 8, hj => simp at hj; subst hj; exact h8
  | 9, hj => simp at hj; subst hj; exact h9
  | 10, hj => simp at hj; subst hj; exact h10
theorem cells11 {wx : World} {k : Nat} {v0 v1 v2 v3 v4 v5 v6 v7 v8 v9 v10 : Value} (h : wx.rangeAt k 0 [v0, v1, v2, v3, v4, v5, v6, v7, v8, v9, v10]) : wx.cell? ⟨k, 0, none⟩ = some v0 ∧ wx.cell? ⟨k, 1, none⟩ = some v1 ∧ wx.cell? ⟨k, 2, none⟩ = some v2 ∧ wx.cell? ⟨k, 3, none⟩ = some v3 ∧ wx.cell? ⟨k, 4, none⟩ = some v4 ∧ wx.cell? ⟨k, 5, none⟩ = some v5 ∧ wx.cell? ⟨k, 6, none⟩ = some v6 ∧ wx.cell? ⟨k, 7, none⟩ = some v7 ∧ wx.cell? ⟨k, 8, none⟩ = some v8 ∧ wx.cell? ⟨k, 9, none⟩ = some v9 ∧ wx.cell? ⟨k, 10, none⟩ = some v10 :=
  ⟨by simpa using h 0 _ rfl, by simpa using h 1 _ rfl, by simpa using h 2 _ rfl, by simpa using h 3 _ rfl, by simpa using h 4 _ rfl, by simpa using h 5 _ rfl, by simpa using h 6 _ rfl, by simpa using h 7 _ rfl, by simpa using h 8 _ rfl, by simpa using h 9 _ rfl, by simpa using h 10 _ rfl⟩
theorem range_keep {x y : World} {k : Nat} {vs : List Value} (h : x.rangeAt k 0 vs) (hk : k < x.heap.size) (hb : Below x.heap.size x y) : y.rangeAt k 0 vs :=
  fun j v hj => (hb.cell (p := ⟨k, 0 + j, none⟩) hk).trans (h j v hj)
theorem bq {A X w' : World} (h : Below A.heap.size A X) (hb : Below X.heap.size X w') : A.heap.size ≤ w'.heap.size := Nat.le_trans h.size hb.size
/-- The newest block may hold anything. -/
theorem bl_swap {A y : World} {o o' : Obj} (h : Below A.heap.size A (y.alloc o)) (hz : A.heap.size ≤ y.heap.size) : Below A.heap.size A (y.alloc o') :=
  ⟨h.os, h.tape, h.output, by have := h.size; simpa using this, fun k hk => (Below.heap_alloc y o' k (by omega)).trans ((Below.heap_alloc y o k (by omega)).symm.trans (h.block k hk))⟩

/-- Two boxes stay as they are behind whatever lies below. -/
theorem keepS {n : Nat} {B w' : World} {r1 r2 : Array Value} (hz : n + 1 < B.heap.size) (h1 : ∀ k, B.cell? ⟨n, k, none⟩ = r1[k]?) (h2 : ∀ k, B.cell? ⟨n + 1, k, none⟩ = r2[k]?) (hb : Below B.heap.size B w') :
    Below B.heap.size B w' ∧ (∀ k, w'.cell? ⟨n, k, none⟩ = r1[k]?) ∧ (∀ k, w'.cell? ⟨n + 1, k, none⟩ = r2[k]?) :=
  ⟨hb, fun k => (hb.cell (p := ⟨n, k, none⟩) (Nat.lt_of_succ_lt hz)).trans (h1 k), fun k => (hb.cell (p := ⟨n + 1, k, none⟩) hz).trans (h2 k)⟩

theorem boxes2 (w : World) (r1 r2 : Array Value) (t1 t2 : TypeId) : (∀ k, ((w.alloc (.cells r1 t1)).alloc (.cells r2 t2)).cell? ⟨w.heap.size, k, none⟩ = r1[k]?) ∧ (∀ k, ((w.alloc (.cells r1 t1)).alloc (.cells r2 t2)).cell? ⟨w.heap.size + 1, k, none⟩ = r2[k]?) := by
  constructor <;> intro k <;> simp [go_sem, World.cell?_alloc_past]

set_option maxHeartbeats 2000000 in
theorem lawLive (c h c2 h2 : ByteArray) (v p s d g a b i u v2 p2 s2 d2 g2 clock : Int) (wanted : Bool) (w : World)
    (x0 x2 : ByteArray) (x1 x3 x4 x5 x6 x7 x8 x9 x10 : Int) (q : Bool)
    (hS : ∀ w, Calls Try.prog 20 #[.agg #[.string c, .int .i64 v, .string h, .int .i64 p, .int .i64 s, .int .i64 d, .int .i64 g, .int .i64 a, .int .i64 b, .int .i64 i, .int .i64 u], .agg #[.string c2, .int .i64 v2, .string h2, .int .i64 p2, .int .i64 s2, .int .i64 d2, .int .i64 g2], .bool wanted, .int .i64 clock] w fun e w' => e = .returned (.tuple #[.agg #[.string x0, .int .i64 x1, .string x2, .int .i64 x3, .int .i64 x4, .int .i64 x5, .int .i64 x6, .int .i64 x7, .int .i64 x8, .int .i64 x9, .int .i64 x10], .bool q]) ∧ Below w.heap.size w w')
    (hI : ∀ w, Calls Try.prog 23 #[.agg #[.string c, .int .i64 v, .string h, .int .i64 p, .int .i64 s, .int .i64 d, .int .i64 g, .int .i64 a, .int .i64 b, .int .i64 i, .int .i64 u], .agg #[.string c2, .int .i64 v2, .string h2, .int .i64 p2, .int .i64 s2, .int .i64 d2, .int .i64 g2], .bool wanted, .int .i64 clock] w fun e w' => e = .returned (.tuple #[.agg #[.string x0, .int .i64 x1, .string x2, .int .i64 x3, .int .i64 x4, .int .i64 x5, .int .i64 x6, .int .i64 x7, .int .i64 x8, .int .i64 x9, .int .i64 x10], .bool q]) ∧ Below w.heap.size w w')
    (k1 : (c.size : Int) + h.size ≤ 1048576) (k2 : (c2.size : Int) + h2.size ≤ 1048576 - c.size - h.size) :
    Calls Try.prog 5 #[.agg #[.string c, .int .i64 v, .string h, .int .i64 p, .int .i64 s, .int .i64 d, .int .i64 g, .int .i64 a, .int .i64 b, .int .i64 i, .int .i64 u], .agg #[.string c2, .int .i64 v2, .string h2, .int .i64 p2, .int .i64 s2, .int .i64 d2, .int .i64 g2], .bool wanted, .int .i64 clock] w fun e w' => e = .returned (.bool true) ∧ Below w.heap.size w w' := by
  have HS : Hid _ := hS
  have HI : Hid _ := hI
  clear hS hI
  go_enter Try.func5, Try.ntmps5
  go_wp2_with fail
  refine (szRun_yes c h v p s d g a b i u 1048576 (by omega) (by omega) k1 _).mono ?_
  rintro e w1 ⟨rfl, hb1⟩
  obtain ⟨q1, q2⟩ := boxes2 w #[.string c, .int .i64 v, .string h, .int .i64 p, .int .i64 s, .int .i64 d, .int .i64 g, .int .i64 a, .int .i64 b, .int .i64 i, .int .i64 u] #[.string c2, .int .i64 v2, .string h2, .int .i64 p2, .int .i64 s2, .int .i64 d2, .int .i64 g2] 34 32
  obtain ⟨hB1, c1, d1⟩ := keepS (by simp) q1 q2 hb1
  clear hb1 q1 q2
  go_wp2_with fail
  refine (szWant_yes c2 h2 v2 p2 s2 d2 g2 _ (by omega) (by omega) k2 _).mono ?_
  rintro e w2 ⟨rfl, hb2⟩
  have z1 : w.heap.size + 1 < w1.heap.size := by have := hB1.size; simp at this; omega
  obtain ⟨hB2, cB, dB⟩ := keepS z1 c1 d1 hb2
  have zB : w.heap.size + 1 < w2.heap.size := by have := hb2.size; omega
  have bB : Below w.heap.size w w2 := bl_trans (bl_trans (bl_alloc (bl_alloc (Below.refl _ _) _) _) hB1) hB2
  clear hB1 hb2 c1 d1 z1 hB2 w1
  go_upto_region 8 with fail
  go_cut [10, 11] (fun s10 s11 wx => ∃ k, s10 = .pointer (some ⟨k, 0, none⟩) ∧ s11 = .bool q ∧ Below w2.heap.size w2 wx ∧ w.heap.size + 1 + 1 ≤ k ∧ k < wx.heap.size ∧ wx.rangeAt k 0 [.string x0, .int .i64 x1, .string x2, .int .i64 x3, .int .i64 x4, .int .i64 x5, .int .i64 x6, .int .i64 x7, .int .i64 x8, .int .i64 x9, .int .i64 x10])
  case first =>
    go_region_held3 (fun w' => Below w2.heap.size w2 w' ∧ (∀ k, w'.cell? ⟨w.heap.size, k, none⟩ = (#[.string c, .int .i64 v, .string h, .int .i64 p, .int .i64 s, .int .i64 d, .int .i64 g, .int .i64 a, .int .i64 b, .int .i64 i, .int .i64 u] : Array Value)[k]?) ∧ (∀ k, w'.cell? ⟨w.heap.size + 1, k, none⟩ = (#[.string c2, .int .i64 v2, .string h2, .int .i64 p2, .int .i64 s2, .int .i64 d2, .int .i64 g2] : Array Value)[k]?))
      ((refine keepS zB cB dB ?_; first | (simp only [bl_set_iff, Nat.le_refl, *]; done) | exact bl_drew (Below.refl _ _) | exact bl_drew (bl_alloc (Below.refl _ _) _) | exact And.left (by assumption) | exact bl_trans (And.left (by assumption)) hb | (refine bl_alloc ?_ _; exact And.left (by assumption)) | exact bl_swap (And.left (by assumption)) (by assumption) | (refine bl_alloc ?_ _; exact bl_drew (And.left (by assumption)))))
      (first | (go_at_call 21; refine (toRun_any c h v p s d g a b i u _).mono ?_; rintro e w' ⟨rfl, hb⟩; (first | (have hkk := newKd hb; obtain ⟨hk, hf, hl⟩ := hkk) | (have hkk := newK hb; obtain ⟨hk, hf, hl⟩ := hkk) | (have hkk := oldK hb hk hf hl; obtain ⟨hk, hf, hl⟩ := hkk) | skip); have hq := bq (A := w2) (And.left (by assumption)) hb) | (go_at_call 22; refine (toWant_b c2 h2 v2 p2 s2 d2 g2 _).mono ?_; rintro e w' ⟨rfl, hb⟩; (first | (have hkk := newKd hb; obtain ⟨hk, hf, hl⟩ := hkk) | (have hkk := newK hb; obtain ⟨hk, hf, hl⟩ := hkk) | (have hkk := oldK hb hk hf hl; obtain ⟨hk, hf, hl⟩ := hkk) | skip); have hq := bq (A := w2) (And.left (by assumption)) hb) | (go_at_call 20; refine (HS.out _).mono ?_; rintro e w' ⟨rfl, hb⟩; (first | (have hkk := newKd hb; obtain ⟨hk, hf, hl⟩ := hkk) | (have hkk := newK hb; obtain ⟨hk, hf, hl⟩ := hkk) | (have hkk := oldK hb hk hf hl; obtain ⟨hk, hf, hl⟩ := hkk) | skip); have hq := bq (A := w2) (And.left (by assumption)) hb))
    all_goals (go_wp2_with fail; go_meet; refine ⟨_, rfl, rfl, And.left (by assumption), by omega, ?_, range11 ?_ ?_ ?_ ?_ ?_ ?_ ?_ ?_ ?_ ?_ ?_⟩)
    all_goals (go_simp; done)
  case rest =>
  obtain ⟨ka, rfl, rfl, bx, ha1, ha2, hra⟩ := hcut
  obtain ⟨-, cC, dC⟩ := keepS zB cB dB bx
  have zC : w.heap.size + 1 < wc.heap.size := Nat.lt_of_lt_of_le zB bx.size
  replace bB := bl_trans bB bx
  have Hra : Hid _ := hra
  clear bx cB dB zB hra
  clear w2
  go_upto_region 9 with fail
  go_cut [12, 13] (fun s12 s13 wx => ∃ k, s12 = .pointer (some ⟨k, 0, none⟩) ∧ s13 = .bool q ∧ Below wc.heap.size wc wx ∧ w.heap.size + 1 + 1 ≤ k ∧ k < wx.heap.size ∧ wx.rangeAt k 0 [.string x0, .int .i64 x1, .string x2, .int .i64 x3, .int .i64 x4, .int .i64 x5, .int .i64 x6, .int .i64 x7, .int .i64 x8, .int .i64 x9, .int .i64 x10])
  case first =>
    go_region_held3 (fun w' => Below wc.heap.size wc w' ∧ (∀ k, w'.cell? ⟨w.heap.size, k, none⟩ = (#[.string c, .int .i64 v, .string h, .int .i64 p, .int .i64 s, .int .i64 d, .int .i64 g, .int .i64 a, .int .i64 b, .int .i64 i, .int .i64 u] : Array Value)[k]?) ∧ (∀ k, w'.cell? ⟨w.heap.size + 1, k, none⟩ = (#[.string c2, .int .i64 v2, .string h2, .int .i64 p2, .int .i64 s2, .int .i64 d2, .int .i64 g2] : Array Value)[k]?))
      ((refine keepS zC cC dC ?_; first | (simp only [bl_set_iff, Nat.le_refl, *]; done) | exact bl_drew (Below.refl _ _) | exact bl_drew (bl_alloc (Below.refl _ _) _) | exact And.left (by assumption) | exact bl_trans (And.left (by assumption)) hb | (refine bl_alloc ?_ _; exact And.left (by assumption)) | exact bl_swap (And.left (by assumption)) (by assumption) | (refine bl_alloc ?_ _; exact bl_drew (And.left (by assumption)))))
      (first | (go_at_call 21; refine (toRun_any c h v p s d g a b i u _).mono ?_; rintro e w' ⟨rfl, hb⟩; (first | (have hkk := newKd hb; obtain ⟨hk, hf, hl⟩ := hkk) | (have hkk := newK hb; obtain ⟨hk, hf, hl⟩ := hkk) | (have hkk := oldK hb hk hf hl; obtain ⟨hk, hf, hl⟩ := hkk) | skip); have hq := bq (A := wc) (And.left (by assumption)) hb) | (go_at_call 22; refine (toWant_b c2 h2 v2 p2 s2 d2 g2 _).mono ?_; rintro e w' ⟨rfl, hb⟩; (first | (have hkk := newKd hb; obtain ⟨hk, hf, hl⟩ := hkk) | (have hkk := newK hb; obtain ⟨hk, hf, hl⟩ := hkk) | (have hkk := oldK hb hk hf hl; obtain ⟨hk, hf, hl⟩ := hkk) | skip); have hq := bq (A := wc) (And.left (by assumption)) hb) | (go_at_call 23; refine (HI.out _).mono ?_; rintro e w' ⟨rfl, hb⟩; (first | (have hkk := newKd hb; obtain ⟨hk, hf, hl⟩ := hkk) | (have hkk := newK hb; obtain ⟨hk, hf, hl⟩ := hkk) | (have hkk := oldK hb hk hf hl; obtain ⟨hk, hf, hl⟩ := hkk) | skip); have hq := bq (A := wc) (And.left (by assumption)) hb))
    all_goals (go_wp2_with fail; go_meet; refine ⟨_, rfl, rfl, And.left (by assumption), by omega, ?_, range11 ?_ ?_ ?_ ?_ ?_ ?_ ?_ ?_ ?_ ?_ ?_⟩)
    all_goals (go_simp; done)
  case rest =>
  obtain ⟨kb, rfl, rfl, bx, hb1, hb2, hrb⟩ := hcut
  have hra := range_keep Hra.out ha2 bx
  replace bB := bl_trans bB bx
  obtain ⟨a0, a1, a2, a3, a4, a5, a6, a7, a8, a9, a10⟩ := cells11 hra
  obtain ⟨b0, b1, b2, b3, b4, b5, b6, b7, b8, b9, b10⟩ := cells11 hrb
  clear hra hrb Hra bx cC dC zC HS HI
  go_wp2_with fail
  refine (eqRun_same x0 x2 x1 x3 x4 x5 x6 x7 x8 x9 x10 _).mono ?_
  rintro e w5 ⟨rfl, hb5⟩
  go_wp2
  go_ret
  exact ⟨rfl, bl_trans bB hb5⟩
end Go.Proofs.Ytmfcnckhgeggkab
