import Derived.Test.YtkebokkckmgloaaRows
import Derived.WalkKit
import Derived.WalkSpells
import Derived.WalkLawsBesides
import Derived.Below
import Derived.Outline
import Derived.Deep.RegionHeld3
import Derived.Laws.Pointers
import Derived.StillTactics
import Derived.Deep.DeepCutAuto
import Derived.Laws.EntriesVeiled
import Derived.Laws.StructEq
import Derived.Deep.MidRow
/- The contracts of what the exact laws are made of: sizes, copies of a want and of a run. -/
namespace Go.Proofs.Ytkebokkckmgloaa
open Go.RowKit

/-- Old cells and old marks, behind a call that only lays new blocks. -/
theorem bcell {W w1 : World} (hb : Below W.heap.size W w1) : (∀ b o, b < W.heap.size → w1.cell? ⟨b, o, none⟩ = W.cell? ⟨b, o, none⟩) ∧ (∀ b o, b < W.heap.size → w1.frozen? ⟨b, o, none⟩ = W.frozen? ⟨b, o, none⟩) :=
  ⟨fun b o h => hb.cell (p := ⟨b, o, none⟩) h, fun b o h => hb.frozen (p := ⟨b, o, none⟩) h⟩

theorem bl_alloc {w w' : World} (h : Below w.heap.size w w') (o : Obj) : Below w.heap.size w (w'.alloc o) := h.alloc h.size o
theorem bl_drew {w w' : World} (h : Below w.heap.size w w') : Below w.heap.size w w'.drew := h.drew
theorem bl_trans {w w1 w2 : World} (h : Below w.heap.size w w1) (k : Below w1.heap.size w1 w2) : Below w.heap.size w w2 := h.trans (k.mono h.size)
theorem bl_set {w w' : World} (h : Below w.heap.size w w') {p : Addr} (hp : w.heap.size ≤ p.block) (u : Value) : Below w.heap.size w (w'.setCell p u) := h.setCell hp u

/-- The box of a call's own parameter, behind later blocks. -/
theorem box_keep {w w1 : World} {o : Obj} (h : Below (w.alloc o).heap.size (w.alloc o) w1) : ∀ k, w1.cell? ⟨w.heap.size, k, none⟩ = (w.alloc o).cell? ⟨w.heap.size, k, none⟩ :=
  fun k => h.cell (p := ⟨w.heap.size, k, none⟩) (by simp)

theorem szWant_yes (c h : ByteArray) (v p s d g left : Int) (h0 : 0 ≤ left) (h1 : left ≤ 1048576) (k : (c.size : Int) + h.size ≤ left) (w : World) :
    Calls Try.prog 44 #[.agg #[.string c, .int .i64 v, .string h, .int .i64 p, .int .i64 s, .int .i64 d, .int .i64 g], .int .i64 left] w fun e w' => e = .returned (.int .i64 (left - c.size - h.size)) ∧ Below w.heap.size w w' := by
  go_enter Try.func44, Try.ntmps44
  go_wp2
  go_ret
  exact ⟨rfl, (Below.refl _ _).alloc (Nat.le_refl _) _⟩

theorem szWant_no (c h : ByteArray) (v p s d g left : Int) (h0 : 0 ≤ left) (h1 : left ≤ 1048576) (hc : c.size ≤ maxLen) (hh : h.size ≤ maxLen) (k : ¬ (c.size : Int) + h.size ≤ left) (w : World) :
    Calls Try.prog 44 #[.agg #[.string c, .int .i64 v, .string h, .int .i64 p, .int .i64 s, .int .i64 d, .int .i64 g], .int .i64 left] w fun e w' => e = .returned (.int .i64 (-1)) ∧ Below w.heap.size w w' := by
  unfold maxLen at hc hh
  by_cases k1 : (c.size : Int) ≤ left
  · go_enter Try.func44, Try.ntmps44
    go_wp2
    go_ret
    exact ⟨rfl, (Below.refl _ _).alloc (Nat.le_refl _) _⟩
  · go_enter Try.func44, Try.ntmps44
    go_wp2
    go_ret
    exact ⟨rfl, (Below.refl _ _).alloc (Nat.le_refl _) _⟩

theorem toWant_any (c h : ByteArray) (v p s d g : Int) (w : World) :
    Calls Try.prog 45 #[.agg #[.string c, .int .i64 v, .string h, .int .i64 p, .int .i64 s, .int .i64 d, .int .i64 g]] w fun e w' =>
      e = .returned (.agg #[.string c, .int .i64 v, .string h, .int .i64 p, .int .i64 s, .int .i64 d, .int .i64 g]) ∧ w' = ((w.alloc (.cells #[.string c, .int .i64 v, .string h, .int .i64 p, .int .i64 s, .int .i64 d, .int .i64 g] 51)).alloc (.cells #[.string c, .int .i64 v, .string h, .int .i64 p, .int .i64 s, .int .i64 d, .int .i64 g] 36)).alloc (.cells #[.string c, .int .i64 v, .string h, .int .i64 p, .int .i64 s, .int .i64 d, .int .i64 g] 36) := by
  go_enter Try.func45, Try.ntmps45
  go_wp2
  exact bodyPost_ret (v := .agg #[.string c, .int .i64 v, .string h, .int .i64 p, .int .i64 s, .int .i64 d, .int .i64 g]) (by simp [results, Try.results45, go_sem]) rfl ⟨rfl, rfl⟩

theorem toRun_any (c h : ByteArray) (v p s d g a b i u : Int) (w : World) :
    Calls Try.prog 34 #[.agg #[.string c, .int .i64 v, .string h, .int .i64 p, .int .i64 s, .int .i64 d, .int .i64 g, .int .i64 a, .int .i64 b, .int .i64 i, .int .i64 u]] w fun e w' =>
      e = .returned (.agg #[.string c, .int .i64 v, .string h, .int .i64 p, .int .i64 s, .int .i64 d, .int .i64 g, .int .i64 a, .int .i64 b, .int .i64 i, .int .i64 u]) ∧ Below w.heap.size w w' := by
  go_enter Try.func34, Try.ntmps34
  go_wp2_with (go_at_call 45; refine (toWant_any c h v p s d g _).mono ?_; rintro e w' ⟨rfl, rfl⟩)
  exact bodyPost_ret (v := .agg #[.string c, .int .i64 v, .string h, .int .i64 p, .int .i64 s, .int .i64 d, .int .i64 g, .int .i64 a, .int .i64 b, .int .i64 i, .int .i64 u]) (by simp [results, Try.results34, go_sem]) rfl ⟨rfl, bl_alloc (bl_alloc (bl_alloc (bl_alloc (bl_alloc (bl_alloc (Below.refl _ _) _) _) _) _) _) _⟩

theorem szRun_yes (c h : ByteArray) (v p s d g a b i u left : Int) (h0 : 0 ≤ left) (h1 : left ≤ 1048576) (k : (c.size : Int) + h.size ≤ left) (w : World) :
    Calls Try.prog 33 #[.agg #[.string c, .int .i64 v, .string h, .int .i64 p, .int .i64 s, .int .i64 d, .int .i64 g, .int .i64 a, .int .i64 b, .int .i64 i, .int .i64 u], .int .i64 left] w fun e w' => e = .returned (.int .i64 (left - c.size - h.size)) ∧ Below w.heap.size w w' := by
  go_enter Try.func33, Try.ntmps33
  go_wp2_with (go_at_call 44; refine (szWant_yes c h v p s d g left h0 h1 k _).mono ?_; rintro e w' ⟨rfl, hb⟩)
  go_ret
  exact ⟨rfl, bl_trans (bl_alloc (Below.refl _ _) _) hb⟩

theorem szRun_no (c h : ByteArray) (v p s d g a b i u left : Int) (h0 : 0 ≤ left) (h1 : left ≤ 1048576) (hc : c.size ≤ maxLen) (hh : h.size ≤ maxLen) (k : ¬ (c.size : Int) + h.size ≤ left) (w : World) :
    Calls Try.prog 33 #[.agg #[.string c, .int .i64 v, .string h, .int .i64 p, .int .i64 s, .int .i64 d, .int .i64 g, .int .i64 a, .int .i64 b, .int .i64 i, .int .i64 u], .int .i64 left] w fun e w' => e = .returned (.int .i64 (-1)) ∧ Below w.heap.size w w' := by
  go_enter Try.func33, Try.ntmps33
  go_wp2_with (go_at_call 44; refine (szWant_no c h v p s d g left h0 h1 hc hh k _).mono ?_; rintro e w' ⟨rfl, hb⟩)
  go_ret
  exact ⟨rfl, bl_trans (bl_alloc (Below.refl _ _) _) hb⟩

end Go.Proofs.Ytkebokkckmgloaa
/- Equal wants and runs are told to be equal. -/
namespace Go.Proofs.Ytkebokkckmgloaa
open Go.RowKit

theorem eqWant_same (c h : ByteArray) (v p s d g : Int) (w : World) :
    Calls Try.prog 91 #[.agg #[.string c, .int .i64 v, .string h, .int .i64 p, .int .i64 s, .int .i64 d, .int .i64 g], .agg #[.string c, .int .i64 v, .string h, .int .i64 p, .int .i64 s, .int .i64 d, .int .i64 g]] w fun e w' => e = .returned (.bool true) ∧
      w' = (w.alloc (.cells #[.string c, .int .i64 v, .string h, .int .i64 p, .int .i64 s, .int .i64 d, .int .i64 g] 36)).alloc (.cells #[.string c, .int .i64 v, .string h, .int .i64 p, .int .i64 s, .int .i64 d, .int .i64 g] 36) := by
  go_enter Try.func91, Try.ntmps91
  go_wp2
  go_ret
  exact ⟨rfl, rfl⟩

end Go.Proofs.Ytkebokkckmgloaa
/- Equal wants and runs are told to be equal. -/
namespace Go.Proofs.Ytkebokkckmgloaa
open Go.RowKit

theorem eqRun_same (c h : ByteArray) (v p s d g a b i u : Int) (w : World) :
    Calls Try.prog 46 #[.agg #[.string c, .int .i64 v, .string h, .int .i64 p, .int .i64 s, .int .i64 d, .int .i64 g, .int .i64 a, .int .i64 b, .int .i64 i, .int .i64 u], .agg #[.string c, .int .i64 v, .string h, .int .i64 p, .int .i64 s, .int .i64 d, .int .i64 g, .int .i64 a, .int .i64 b, .int .i64 i, .int .i64 u]] w fun e w' => e = .returned (.bool true) ∧ Below w.heap.size w w' := by
  go_enter Try.func46, Try.ntmps46
  go_wp2_with (first | (go_at_call 91; refine (eqWant_same c h v p s d g _).mono ?_; rintro e w' ⟨rfl, rfl⟩))
  go_ret
  exact ⟨rfl, by repeat (first | exact Below.refl _ _ | refine bl_alloc ?_ _ | refine bl_drew ?_)⟩
end Go.Proofs.Ytkebokkckmgloaa
/- FnExactMateLive: the walk. -/
namespace Go.Proofs.Ytkebokkckmgloaa
open Go.RowKit
set_option linter.unusedVariables false

theorem toWant_b (c h : ByteArray) (v p s d g : Int) (w : World) :
    Calls Try.prog 45 #[.agg #[.string c, .int .i64 v, .string h, .int .i64 p, .int .i64 s, .int .i64 d, .int .i64 g]] w fun e w' => e = .returned (.agg #[.string c, .int .i64 v, .string h, .int .i64 p, .int .i64 s, .int .i64 d, .int .i64 g]) ∧ Below w.heap.size w w' := by
  refine (toWant_any c h v p s d g w).mono ?_
  rintro e w' ⟨rfl, rfl⟩
  exact ⟨rfl, by repeat (first | exact Below.refl _ _ | refine bl_alloc ?_ _)⟩

/-- A block that has just been laid, behind a call. -/
theorem newK {X w' : World} {z : Array Value} {t : TypeId} (hb : Below (X.alloc (.cells z t)).heap.size (X.alloc (.cells z t)) w') :
    (∀ o, w'.cell? ⟨X.heap.size, o, none⟩ = z[o]?) ∧ (∀ o, w'.frozen? ⟨X.heap.size, o, none⟩ = false) ∧ X.heap.size < w'.heap.size := by
  refine ⟨fun o => ?_, fun o => ?_, ?_⟩
  · rw [hb.cell (p := ⟨X.heap.size, o, none⟩) (by simp)]; simp [go_sem]
  · rw [hb.frozen (p := ⟨X.heap.size, o, none⟩) (by simp)]; simp [go_sem]
  · have := hb.size; simp at this; omega
theorem newKd {X w' : World} {z : Array Value} {t : TypeId} (hb : Below (X.alloc (.cells z t)).drew.heap.size (X.alloc (.cells z t)).drew w') :
    (∀ o, w'.cell? ⟨X.heap.size, o, none⟩ = z[o]?) ∧ (∀ o, w'.frozen? ⟨X.heap.size, o, none⟩ = false) ∧ X.heap.size < w'.heap.size := by
  refine ⟨fun o => ?_, fun o => ?_, ?_⟩
  · rw [hb.cell (p := ⟨X.heap.size, o, none⟩) (by simp)]; simp [go_sem]
  · rw [hb.frozen (p := ⟨X.heap.size, o, none⟩) (by simp)]; simp [go_sem]
  · have := hb.size; simp at this; omega
/-- .. and behind one more. -/
theorem oldK {X w' : World} {z : Array Value} {k : Nat} (hb : Below X.heap.size X w') (h1 : ∀ o, X.cell? ⟨k, o, none⟩ = z[o]?) (h2 : ∀ o, X.frozen? ⟨k, o, none⟩ = false) (h3 : k < X.heap.size) :
    (∀ o, w'.cell? ⟨k, o, none⟩ = z[o]?) ∧ (∀ o, w'.frozen? ⟨k, o, none⟩ = false) ∧ k < w'.heap.size :=
  ⟨fun o => (hb.cell (p := ⟨k, o, none⟩) h3).trans (h1 o), fun o => (hb.frozen (p := ⟨k, o, none⟩) h3).trans (h2 o), Nat.lt_of_lt_of_le h3 hb.size⟩
theorem bl_set_iff {A w' : World} {k o : Nat} {u : Value} (hk : A.heap.size ≤ k) : Below A.heap.size A (w'.setCell ⟨k, o, none⟩ u) ↔ Below A.heap.size A w' :=
  ⟨fun h => ⟨h.os, h.tape, h.output, by have := h.size; simpa [World.setCell] using this, fun j hj => (Below.heap_setCell w' ⟨k, o, none⟩ u j (by show j ≠ k; omega)).symm.trans (h.block j hj)⟩, fun h => bl_set h hk u⟩
theorem range11 {wx : World} {k : Nat} {v0 v1 v2 v3 v4 v5 v6 v7 v8 v9 v10 : Value} (h0 : wx.cell? ⟨k, 0, none⟩ = some v0) (h1 : wx.cell? ⟨k, 1, none⟩ = some v1) (h2 : wx.cell? ⟨k, 2, none⟩ = some v2) (h3 : wx.cell? ⟨k, 3, none⟩ = some v3) (h4 : wx.cell? ⟨k, 4, none⟩ = some v4) (h5 : wx.cell? ⟨k, 5, none⟩ = some v5) (h6 : wx.cell? ⟨k, 6, none⟩ = some v6) (h7 : wx.cell? ⟨k, 7, none⟩ = some v7) (h8 : wx.cell? ⟨k, 8, none⟩ = some v8) (h9 : wx.cell? ⟨k, 9, none⟩ = some v9) (h10 : wx.cell? ⟨k, 10, none⟩ = some v10) : wx.rangeAt k 0 [v0, v1, v2, v3, v4, v5, v6, v7, v8, v9, v10] := by
  intro j v hj
  match j, hj with
  | 0, hj => simp at hj; subst hj; exact h0
  | 1, hj => simp at hj; subst hj; exact h1
  | 2, hj => simp at hj; subst hj; exact h2
  | 3, hj => simp at hj; subst hj; exact h3
  | 4, hj => simp at hj; subst hj; exact h4
  | 5, hj => simp at hj; subst hj; exact h5
  | 6, hj => simp at hj; subst hj; exact h6
  | 7, hj => simp at hj; subst hj; exact h7
  | 8, hj => simp at hj; subst hj; exact h8
  | 9, hj => simp at hj; subst hj; exact h9
  | 10, hj => simp at hj; subst hj; exact h10
theorem cells11 {wx : World} {k : Nat} {v0 v1 v2 v3 v4 v5 v6 v7 v8 v9 v10 : Value} (h : wx.rangeAt k 0 [v0, v1, v2, v3, v4, v5, v6, v7, v8, v9, v10]) : wx.cell? ⟨k, 0, none⟩ = some v0 ∧ wx.cell? ⟨k, 1, none⟩ = some v1 ∧ wx.cell? ⟨k, 2, none⟩ = some v2 ∧ wx.cell? ⟨k, 3, none⟩ = some v3 ∧ wx.cell? ⟨k, 4, none⟩ = some v4 ∧ wx.cell? ⟨k, 5, none⟩ = some v5 ∧ wx.cell? ⟨k, 6, none⟩ = some v6 ∧ wx.cell? ⟨k, 7, none⟩ = some v7 ∧ wx.cell? ⟨k, 8, none⟩ = some v8 ∧ wx.cell? ⟨k, 9, none⟩ = some v9 ∧ wx.cell? ⟨k, 10, none⟩ = some v10 :=
  ⟨by simpa using h 0 _ rfl, by simpa using h 1 _ rfl, by simpa using h 2 _ rfl, by simpa using h 3 _ rfl, by simpa using h 4 _ rfl, by simpa using h 5 _ rfl, by simpa using h 6 _ rfl, by simpa using h 7 _ rfl, by simpa using h 8 _ rfl, by simpa using h 9 _ rfl, by simpa using h 10 _ rfl⟩
theorem range_keep {x y : World} {k : Nat} {vs : List Value} (h : x.rangeAt k 0 vs) (hk : k < x.heap.size) (hb : Below x.heap.size x y) : y.rangeAt k 0 vs :=
  fun j v hj => (hb.cell (p := ⟨k, 0 + j, none⟩) hk).trans (h j v hj)
theorem bq {A X w' : World} (h : Below A.heap.size A X) (hb : Below X.heap.size X w') : A.heap.size ≤ w'.heap.size := Nat.le_trans h.size hb.size
/-- The newest block may hold anything. -/
theorem bl_swap {A y : World} {o o' : Obj} (h : Below A.heap.size A (y.alloc o)) (hz : A.heap.size ≤ y.heap.size) : Below A.heap.size A (y.alloc o') :=
  ⟨h.os, h.tape, h.output, by have := h.size; simpa using this, fun k hk => (Below.heap_alloc y o' k (by omega)).trans ((Below.heap_alloc y o k (by omega)).symm.trans (h.block k hk))⟩

/-- Two boxes stay as they are behind whatever lies below. -/
theorem keepS {n : Nat} {B w' : World} {r1 r2 : Array Value} (hz : n + 1 < B.heap.size) (h1 : ∀ k, B.cell? ⟨n, k, none⟩ = r1[k]?) (h2 : ∀ k, B.cell? ⟨n + 1, k, none⟩ = r2[k]?) (hb : Below B.heap.size B w') :
    Below B.heap.size B w' ∧ (∀ k, w'.cell? ⟨n, k, none⟩ = r1[k]?) ∧ (∀ k, w'.cell? ⟨n + 1, k, none⟩ = r2[k]?) :=
  ⟨hb, fun k => (hb.cell (p := ⟨n, k, none⟩) (Nat.lt_of_succ_lt hz)).trans (h1 k), fun k => (hb.cell (p := ⟨n + 1, k, none⟩) hz).trans (h2 k)⟩

theorem boxes2 (w : World) (r1 r2 : Array Value) (t1 t2 : TypeId) : (∀ k, ((w.alloc (.cells r1 t1)).alloc (.cells r2 t2)).cell? ⟨w.heap.size, k, none⟩ = r1[k]?) ∧ (∀ k, ((w.alloc (.cells r1 t1)).alloc (.cells r2 t2)).cell? ⟨w.heap.size + 1, k, none⟩ = r2[k]?) := by
  constructor <;> intro k <;> simp [go_sem, World.cell?_alloc_past]

set_option maxHeartbeats 2000000 in
theorem lawLive (c h c2 h2 : ByteArray) (v p s d g a b i u v2 p2 s2 d2 g2 clock : Int) (wanted : Bool) (w : World)
    (x0 x2 : ByteArray) (x1 x3 x4 x5 x6 x7 x8 x9 x10 : Int) (q : Bool)
    (hS : ∀ w, Calls Try.prog 27 #[.agg #[.string c, .int .i64 v, .string h, .int .i64 p, .int .i64 s, .int .i64 d, .int .i64 g, .int .i64 a, .int .i64 b, .int .i64 i, .int .i64 u], .agg #[.string c2, .int .i64 v2, .string h2, .int .i64 p2, .int .i64 s2, .int .i64 d2, .int .i64 g2], .bool wanted, .int .i64 clock] w fun e w' => e = .returned (.tuple #[.agg #[.string x0, .int .i64 x1, .string x2, .int .i64 x3, .int .i64 x4, .int .i64 x5, .int .i64 x6, .int .i64 x7, .int .i64 x8, .int .i64 x9, .int .i64 x10], .bool q]) ∧ Below w.heap.size w w')
    (hI : ∀ w, Calls Try.prog 26 #[.agg #[.string c, .int .i64 v, .string h, .int .i64 p, .int .i64 s, .int .i64 d, .int .i64 g, .int .i64 a, .int .i64 b, .int .i64 i, .int .i64 u], .agg #[.string c2, .int .i64 v2, .string h2, .int .i64 p2, .int .i64 s2, .int .i64 d2, .int .i64 g2], .bool wanted, .int .i64 clock] w fun e w' => e = .returned (.tuple #[.agg #[.string x0, .int .i64 x1, .string x2, .int .i64 x3, .int .i64 x4, .int .i64 x5, .int .i64 x6, .int .i64 x7, .int .i64 x8, .int .i64 x9, .int .i64 x10], .bool q]) ∧ Below w.heap.size w w')
    (k1 : (c.size : Int) + h.size ≤ 1048576) (k2 : (c2.size : Int) + h2.size ≤ 1048576 - c.size - h.size) :
    Calls Try.prog 9 #[.agg #[.string c, .int .i64 v, .string h, .int .i64 p, .int .i64 s, .int .i64 d, .int .i64 g, .int .i64 a, .int .i64 b, .int .i64 i, .int .i64 u], .agg #[.string c2, .int .i64 v2, .string h2, .int .i64 p2, .int .i64 s2, .int .i64 d2, .int .i64 g2], .bool wanted, .int .i64 clock] w fun e w' => e = .returned (.bool true) ∧ Below w.heap.size w w' := by
  have HS : Hid _ := hS
  have HI : Hid _ := hI
  clear hS hI
  go_enter Try.func9, Try.ntmps9
  go_wp2_with fail
  refine (szRun_yes c h v p s d g a b i u 1048576 (by omega) (by omega) k1 _).mono ?_
  rintro e w1 ⟨rfl, hb1⟩
  obtain ⟨q1, q2⟩ := boxes2 w #[.string c, .int .i64 v, .string h, .int .i64 p, .int .i64 s, .int .i64 d, .int .i64 g, .int .i64 a, .int .i64 b, .int .i64 i, .int .i64 u] #[.string c2, .int .i64 v2, .string h2, .int .i64 p2, .int .i64 s2, .int .i64 d2, .int .i64 g2] 53 51
  obtain ⟨hB1, c1, d1⟩ := keepS (by simp) q1 q2 hb1
  clear hb1 q1 q2
  go_wp2_with fail
  refine (szWant_yes c2 h2 v2 p2 s2 d2 g2 _ (by omega) (by omega) k2 _).mono ?_
  rintro e w2 ⟨rfl, hb2⟩
  have z1 : w.heap.size + 1 < w1.heap.size := by have := hB1.size; simp at this; omega
  obtain ⟨hB2, cB, dB⟩ := keepS z1 c1 d1 hb2
  have zB : w.heap.size + 1 < w2.heap.size := by have := hb2.size; omega
  have bB : Below w.heap.size w w2 := bl_trans (bl_trans (bl_alloc (bl_alloc (Below.refl _ _) _) _) hB1) hB2
  clear hB1 hb2 c1 d1 z1 hB2 w1
  go_upto_region 8 with fail
  go_cut [10, 11] (fun s10 s11 wx => ∃ k, s10 = .pointer (some ⟨k, 0, none⟩) ∧ s11 = .bool q ∧ Below w2.heap.size w2 wx ∧ w.heap.size + 1 + 1 ≤ k ∧ k < wx.heap.size ∧ wx.rangeAt k 0 [.string x0, .int .i64 x1, .string x2, .int .i64 x3, .int .i64 x4, .int .i64 x5, .int .i64 x6, .int .i64 x7, .int .i64 x8, .int .i64 x9, .int .i64 x10])
  case first =>
    go_region_held3 (fun w' => Below w2.heap.size w2 w' ∧ (∀ k, w'.cell? ⟨w.heap.size, k, none⟩ = (#[.string c, .int .i64 v, .string h, .int .i64 p, .int .i64 s, .int .i64 d, .int .i64 g, .int .i64 a, .int .i64 b, .int .i64 i, .int .i64 u] : Array Value)[k]?) ∧ (∀ k, w'.cell? ⟨w.heap.size + 1, k, none⟩ = (#[.string c2, .int .i64 v2, .string h2, .int .i64 p2, .int .i64 s2, .int .i64 d2, .int .i64 g2] : Array Value)[k]?))
      ((refine keepS zB cB dB ?_; first | (simp only [bl_set_iff, Nat.le_refl, *]; done) | exact bl_drew (Below.refl _ _) | exact bl_drew (bl_alloc (Below.refl _ _) _) | exact And.left (by assumption) | exact bl_trans (And.left (by assumption)) hb | (refine bl_alloc ?_ _; exact And.left (by assumption)) | exact bl_swap (And.left (by assumption)) (by assumption) | (refine bl_alloc ?_ _; exact bl_drew (And.left (by assumption)))))
      (first | (go_at_call 34; refine (toRun_any c h v p s d g a b i u _).mono ?_; rintro e w' ⟨rfl, hb⟩; (first | (have hkk := newKd hb; obtain ⟨hk, hf, hl⟩ := hkk) | (have hkk := newK hb; obtain ⟨hk, hf, hl⟩ := hkk) | (have hkk := oldK hb hk hf hl; obtain ⟨hk, hf, hl⟩ := hkk) | skip); have hq := bq (A := w2) (And.left (by assumption)) hb) | (go_at_call 45; refine (toWant_b c2 h2 v2 p2 s2 d2 g2 _).mono ?_; rintro e w' ⟨rfl, hb⟩; (first | (have hkk := newKd hb; obtain ⟨hk, hf, hl⟩ := hkk) | (have hkk := newK hb; obtain ⟨hk, hf, hl⟩ := hkk) | (have hkk := oldK hb hk hf hl; obtain ⟨hk, hf, hl⟩ := hkk) | skip); have hq := bq (A := w2) (And.left (by assumption)) hb) | (go_at_call 27; refine (HS.out _).mono ?_; rintro e w' ⟨rfl, hb⟩; (first | (have hkk := newKd hb; obtain ⟨hk, hf, hl⟩ := hkk) | (have hkk := newK hb; obtain ⟨hk, hf, hl⟩ := hkk) | (have hkk := oldK hb hk hf hl; obtain ⟨hk, hf, hl⟩ := hkk) | skip); have hq := bq (A := w2) (And.left (by assumption)) hb))
    all_goals (go_wp2_with fail; go_meet; refine ⟨_, rfl, rfl, And.left (by assumption), by omega, ?_, range11 ?_ ?_ ?_ ?_ ?_ ?_ ?_ ?_ ?_ ?_ ?_⟩)
    all_goals (go_simp; done)
  case rest =>
  obtain ⟨ka, rfl, rfl, bx, ha1, ha2, hra⟩ := hcut
  obtain ⟨-, cC, dC⟩ := keepS zB cB dB bx
  have zC : w.heap.size + 1 < wc.heap.size := Nat.lt_of_lt_of_le zB bx.size
  replace bB := bl_trans bB bx
  have Hra : Hid _ := hra
  clear bx cB dB zB hra
  clear w2
  go_upto_region 9 with fail
  go_cut [12, 13] (fun s12 s13 wx => ∃ k, s12 = .pointer (some ⟨k, 0, none⟩) ∧ s13 = .bool q ∧ Below wc.heap.size wc wx ∧ w.heap.size + 1 + 1 ≤ k ∧ k < wx.heap.size ∧ wx.rangeAt k 0 [.string x0, .int .i64 x1, .string x2, .int .i64 x3, .int .i64 x4, .int .i64 x5, .int .i64 x6, .int .i64 x7, .int .i64 x8, .int .i64 x9, .int .i64 x10])
  case first =>
    go_region_held3 (fun w' => Below wc.heap.size wc w' ∧ (∀ k, w'.cell? ⟨w.heap.size, k, none⟩ = (#[.string c, .int .i64 v, .string h, .int .i64 p, .int .i64 s, .int .i64 d, .int .i64 g, .int .i64 a, .int .i64 b, .int .i64 i, .int .i64 u] : Array Value)[k]?) ∧ (∀ k, w'.cell? ⟨w.heap.size + 1, k, none⟩ = (#[.string c2, .int .i64 v2, .string h2, .int .i64 p2, .int .i64 s2, .int .i64 d2, .int .i64 g2] : Array Value)[k]?))
      ((refine keepS zC cC dC ?_; first | (simp only [bl_set_iff, Nat.le_refl, *]; done) | exact bl_drew (Below.refl _ _) | exact bl_drew (bl_alloc (Below.refl _ _) _) | exact And.left (by assumption) | exact bl_trans (And.left (by assumption)) hb | (refine bl_alloc ?_ _; exact And.left (by assumption)) | exact bl_swap (And.left (by assumption)) (by assumption) | (refine bl_alloc ?_ _; exact bl_drew (And.left (by assumption)))))
      (first | (go_at_call 34; refine (toRun_any c h v p s d g a b i u _).mono ?_; rintro e w' ⟨rfl, hb⟩; (first | (have hkk := newKd hb; obtain ⟨hk, hf, hl⟩ := hkk) | (have hkk := newK hb; obtain ⟨hk, hf, hl⟩ := hkk) | (have hkk := oldK hb hk hf hl; obtain ⟨hk, hf, hl⟩ := hkk) | skip); have hq := bq (A := wc) (And.left (by assumption)) hb) | (go_at_call 45; refine (toWant_b c2 h2 v2 p2 s2 d2 g2 _).mono ?_; rintro e w' ⟨rfl, hb⟩; (first | (have hkk := newKd hb; obtain ⟨hk, hf, hl⟩ := hkk) | (have hkk := newK hb; obtain ⟨hk, hf, hl⟩ := hkk) | (have hkk := oldK hb hk hf hl; obtain ⟨hk, hf, hl⟩ := hkk) | skip); have hq := bq (A := wc) (And.left (by assumption)) hb) | (go_at_call 26; refine (HI.out _).mono ?_; rintro e w' ⟨rfl, hb⟩; (first | (have hkk := newKd hb; obtain ⟨hk, hf, hl⟩ := hkk) | (have hkk := newK hb; obtain ⟨hk, hf, hl⟩ := hkk) | (have hkk := oldK hb hk hf hl; obtain ⟨hk, hf, hl⟩ := hkk) | skip); have hq := bq (A := wc) (And.left (by assumption)) hb))
    all_goals (go_wp2_with fail; go_meet; refine ⟨_, rfl, rfl, And.left (by assumption), by omega, ?_, range11 ?_ ?_ ?_ ?_ ?_ ?_ ?_ ?_ ?_ ?_ ?_⟩)
    all_goals (go_simp; done)
  case rest =>
  obtain ⟨kb, rfl, rfl, bx, hb1, hb2, hrb⟩ := hcut
  have hra := range_keep Hra.out ha2 bx
  replace bB := bl_trans bB bx
  obtain ⟨a0, a1, a2, a3, a4, a5, a6, a7, a8, a9, a10⟩ := cells11 hra
  obtain ⟨b0, b1, b2, b3, b4, b5, b6, b7, b8, b9, b10⟩ := cells11 hrb
  clear hra hrb Hra bx cC dC zC HS HI
  go_wp2_with fail
  refine (eqRun_same x0 x2 x1 x3 x4 x5 x6 x7 x8 x9 x10 _).mono ?_
  rintro e w5 ⟨rfl, hb5⟩
  go_wp2
  go_ret
  exact ⟨rfl, bl_trans bB hb5⟩
end Go.Proofs.Ytkebokkckmgloaa
/- Is a state alive? -/
namespace Go.Proofs.Ytkebokkckmgloaa
open Go.RowKit

def aliveB (a : Int) : Bool := a == 3 || a == 4 || a == 6

theorem alive_any (a : Int) (w : World) :
    Calls Try.prog 76 #[.int .i64 a] w fun e w' => e = .returned (.bool (aliveB a)) ∧ w' = w := by
  by_cases h3 : a = 3
  · subst h3
    go_enter Try.func76, Try.ntmps76
    go_wp2
    go_ret
    exact ⟨rfl, rfl⟩
  · by_cases h4 : a = 4
    · subst h4
      go_enter Try.func76, Try.ntmps76
      go_wp2
      go_ret
      exact ⟨rfl, rfl⟩
    · have e3 : (a == 3) = false := by simpa using h3
      have e4 : (a == 4) = false := by simpa using h4
      have ea : aliveB a = (a == 6) := by simp [aliveB, e3, e4]
      rw [ea]
      clear ea h3 h4
      go_enter Try.func76, Try.ntmps76
      go_wp2
      go_ret
      exact ⟨rfl, rfl⟩

end Go.Proofs.Ytkebokkckmgloaa
/- A run as the program has it, and what it may. -/
namespace Go.Proofs.Ytkebokkckmgloaa
open Go.RowKit
set_option linter.unusedVariables false

theorem runOf_any (c h : ByteArray) (v p s d g a b i u : Int) (w : World) :
    Calls Try.prog 80 #[.agg #[.string c, .int .i64 v, .string h, .int .i64 p, .int .i64 s, .int .i64 d, .int .i64 g, .int .i64 a, .int .i64 b, .int .i64 i, .int .i64 u]] w fun e w' => e = .returned (.agg #[.string c, .int .i64 v, .string h, .int .i64 p, .int .i64 s, .int .i64 d, .int .i64 g, .int .i64 a, .int .i64 b, .int .i64 i, .int .i64 u]) ∧ w' = (w.alloc (.cells #[.string c, .int .i64 v, .string h, .int .i64 p, .int .i64 s, .int .i64 d, .int .i64 g, .int .i64 a, .int .i64 b, .int .i64 i, .int .i64 u] 38)).alloc (.cells #[.string c, .int .i64 v, .string h, .int .i64 p, .int .i64 s, .int .i64 d, .int .i64 g, .int .i64 a, .int .i64 b, .int .i64 i, .int .i64 u] 108) := by
  go_enter Try.func80, Try.ntmps80
  go_wp2
  exact bodyPost_ret (v := .agg #[.string c, .int .i64 v, .string h, .int .i64 p, .int .i64 s, .int .i64 d, .int .i64 g, .int .i64 a, .int .i64 b, .int .i64 i, .int .i64 u]) (by simp [results, Try.results80, go_sem]) rfl ⟨rfl, rfl⟩

/-- Has a run its hold for long enough, or none? -/
def leasedB (h : ByteArray) (u clock : Int) : Bool := h.toList.isEmpty || decide (wrap64 (clock + 4) ≤ u)

theorem mayLive_any (c h : ByteArray) (v p s d g a b i u clock : Int) (w : World) :
    Calls Try.prog 148 #[.agg #[.string c, .int .i64 v, .string h, .int .i64 p, .int .i64 s, .int .i64 d, .int .i64 g, .int .i64 a, .int .i64 b, .int .i64 i, .int .i64 u], .int .i64 clock] w fun e w' => e = .returned (.bool (leasedB h u clock)) ∧ w' = w.alloc (.cells #[.string c, .int .i64 v, .string h, .int .i64 p, .int .i64 s, .int .i64 d, .int .i64 g, .int .i64 a, .int .i64 b, .int .i64 i, .int .i64 u] 108) := by
  unfold leasedB
  cases hh : h.toList.isEmpty
  · go_enter Try.func148, Try.ntmps148
    go_wp2
    go_ret
    exact ⟨by simp, rfl⟩
  · go_enter Try.func148, Try.ntmps148
    go_wp2
    go_ret
    exact ⟨by simp, rfl⟩

theorem leased_any (c h : ByteArray) (v p s d g a b i u clock : Int) (w : World) :
    Calls Try.prog 98 #[.agg #[.string c, .int .i64 v, .string h, .int .i64 p, .int .i64 s, .int .i64 d, .int .i64 g, .int .i64 a, .int .i64 b, .int .i64 i, .int .i64 u], .int .i64 clock] w fun e w' => e = .returned (.bool (leasedB h u clock)) ∧ w' = w.alloc (.cells #[.string c, .int .i64 v, .string h, .int .i64 p, .int .i64 s, .int .i64 d, .int .i64 g, .int .i64 a, .int .i64 b, .int .i64 i, .int .i64 u] 38) := by
  unfold leasedB
  cases hh : h.toList.isEmpty
  · go_enter Try.func98, Try.ntmps98
    go_wp2
    go_ret
    exact ⟨by simp, rfl⟩
  · go_enter Try.func98, Try.ntmps98
    go_wp2
    go_ret
    exact ⟨by simp, rfl⟩

theorem specAlive_x (c h : ByteArray) (v p s d g a b i u : Int) (w : World) :
    Calls Try.prog 22 #[.agg #[.string c, .int .i64 v, .string h, .int .i64 p, .int .i64 s, .int .i64 d, .int .i64 g, .int .i64 a, .int .i64 b, .int .i64 i, .int .i64 u]] w fun e w' => e = .returned (.bool (aliveB a)) ∧ w' = w.alloc (.cells #[.string c, .int .i64 v, .string h, .int .i64 p, .int .i64 s, .int .i64 d, .int .i64 g, .int .i64 a, .int .i64 b, .int .i64 i, .int .i64 u] 38) := by
  by_cases h3 : a = 3
  · subst h3
    go_enter Try.func22, Try.ntmps22
    go_wp2
    go_ret
    exact ⟨rfl, rfl⟩
  · by_cases h4 : a = 4
    · subst h4
      go_enter Try.func22, Try.ntmps22
      go_wp2
      go_ret
      exact ⟨rfl, rfl⟩
    · have e3 : (a == 3) = false := by simpa using h3
      have e4 : (a == 4) = false := by simpa using h4
      have ea : aliveB a = (a == 6) := by simp [aliveB, e3, e4]
      rw [ea]
      clear ea h3 h4
      go_enter Try.func22, Try.ntmps22
      go_wp2
      go_ret
      exact ⟨rfl, rfl⟩

end Go.Proofs.Ytkebokkckmgloaa
/- What a run answers that is told, or waits. -/
namespace Go.Proofs.Ytkebokkckmgloaa
open Go.RowKit
set_option linter.unusedVariables false

theorem told_any (c h : ByteArray) (v p s d g a b i u : Int) (w : World) :
    Calls Try.prog 82 #[.agg #[.string c, .int .i64 v, .string h, .int .i64 p, .int .i64 s, .int .i64 d, .int .i64 g, .int .i64 a, .int .i64 b, .int .i64 i, .int .i64 u]] w fun e w' => e = .returned (.agg #[.string c, .int .i64 v, .string h, .int .i64 p, .int .i64 s, .int .i64 d, .int .i64 g, .int .i64 a, .int .i64 b, .int .i64 i, .int .i64 u]) ∧ w' = (w.alloc (.cells #[.string c, .int .i64 v, .string h, .int .i64 p, .int .i64 s, .int .i64 d, .int .i64 g, .int .i64 a, .int .i64 b, .int .i64 i, .int .i64 u] 108)).alloc (.cells #[.string c, .int .i64 v, .string h, .int .i64 p, .int .i64 s, .int .i64 d, .int .i64 g, .int .i64 a, .int .i64 b, .int .i64 i, .int .i64 u] 38) := by
  go_enter Try.func82, Try.ntmps82
  go_wp2
  exact bodyPost_ret (v := .agg #[.string c, .int .i64 v, .string h, .int .i64 p, .int .i64 s, .int .i64 d, .int .i64 g, .int .i64 a, .int .i64 b, .int .i64 i, .int .i64 u]) (by simp [results, Try.results82, go_sem]) rfl ⟨rfl, rfl⟩

theorem waiting_any (c h : ByteArray) (v p s d g a b i u : Int) (w : World) :
    Calls Try.prog 149 #[.agg #[.string c, .int .i64 v, .string h, .int .i64 p, .int .i64 s, .int .i64 d, .int .i64 g, .int .i64 a, .int .i64 b, .int .i64 i, .int .i64 u]] w fun e w' => e = .returned (.agg #[.string c, .int .i64 v, .string h, .int .i64 p, .int .i64 s, .int .i64 d, .int .i64 g, .int .i64 2, .int .i64 0, .int .i64 i, .int .i64 u]) ∧ w' = (w.alloc (.cells #[.string c, .int .i64 v, .string h, .int .i64 p, .int .i64 s, .int .i64 d, .int .i64 g, .int .i64 2, .int .i64 0, .int .i64 i, .int .i64 u] 108)).alloc (.cells #[.string c, .int .i64 v, .string h, .int .i64 p, .int .i64 s, .int .i64 d, .int .i64 g, .int .i64 2, .int .i64 0, .int .i64 i, .int .i64 u] 108) := by
  go_enter Try.func149, Try.ntmps149
  go_wp2
  exact bodyPost_ret (v := .agg #[.string c, .int .i64 v, .string h, .int .i64 p, .int .i64 s, .int .i64 d, .int .i64 g, .int .i64 2, .int .i64 0, .int .i64 i, .int .i64 u]) (by simp [results, Try.results149, go_sem]) rfl ⟨rfl, rfl⟩
end Go.Proofs.Ytkebokkckmgloaa
/- Lists of wants in memory. -/
namespace Go.Proofs.Ytkebokkckmgloaa.W
open Go.RowKit
set_option linter.unusedVariables false

theorem toWant_b (c h : ByteArray) (v p s d g : Int) (w : World) :
    Calls Try.prog 45 #[.agg #[.string c, .int .i64 v, .string h, .int .i64 p, .int .i64 s, .int .i64 d, .int .i64 g]] w fun e w' => e = .returned (.agg #[.string c, .int .i64 v, .string h, .int .i64 p, .int .i64 s, .int .i64 d, .int .i64 g]) ∧ Below w.heap.size w w' := by
  refine (toWant_any c h v p s d g w).mono ?_
  rintro e w' ⟨rfl, rfl⟩
  exact ⟨rfl, by repeat (first | exact Below.refl _ _ | refine bl_alloc ?_ _)⟩

structure WantD where
  c : ByteArray
  h : ByteArray
  v : Int
  p : Int
  s : Int
  d : Int
  g : Int
def WantD.cells (r : WantD) : List Value := [.string r.c, .int .i64 r.v, .string r.h, .int .i64 r.p, .int .i64 r.s, .int .i64 r.d, .int .i64 r.g]
/-- What a run's parts may be. -/
def WantD.fits (r : WantD) : Prop := r.c.size ≤ maxLen ∧ r.h.size ≤ maxLen
/-- The wants rs lie in block b from off on. -/
def RowsAt (w : World) (b off : Nat) (rs : List WantD) : Prop := ∀ k r, rs[k]? = some r → w.rangeAt b (off + k * 7) r.cells

theorem RowsAt.keep {w w' : World} {b off : Nat} {rs : List WantD} (h : RowsAt w b off rs) (hb : b < w.heap.size) (hB : Below w.heap.size w w') : RowsAt w' b off rs :=
  fun k r hk j v hj => (hB.cell (p := ⟨b, off + k * 7 + j, none⟩) hb).trans (h k r hk j v hj)
theorem RowsAt.at {w : World} {b off : Nat} {rs : List WantD} (h : RowsAt w b off rs) {k : Nat} {r : WantD} (hk : rs[k]? = some r) :
    w.cell? ⟨b, off + k * 7, none⟩ = some (.string r.c) ∧ w.cell? ⟨b, off + k * 7 + 1, none⟩ = some (.int .i64 r.v) ∧ w.cell? ⟨b, off + k * 7 + 2, none⟩ = some (.string r.h) ∧ w.cell? ⟨b, off + k * 7 + 3, none⟩ = some (.int .i64 r.p) ∧ w.cell? ⟨b, off + k * 7 + 4, none⟩ = some (.int .i64 r.s) ∧ w.cell? ⟨b, off + k * 7 + 5, none⟩ = some (.int .i64 r.d) ∧ w.cell? ⟨b, off + k * 7 + 6, none⟩ = some (.int .i64 r.g) :=
  ⟨h k r hk 0 _ rfl, h k r hk 1 _ rfl, h k r hk 2 _ rfl, h k r hk 3 _ rfl, h k r hk 4 _ rfl, h k r hk 5 _ rfl, h k r hk 6 _ rfl⟩

set_option maxHeartbeats 1000000 in
theorem szWantS (b off cap : Nat) (rs : List WantD) (left : Int) (w : World) (hR : RowsAt w b off rs) (hb : b < w.heap.size) (hf : ∀ r ∈ rs, r.fits) (h0 : 0 ≤ left) (h1 : left ≤ 1048576) (hl : rs.length ≤ maxLen) :
    Calls Try.prog 28 #[.slice (some ⟨b, off, none⟩) rs.length cap, .int .i64 left] w fun e w' => (e = .returned (.int .i64 (-1)) ∨ ∃ m : Int, e = .returned (.int .i64 m) ∧ 0 ≤ m ∧ (rs.length : Int) ≤ left) ∧ Below w.heap.size w w' := by
  unfold maxLen at hl
  by_cases hn : (rs.length : Int) ≤ left
  · go_enter Try.func28, Try.ntmps28
    go_wp2
    go_loopw [1, 5] (fun l i wx => ∃ (k : Nat) (lv : Int), k ≤ rs.length ∧ i = .int .i64 k ∧ l = .int .i64 lv ∧ 0 ≤ lv ∧ lv ≤ 1048576 ∧ Below w.heap.size w wx) (fun _ i _ => rs.length - (intOf i).toNat)
    case atStart => exact ⟨0, _, Nat.zero_le _, rfl, rfl, by omega, by omega, Below.refl _ _⟩
    case round =>
      obtain ⟨k, lv, hk, rfl, rfl, l0, l1, hB⟩ := hrel
      by_cases hlt : k < rs.length
      · obtain ⟨r, hr⟩ : ∃ r, rs[k]? = some r := ⟨rs[k], List.getElem?_eq_getElem hlt⟩
        obtain ⟨c0, c1, c2, c3, c4, c5, c6⟩ := (hR.keep hb hB).at hr
        have hfr : r.fits := hf r (List.mem_of_getElem? hr)
        clear hr
        by_cases hsz : (r.c.size : Int) + r.h.size ≤ lv
        · go_wp2_with fail
          refine (szWant_yes r.c r.h r.v r.p r.s r.d r.g lv l0 l1 hsz _).mono ?_
          rintro e w1 ⟨rfl, hb1⟩
          go_wp2
          exact ⟨⟨k + 1, _, by omega, by go_num, rfl, by omega, by omega, bl_trans hB hb1⟩, by simp [intOf]; omega⟩
        · go_wp2_with fail
          refine (szWant_no r.c r.h r.v r.p r.s r.d r.g lv l0 l1 hfr.1 hfr.2 (by omega) _).mono ?_
          rintro e w1 ⟨rfl, hb1⟩
          go_wp2
          go_ret
          exact ⟨Or.inl rfl, bl_trans hB hb1⟩
      · go_wp2
        go_ret
        exact ⟨Or.inr ⟨_, rfl, l0, hn⟩, hB⟩
  · go_enter Try.func28, Try.ntmps28
    go_wp2
    go_ret
    exact ⟨Or.inl rfl, Below.refl _ _⟩
end Go.Proofs.Ytkebokkckmgloaa.W
/- Are two wants the same? -/
namespace Go.Proofs.Ytkebokkckmgloaa
open Go.RowKit
set_option linter.unusedVariables false

theorem bytes_ext {a b : ByteArray} (h : a.toList = b.toList) : a = b := by
  rw [ByteArray.toList_eq, ByteArray.toList_eq] at h
  obtain ⟨⟨a⟩⟩ := a
  obtain ⟨⟨b⟩⟩ := b
  simpa using h
/-- Are two wants the same? -/
def sameW (c h c2 h2 : ByteArray) (v p s d g v2 p2 s2 d2 g2 : Int) : Bool := c2.toList == c.toList && (v2 == v && (h2.toList == h.toList && (p2 == p && (s2 == s && (d2 == d && g2 == g)))))
theorem eql_want (c h c2 h2 : ByteArray) (v p s d g v2 p2 s2 d2 g2 : Int) (w : World) : Sem.run Try.prog (binOp .eql 36 (.agg #[.string c2, .int .i64 v2, .string h2, .int .i64 p2, .int .i64 s2, .int .i64 d2, .int .i64 g2]) (.agg #[.string c, .int .i64 v, .string h, .int .i64 p, .int .i64 s, .int .i64 d, .int .i64 g])) w = .ok (.bool (sameW c h c2 h2 v p s d g v2 p2 s2 d2 g2)) w := by
  unfold sameW
  rw [run_eql_struct, run_equalIn_agg _ _ _ _ _ (by kernel_rfl) (by kernel_rfl)]
  simp only [Program.fieldsOf, Try.underlying36, Op.eqFields]
  simp [go_sem, Try.underlying9, Try.underlying3]
  (repeat' split) <;> simp_all
theorem neq_want (c h c2 h2 : ByteArray) (v p s d g v2 p2 s2 d2 g2 : Int) (w : World) : Sem.run Try.prog (binOp .neq 36 (.agg #[.string c2, .int .i64 v2, .string h2, .int .i64 p2, .int .i64 s2, .int .i64 d2, .int .i64 g2]) (.agg #[.string c, .int .i64 v, .string h, .int .i64 p, .int .i64 s, .int .i64 d, .int .i64 g])) w = .ok (.bool (!sameW c h c2 h2 v p s d g v2 p2 s2 d2 g2)) w := by
  have hq := eql_want c h c2 h2 v p s d g v2 p2 s2 d2 g2 w
  rw [run_eql_struct] at hq
  rw [run_neq_struct]
  cases hr : (Op.equalIn 10000 36 (.agg #[.string c2, .int .i64 v2, .string h2, .int .i64 p2, .int .i64 s2, .int .i64 d2, .int .i64 g2]) (.agg #[.string c, .int .i64 v, .string h, .int .i64 p, .int .i64 s, .int .i64 d, .int .i64 g])).run Try.prog w with
  | ok b w1 => rw [hr] at hq; simp at hq ⊢; obtain ⟨rfl, rfl⟩ := hq; simp
  | halt x w1 => rw [hr] at hq; simp [Result.andThen] at hq
theorem same_iff (q r : W.WantD) : sameW r.c r.h q.c q.h r.v r.p r.s r.d r.g q.v q.p q.s q.d q.g = true ↔ q = r := by
  obtain ⟨qc, qh, qv, qp, qs, qd, qg⟩ := q
  obtain ⟨rc, rh, rv, rp, rs, rd, rg⟩ := r
  simp only [sameW, Bool.and_eq_true, beq_iff_eq, W.WantD.mk.injEq]
  constructor
  · rintro ⟨h1, h2, h3, h4, h5, h6, h7⟩
    exact ⟨bytes_ext h1, bytes_ext h3, h2, h4, h5, h6, h7⟩
  · rintro ⟨h1, h2, h3, h4, h5, h6, h7⟩
    exact ⟨by rw [h1], h3, by rw [h2], h4, h5, h6, h7⟩
end Go.Proofs.Ytkebokkckmgloaa
/- A tick of a run: what both sides are made of. -/
namespace Go.Proofs.Ytkebokkckmgloaa
open Go.RowKit
set_option linter.unusedVariables false

theorem neq_func (fn : Fn) (x y : Array Value) (w : World) : Sem.run Try.prog (binOp BinOp.neq 113 (Value.func fn x y) Value.nilFunc) w = .ok (.bool true) w := by kernel_rfl
theorem neq_nil (w : World) : Sem.run Try.prog (binOp BinOp.neq 113 Value.nilFunc Value.nilFunc) w = .ok (.bool false) w := by kernel_rfl
theorem build_steps (w : World) : Sem.run Try.prog (Instr.build 197 #[(0, .func (.func 183) #[] #[]), (1, .func (.func 184) #[] #[]), (2, .func (.func 185) #[] #[]), (3, .func (.func 186) #[] #[]), (4, .func (.func 187) #[] #[]), (5, .func (.func 184) #[] #[]), (6, .func (.func 188) #[] #[])]) w = .ok (.agg #[.func (.func 183) #[] #[], .func (.func 184) #[] #[], .func (.func 185) #[] #[], .func (.func 186) #[] #[], .func (.func 187) #[] #[], .func (.func 184) #[] #[], .func (.func 188) #[] #[]]) w := by kernel_rfl

theorem steps_any (w : World) :
    Calls Try.prog 176 #[] w fun e w' => e = .returned (.agg #[.func (.func 183) #[] #[], .func (.func 184) #[] #[], .func (.func 185) #[] #[], .func (.func 186) #[] #[], .func (.func 187) #[] #[], .func (.func 184) #[] #[], .func (.func 188) #[] #[]]) ∧ w' = w.alloc (.cells #[.func (.func 183) #[] #[], .func (.func 184) #[] #[], .func (.func 185) #[] #[], .func (.func 186) #[] #[], .func (.func 187) #[] #[], .func (.func 184) #[] #[], .func (.func 188) #[] #[]] 197) := by
  have hb := build_steps
  go_enter Try.func176, Try.ntmps176
  go_wp2
  exact bodyPost_ret (v := .agg #[.func (.func 183) #[] #[], .func (.func 184) #[] #[], .func (.func 185) #[] #[], .func (.func 186) #[] #[], .func (.func 187) #[] #[], .func (.func 184) #[] #[], .func (.func 188) #[] #[]]) (by simp [results, Try.results176, go_sem]) rfl ⟨rfl, rfl⟩

theorem begin_yes (c h : ByteArray) (v p s d g a b i u clock : Int) (X : World) (bk : Nat) (hbk : bk = X.heap.size) (hl : leasedB h u clock = true) :
    Calls Try.prog 185 #[.pointer (some ⟨bk, 0, none⟩)] (((X.alloc (.cells #[.string c, .int .i64 v, .string h, .int .i64 p, .int .i64 s, .int .i64 d, .int .i64 g, .int .i64 a, .int .i64 b, .int .i64 i, .int .i64 u, .int .i64 clock, .bool false] 111)).alloc (.cells #[.func (.func 183) #[] #[], .func (.func 184) #[] #[], .func (.func 185) #[] #[], .func (.func 186) #[] #[], .func (.func 187) #[] #[], .func (.func 184) #[] #[], .func (.func 188) #[] #[]] 197)).alloc (.cells #[.func (.func 183) #[] #[], .func (.func 184) #[] #[], .func (.func 185) #[] #[], .func (.func 186) #[] #[], .func (.func 187) #[] #[], .func (.func 184) #[] #[], .func (.func 188) #[] #[]] 197)) fun e w' => e = .returned .nilFunc ∧
      w' = ((((X.alloc (.cells #[.string c, .int .i64 v, .string h, .int .i64 p, .int .i64 s, .int .i64 d, .int .i64 g, .int .i64 3, .int .i64 s, .int .i64 i, .int .i64 u, .int .i64 clock, .bool false] 111)).alloc (.cells #[.func (.func 183) #[] #[], .func (.func 184) #[] #[], .func (.func 185) #[] #[], .func (.func 186) #[] #[], .func (.func 187) #[] #[], .func (.func 184) #[] #[], .func (.func 188) #[] #[]] 197)).alloc (.cells #[.func (.func 183) #[] #[], .func (.func 184) #[] #[], .func (.func 185) #[] #[], .func (.func 186) #[] #[], .func (.func 187) #[] #[], .func (.func 184) #[] #[], .func (.func 188) #[] #[]] 197)).alloc (.cells #[.string c, .int .i64 v, .string h, .int .i64 p, .int .i64 s, .int .i64 d, .int .i64 g, .int .i64 a, .int .i64 b, .int .i64 i, .int .i64 u] 108)).drew := by
  subst hbk
  go_enter Try.func185, Try.ntmps185
  go_wp2
  go_region_held3 (fun w' => ∀ k, w'.cell? ⟨X.heap.size, k, none⟩ = (X.alloc (.cells #[.string c, .int .i64 v, .string h, .int .i64 p, .int .i64 s, .int .i64 d, .int .i64 g, .int .i64 a, .int .i64 b, .int .i64 i, .int .i64 u, .int .i64 clock, .bool false] 111)).cell? ⟨X.heap.size, k, none⟩) (simp [go_sem, World.cell?_alloc_past])
    (first | (go_at_call 148; refine (mayLive_any c h v p s d g a b i u clock _).mono ?_; rintro e w' ⟨rfl, rfl⟩))
  go_wp2
  go_ret
  exact ⟨rfl, rfl⟩

theorem begin_no (c h : ByteArray) (v p s d g a b i u clock : Int) (X : World) (bk : Nat) (hbk : bk = X.heap.size) (hl : leasedB h u clock = false) :
    Calls Try.prog 185 #[.pointer (some ⟨bk, 0, none⟩)] (((X.alloc (.cells #[.string c, .int .i64 v, .string h, .int .i64 p, .int .i64 s, .int .i64 d, .int .i64 g, .int .i64 a, .int .i64 b, .int .i64 i, .int .i64 u, .int .i64 clock, .bool false] 111)).alloc (.cells #[.func (.func 183) #[] #[], .func (.func 184) #[] #[], .func (.func 185) #[] #[], .func (.func 186) #[] #[], .func (.func 187) #[] #[], .func (.func 184) #[] #[], .func (.func 188) #[] #[]] 197)).alloc (.cells #[.func (.func 183) #[] #[], .func (.func 184) #[] #[], .func (.func 185) #[] #[], .func (.func 186) #[] #[], .func (.func 187) #[] #[], .func (.func 184) #[] #[], .func (.func 188) #[] #[]] 197)) fun e w' => e = .returned .nilFunc ∧
      w' = ((((((X.alloc (.cells #[.string c, .int .i64 v, .string h, .int .i64 p, .int .i64 s, .int .i64 d, .int .i64 g, .int .i64 2, .int .i64 0, .int .i64 i, .int .i64 u, .int .i64 clock, .bool false] 111)).alloc (.cells #[.func (.func 183) #[] #[], .func (.func 184) #[] #[], .func (.func 185) #[] #[], .func (.func 186) #[] #[], .func (.func 187) #[] #[], .func (.func 184) #[] #[], .func (.func 188) #[] #[]] 197)).alloc (.cells #[.func (.func 183) #[] #[], .func (.func 184) #[] #[], .func (.func 185) #[] #[], .func (.func 186) #[] #[], .func (.func 187) #[] #[], .func (.func 184) #[] #[], .func (.func 188) #[] #[]] 197)).alloc (.cells #[.string c, .int .i64 v, .string h, .int .i64 p, .int .i64 s, .int .i64 d, .int .i64 g, .int .i64 a, .int .i64 b, .int .i64 i, .int .i64 u] 108)).alloc (.cells #[.string c, .int .i64 v, .string h, .int .i64 p, .int .i64 s, .int .i64 d, .int .i64 g, .int .i64 2, .int .i64 0, .int .i64 i, .int .i64 u] 108)).alloc (.cells #[.string c, .int .i64 v, .string h, .int .i64 p, .int .i64 s, .int .i64 d, .int .i64 g, .int .i64 2, .int .i64 0, .int .i64 i, .int .i64 u] 108)).drew := by
  subst hbk
  go_enter Try.func185, Try.ntmps185
  go_wp2
  go_region_held3 (fun w' => ∀ k, w'.cell? ⟨X.heap.size, k, none⟩ = (X.alloc (.cells #[.string c, .int .i64 v, .string h, .int .i64 p, .int .i64 s, .int .i64 d, .int .i64 g, .int .i64 a, .int .i64 b, .int .i64 i, .int .i64 u, .int .i64 clock, .bool false] 111)).cell? ⟨X.heap.size, k, none⟩) (simp [go_sem, World.cell?_alloc_past])
    (first | (go_at_call 148; refine (mayLive_any c h v p s d g a b i u clock _).mono ?_; rintro e w' ⟨rfl, rfl⟩))
  go_wp2_with (first | (go_at_call 149; refine (waiting_any c h v p s d g a b i u _).mono ?_; rintro e w' ⟨rfl, rfl⟩))
  go_ret
  exact ⟨rfl, rfl⟩

/-- How long a copy waits that has died so often. -/
def boff (n : Int) : Int := if n ≤ 0 then 1 else if n = 1 then 2 else if n = 2 then 4 else if n = 3 then 8 else 16

theorem backoff_0 (n : Int) (w : World) (cond : n ≤ 0) : Calls Try.prog 192 #[.int .i64 n] w fun e w' => e = .returned (.int .i64 1) ∧ w' = w := by
  go_enter Try.func192, Try.ntmps192
  go_wp2
  refine wp_loop_rounds 1 ?_
  rw [rounds_succ]
  go_wp2
  all_goals go_ret
  all_goals exact ⟨rfl, rfl⟩

theorem backoff_1 (w : World) : Calls Try.prog 192 #[.int .i64 1] w fun e w' => e = .returned (.int .i64 2) ∧ w' = w := by
  go_enter Try.func192, Try.ntmps192
  go_wp2
  refine wp_loop_rounds 2 ?_
  rw [rounds_succ]
  go_wp2
  rw [rounds_succ]
  go_wp2
  all_goals go_ret
  all_goals exact ⟨rfl, rfl⟩

theorem backoff_2 (w : World) : Calls Try.prog 192 #[.int .i64 2] w fun e w' => e = .returned (.int .i64 4) ∧ w' = w := by
  go_enter Try.func192, Try.ntmps192
  go_wp2
  refine wp_loop_rounds 3 ?_
  rw [rounds_succ]
  go_wp2
  rw [rounds_succ]
  go_wp2
  rw [rounds_succ]
  go_wp2
  all_goals go_ret
  all_goals exact ⟨rfl, rfl⟩

theorem backoff_3 (w : World) : Calls Try.prog 192 #[.int .i64 3] w fun e w' => e = .returned (.int .i64 8) ∧ w' = w := by
  go_enter Try.func192, Try.ntmps192
  go_wp2
  refine wp_loop_rounds 4 ?_
  rw [rounds_succ]
  go_wp2
  rw [rounds_succ]
  go_wp2
  rw [rounds_succ]
  go_wp2
  rw [rounds_succ]
  go_wp2
  all_goals go_ret
  all_goals exact ⟨rfl, rfl⟩

theorem backoff_4 (n : Int) (w : World) (cond : 4 ≤ n) : Calls Try.prog 192 #[.int .i64 n] w fun e w' => e = .returned (.int .i64 16) ∧ w' = w := by
  go_enter Try.func192, Try.ntmps192
  go_wp2
  refine wp_loop_rounds 5 ?_
  rw [rounds_succ]
  go_wp2
  rw [rounds_succ]
  go_wp2
  rw [rounds_succ]
  go_wp2
  rw [rounds_succ]
  go_wp2
  rw [rounds_succ]
  go_wp2
  all_goals go_ret
  all_goals exact ⟨rfl, rfl⟩

theorem backoff_any (n : Int) (w : World) : Calls Try.prog 192 #[.int .i64 n] w fun e w' => e = .returned (.int .i64 (boff n)) ∧ w' = w := by
  unfold boff
  by_cases h0 : n ≤ 0
  · rw [if_pos h0]; exact backoff_0 n w h0
  · rw [if_neg h0]
    by_cases h1 : n = 1
    · rw [if_pos h1]; subst h1; exact backoff_1 w
    · rw [if_neg h1]
      by_cases h2 : n = 2
      · rw [if_pos h2]; subst h2; exact backoff_2 w
      · rw [if_neg h2]
        by_cases h3 : n = 3
        · rw [if_pos h3]; subst h3; exact backoff_3 w
        · rw [if_neg h3]; exact backoff_4 n w (by omega)
end Go.Proofs.Ytkebokkckmgloaa
