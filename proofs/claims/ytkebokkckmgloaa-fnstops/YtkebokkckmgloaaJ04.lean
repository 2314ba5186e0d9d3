import Derived.Test.YtkebokkckmgloaaJ03
import Derived.Deep.MidRow
import Derived.Deep.DeepCutAuto
import Derived.Test.YtkebokkckmgloaaJ01
import Derived.Laws.Bits64
import Derived.Deep.QuietTactic
import Derived.BigQuiet
import Derived.Laws.Pointers
/- What is unwanted is gone in time: equal runs; the plain law of the ticks. -/
namespace Go.Proofs.Ytkebokkckmgloaa
open Go.RowKit
set_option linter.unusedVariables false

theorem eql_run (x0 x2 : ByteArray) (x1 x3 x4 x5 x6 x7 x8 x9 x10 : Int) (w : World) : Sem.run Try.prog (binOp .eql 38 (.agg #[.string x0, .int .i64 x1, .string x2, .int .i64 x3, .int .i64 x4, .int .i64 x5, .int .i64 x6, .int .i64 x7, .int .i64 x8, .int .i64 x9, .int .i64 x10]) (.agg #[.string x0, .int .i64 x1, .string x2, .int .i64 x3, .int .i64 x4, .int .i64 x5, .int .i64 x6, .int .i64 x7, .int .i64 x8, .int .i64 x9, .int .i64 x10])) w = .ok (.bool true) w := by
  rw [run_eql_struct, run_equalIn_agg _ _ _ _ _ (by kernel_rfl) (by kernel_rfl)]
  simp only [Program.fieldsOf, Try.underlying38, Op.eqFields]
  have hw := eql_want x0 x2 x0 x2 x1 x3 x4 x5 x6 x1 x3 x4 x5 x6 w
  rw [run_eql_struct] at hw
  simp [go_sem, Try.underlying3, Try.underlying9, Program.fieldsOf, Try.underlying36, Op.eqFields]
theorem neq_run (x0 x2 : ByteArray) (x1 x3 x4 x5 x6 x7 x8 x9 x10 : Int) (w : World) : Sem.run Try.prog (binOp .neq 38 (.agg #[.string x0, .int .i64 x1, .string x2, .int .i64 x3, .int .i64 x4, .int .i64 x5, .int .i64 x6, .int .i64 x7, .int .i64 x8, .int .i64 x9, .int .i64 x10]) (.agg #[.string x0, .int .i64 x1, .string x2, .int .i64 x3, .int .i64 x4, .int .i64 x5, .int .i64 x6, .int .i64 x7, .int .i64 x8, .int .i64 x9, .int .i64 x10])) w = .ok (.bool false) w := by
  have hq := eql_run x0 x2 x1 x3 x4 x5 x6 x7 x8 x9 x10 w
  rw [run_eql_struct] at hq
  rw [run_neq_struct]
  cases hr : (Op.equalIn 10000 38 (.agg #[.string x0, .int .i64 x1, .string x2, .int .i64 x3, .int .i64 x4, .int .i64 x5, .int .i64 x6, .int .i64 x7, .int .i64 x8, .int .i64 x9, .int .i64 x10]) (.agg #[.string x0, .int .i64 x1, .string x2, .int .i64 x3, .int .i64 x4, .int .i64 x5, .int .i64 x6, .int .i64 x7, .int .i64 x8, .int .i64 x9, .int .i64 x10])).run Try.prog w with
  | ok b w1 => rw [hr] at hq; simp at hq ⊢; obtain ⟨rfl, rfl⟩ := hq; simp
  | halt x w1 => rw [hr] at hq; simp [Result.andThen] at hq
theorem sameW_refl (c h : ByteArray) (v p s d g : Int) : sameW c h c h v p s d g v p s d g = true := by simp [sameW]

/-- Where the ticks have led behind k of them: the state, what is left. -/
def Ticks (g a b : Int) (k : Nat) (x y : Int) : Prop := (k = 0 ∧ x = a ∧ y = b) ∨ (1 ≤ k ∧ x = 6 ∧ y ≤ g + 1 - k ∧ (k = 1 ∨ 1 ≤ y))
theorem ticks_step {h : ByteArray} {s d g a b i u clock : Int} {k : Nat} {x y f : Int} (ha : 1 ≤ a ∧ a ≤ 6) (hb : a = 6 → b ≤ g) (ht : Ticks g a b k x y) :
    liveR h s d g x y f u clock false = none ∨ ∃ y' : Int, liveR h s d g x y f u clock false = some (6, y', f) ∧ Ticks g a b (k + 1) 6 y' := by
  rcases ht with ⟨rfl, rfl, rfl⟩ | ⟨h1, rfl, h2, h3⟩
  · by_cases h6 : x = 6
    · subst h6
      by_cases hy : 1 < y
      · refine Or.inr ⟨y - 1, by simp [liveR, hy], Or.inr ⟨by omega, rfl, by have := hb rfl; omega, by omega⟩⟩
      · exact Or.inl (by simp [liveR, hy])
    · cases hal : aliveB x
      · exact Or.inl (by simp [liveR, h6, hal])
      · exact Or.inr ⟨g, by simp [liveR, h6, hal], Or.inr ⟨by omega, rfl, by omega, by omega⟩⟩
  · by_cases hy : 1 < y
    · refine Or.inr ⟨y - 1, by simp [liveR, hy], Or.inr ⟨by omega, rfl, by omega, by omega⟩⟩
    · exact Or.inl (by simp [liveR, hy])
theorem ticks_end {g a b : Int} {k : Nat} {x y : Int} (hg : 0 ≤ g) (ht : Ticks g a b k x y) (hk : g + 2 ≤ (k : Int)) : False := by
  rcases ht with ⟨rfl, _, _⟩ | ⟨h1, _, h2, h3⟩
  · omega
  · omega
end Go.Proofs.Ytkebokkckmgloaa
/- FnStops: the walk, over what DrawMateLive is said to give. -/
namespace Go.Proofs.Ytkebokkckmgloaa
open Go.RowKit
set_option linter.unusedVariables false

def small (n : Int) : Prop := -2000000 ≤ n ∧ n ≤ 2000000
theorem stay {x y : World} {k : Nat} {r : Array Value} (h : ∀ o, x.cell? ⟨k, o, none⟩ = r[o]?) (hk : k < x.heap.size) (hb : Below x.heap.size x y) : ∀ o, y.cell? ⟨k, o, none⟩ = r[o]? := fun o => (hb.cell (p := ⟨k, o, none⟩) hk).trans (h o)
theorem two_boxes (w : World) (r1 r2 : Array Value) (t1 t2 : TypeId) : (∀ k, ((w.alloc (.cells r1 t1)).alloc (.cells r2 t2)).cell? ⟨w.heap.size, k, none⟩ = r1[k]?) ∧ (∀ k, ((w.alloc (.cells r1 t1)).alloc (.cells r2 t2)).cell? ⟨w.heap.size + 1, k, none⟩ = r2[k]?) := by
  constructor <;> intro k <;> simp [go_sem, World.cell?_alloc_past]
theorem old_box (w : World) (o : Obj) (k : Nat) (r : Array Value) (h : ∀ j, w.cell? ⟨k, j, none⟩ = r[j]?) (hk : k < w.heap.size) : ∀ j, (w.alloc o).cell? ⟨k, j, none⟩ = r[j]? := fun j => by
  rw [World.cell?_alloc_past _ _ _ hk]; exact h j

theorem newT {X w' : World} {z : Array Value} {t : TypeId} (hb : Below (X.alloc (.cells z t)).heap.size (X.alloc (.cells z t)) w') (hz : z.size = 11) : w'.there X.heap.size 0 11 := fun j hj =>
  ⟨by rw [hb.cell (p := ⟨X.heap.size, 0 + j, none⟩) (by simp)]; simp [go_sem]; omega, by rw [hb.frozen (p := ⟨X.heap.size, 0 + j, none⟩) (by simp)]; simp [go_sem]⟩
theorem keepT {x y : World} {k o n : Nat} (h : x.there k o n) (hk : k < x.heap.size) (hb : Below x.heap.size x y) : y.there k o n :=
  fun j hj => ⟨by rw [hb.cell (p := ⟨k, o + j, none⟩) hk]; exact (h j hj).1, by rw [hb.frozen (p := ⟨k, o + j, none⟩) hk]; exact (h j hj).2⟩
theorem keepG {x y : World} {k : Nat} {vs : List Value} (h : x.rangeAt k 0 vs) (hk : k < x.heap.size) (hb : Below x.heap.size x y) : y.rangeAt k 0 vs :=
  fun j v hj => (hb.cell (p := ⟨k, 0 + j, none⟩) hk).trans (h j v hj)
theorem rangeOf {w : World} {k : Nat} {vs : List Value} (h : ∀ o, w.cell? ⟨k, o, none⟩ = vs.toArray[o]?) : w.rangeAt k 0 vs := fun j v hj => by
  rw [Nat.zero_add, h j]; simpa using hj
theorem setsB {A : World} {k : Nat} (hk : A.heap.size ≤ k) : ∀ (vs : List Value) (o : Nat) (w' : World), Below A.heap.size A w' → Below A.heap.size A (w'.setCells k o vs)
  | [], _, _, h => h
  | v :: r, o, w', h => setsB hk r (o + 1) _ (bl_set h (by exact hk) v)
theorem setsZ {k : Nat} : ∀ (vs : List Value) (o : Nat) (w' : World), (w'.setCells k o vs).heap.size = w'.heap.size
  | [], _, _ => rfl
  | v :: r, o, w' => (setsZ r (o + 1) _).trans (by simp [World.setCell])
theorem cells11 {wx : World} {k : Nat} {v0 v1 v2 v3 v4 v5 v6 v7 v8 v9 v10 : Value} (h : wx.rangeAt k 0 [v0, v1, v2, v3, v4, v5, v6, v7, v8, v9, v10]) : wx.cell? ⟨k, 0, none⟩ = some v0 ∧ wx.cell? ⟨k, 1, none⟩ = some v1 ∧ wx.cell? ⟨k, 2, none⟩ = some v2 ∧ wx.cell? ⟨k, 3, none⟩ = some v3 ∧ wx.cell? ⟨k, 4, none⟩ = some v4 ∧ wx.cell? ⟨k, 5, none⟩ = some v5 ∧ wx.cell? ⟨k, 6, none⟩ = some v6 ∧ wx.cell? ⟨k, 7, none⟩ = some v7 ∧ wx.cell? ⟨k, 8, none⟩ = some v8 ∧ wx.cell? ⟨k, 9, none⟩ = some v9 ∧ wx.cell? ⟨k, 10, none⟩ = some v10 :=
  ⟨by simpa using h 0 _ rfl, by simpa using h 1 _ rfl, by simpa using h 2 _ rfl, by simpa using h 3 _ rfl, by simpa using h 4 _ rfl, by simpa using h 5 _ rfl, by simpa using h 6 _ rfl, by simpa using h 7 _ rfl, by simpa using h 8 _ rfl, by simpa using h 9 _ rfl, by simpa using h 10 _ rfl⟩

theorem live_open (c h c2 h2 : ByteArray) (v p s d g a b i u v2 p2 s2 d2 g2 clock : Int) (wanted : Bool) (hbb : b ≤ 9223372036854775807) (hii : -9223372036854775808 ≤ i) :
    ∃ (x0 x2 : ByteArray) (x1 x3 x4 x5 x6 x7 x8 x9 x10 : Int) (q : Bool), (∀ w, Calls Try.prog 27 #[.agg #[.string c, .int .i64 v, .string h, .int .i64 p, .int .i64 s, .int .i64 d, .int .i64 g, .int .i64 a, .int .i64 b, .int .i64 i, .int .i64 u], .agg #[.string c2, .int .i64 v2, .string h2, .int .i64 p2, .int .i64 s2, .int .i64 d2, .int .i64 g2], .bool wanted, .int .i64 clock] w fun e w' => e = .returned (.tuple #[.agg #[.string x0, .int .i64 x1, .string x2, .int .i64 x3, .int .i64 x4, .int .i64 x5, .int .i64 x6, .int .i64 x7, .int .i64 x8, .int .i64 x9, .int .i64 x10], .bool q]) ∧ Below w.heap.size w w') ∧ (∀ w, Calls Try.prog 26 #[.agg #[.string c, .int .i64 v, .string h, .int .i64 p, .int .i64 s, .int .i64 d, .int .i64 g, .int .i64 a, .int .i64 b, .int .i64 i, .int .i64 u], .agg #[.string c2, .int .i64 v2, .string h2, .int .i64 p2, .int .i64 s2, .int .i64 d2, .int .i64 g2], .bool wanted, .int .i64 clock] w fun e w' => e = .returned (.tuple #[.agg #[.string x0, .int .i64 x1, .string x2, .int .i64 x3, .int .i64 x4, .int .i64 x5, .int .i64 x6, .int .i64 x7, .int .i64 x8, .int .i64 x9, .int .i64 x10], .bool q]) ∧ Below w.heap.size w w') := by
  have hS := fun w => specLive_any c h c2 h2 v p s d g a b i u v2 p2 s2 d2 g2 clock wanted w hbb hii
  have hI := fun w => implLive_any c h c2 h2 v p s d g a b i u v2 p2 s2 d2 g2 clock wanted w hbb hii
  cases hr : liveR h s d g a b i u clock (wanted && sameW c h c2 h2 v p s d g v2 p2 s2 d2 g2) with
  | none =>
    rw [hr] at hS hI
    exact ⟨⟨#[]⟩, ⟨#[]⟩, 0, 0, 0, 0, 0, 0, 0, 0, 0, false, hS, hI⟩
  | some r =>
    obtain ⟨a', b', i'⟩ := r
    rw [hr] at hS hI
    exact ⟨c, h, v, p, s, d, g, a', b', i', u, true, hS, hI⟩

set_option maxRecDepth 4000 in
set_option maxHeartbeats 4000000 in
theorem stops_head (sl : Option Addr) (n cap : Nat) (w : World) (hn : n ≤ 1048576)
    (hD : Calls Try.prog 25 #[.slice sl n cap] w fun e w' => ∃ (c h c2 h2 : ByteArray) (v p s d g a b i u v2 p2 s2 d2 g2 clock : Int) (wanted : Bool), e = .returned (.tuple #[.agg #[.string c, .int .i64 v, .string h, .int .i64 p, .int .i64 s, .int .i64 d, .int .i64 g, .int .i64 a, .int .i64 b, .int .i64 i, .int .i64 u], .agg #[.string c2, .int .i64 v2, .string h2, .int .i64 p2, .int .i64 s2, .int .i64 d2, .int .i64 g2], .bool wanted, .int .i64 clock]) ∧ b ≤ 2000000 ∧ small i ∧ small clock ∧ Below w.heap.size w w') :
    Calls Try.prog 4 #[.slice sl n cap] w fun e w' => e = .returned (.bool true) ∧ Below w.heap.size w w' := by
  have HD : Hid _ := hD
  clear hD
  go_enter Try.func4, Try.ntmps4
  go_wp2_with fail
  refine Calls.mono HD.out ?_
  rintro e w1 ⟨c, h, c2, h2, v, p, s, d, g, a, b, i, u, v2, p2, s2, d2, g2, clock, wanted, rfl, hbs, hi, ⟨hc0, hc1⟩, b1⟩
  obtain ⟨x0, x2, x1, x3, x4, x5, x6, x7, x8, x9, x10, q, hS, hI⟩ := live_open c h c2 h2 v p s d g a b i u v2 p2 s2 d2 g2 clock wanted (by omega) (by have := hi.1; omega)
  have HS : Hid _ := hS
  have HI : Hid _ := hI
  clear hS hI HD
  have hnr := neq_run x0 x2 x1 x3 x4 x5 x6 x7 x8 x9 x10
  go_wp2_with fail
  refine (HI.out _).mono ?_
  rintro e w2 ⟨rfl, b2⟩
  obtain ⟨r1, s1⟩ := two_boxes w1 #[.string c, .int .i64 v, .string h, .int .i64 p, .int .i64 s, .int .i64 d, .int .i64 g, .int .i64 a, .int .i64 b, .int .i64 i, .int .i64 u] #[.string c2, .int .i64 v2, .string h2, .int .i64 p2, .int .i64 s2, .int .i64 d2, .int .i64 g2] 38 36
  have r2 := stay r1 (by simp; omega) b2
  have s2' := stay s1 (by simp) b2
  have z2 : w1.heap.size + 1 < w2.heap.size := by have := b2.size; simp at this; omega
  have z2' : w1.heap.size < w2.heap.size := by omega
  have B2 := bl_trans b1 (bl_trans (bl_alloc (bl_alloc (Below.refl _ _) _) _) b2)
  clear b1 b2 r1 s1
  go_wp2_with fail
  refine (HS.out _).mono ?_
  rintro e w3 ⟨rfl, b3⟩
  have r3 := stay (old_box w2 (.cells #[.string x0, .int .i64 x1, .string x2, .int .i64 x3, .int .i64 x4, .int .i64 x5, .int .i64 x6, .int .i64 x7, .int .i64 x8, .int .i64 x9, .int .i64 x10] 38) _ _ r2 z2') (by simp; omega) b3
  have x3' := box_keep b3
  have t3 := newT b3 rfl
  have z3 : w2.heap.size < w3.heap.size := by have := b3.size; simp at this; omega
  have z3' : w1.heap.size < w3.heap.size := by omega
  have B3 := bl_trans B2 (bl_trans (bl_alloc (Below.refl _ _) _) b3)
  have lo : w.heap.size ≤ w2.heap.size := B2.size
  clear r2 s2' z2 B2 b3 HS HI
  by_cases e1 : a < 1
  · go_wp2
    go_ret
    exact ⟨rfl, bl_alloc B3 _⟩
  by_cases e2 : 6 < a
  · go_wp2
    go_ret
    exact ⟨rfl, bl_alloc B3 _⟩
  by_cases e3 : g < 0
  · go_wp2
    go_ret
    exact ⟨rfl, bl_alloc B3 _⟩
  by_cases e4 : 100 < g
  · go_wp2
    go_ret
    exact ⟨rfl, bl_alloc B3 _⟩
  have hpart : (g < b ∧ (a == 6) = true) ∨ (g < b ∧ (a == 6) = false) ∨ b ≤ g := by
    by_cases h' : b ≤ g
    · exact Or.inr (Or.inr h')
    · cases h6 : (a == 6)
      · exact Or.inr (Or.inl ⟨by omega, rfl⟩)
      · exact Or.inl ⟨by omega, rfl⟩
  rcases hpart with ⟨f1, f2⟩ | hcon
  · go_wp2
    go_ret
    exact ⟨rfl, bl_alloc B3 _⟩
  have hb6 : Hid (a = 6 → b ≤ g) := fun h6 => by
    rcases hcon with ⟨f1, f2⟩ | f1
    · rw [h6] at f2; cases f2
    · exact f1
  have hinfo : (Try.prog.info? 38).map (·.size) = some 11 := by kernel_rfl
  rcases hcon with ⟨f1, f2⟩ | f1
  · skip
    go_wp2_with (refine wpList_store_mid (by rfl) 38 _ _ (by rfl) w2.heap.size 0 #[.string c, .int .i64 v, .string h, .int .i64 p, .int .i64 s, .int .i64 d, .int .i64 g, .int .i64 a, .int .i64 b, .int .i64 i, .int .i64 u] (by rfl) (by rfl) (by exact World.there_alloc t3 _) hinfo (by simp [Value.oneCell']) ?_)
    go_loopw [8, 11] (fun th j wx => ∃ (k : Nat) (x y : Int), (k : Int) ≤ g + 2 ∧ j = .int .i64 k ∧ Hid (Ticks g a b k x y) ∧ y ≤ 2000000 ∧ Hid (wx.rangeAt w1.heap.size 0 [.string c, .int .i64 v, .string h, .int .i64 p, .int .i64 s, .int .i64 d, .int .i64 g, .int .i64 a, .int .i64 b, .int .i64 i, .int .i64 u]) ∧ Hid (wx.rangeAt w2.heap.size 0 [.string c, .int .i64 v, .string h, .int .i64 p, .int .i64 s, .int .i64 d, .int .i64 g, .int .i64 x, .int .i64 y, .int .i64 i, .int .i64 u]) ∧ Hid (wx.there w2.heap.size 0 11) ∧ w1.heap.size < wx.heap.size ∧ w2.heap.size < wx.heap.size ∧ Below w.heap.size w wx) (fun _ j _ => (g + 2 - intOf j).toNat)
    case atStart =>
      refine ⟨0, a, b, by omega, rfl, Or.inl ⟨rfl, rfl, rfl⟩, hbs, ?_, ?_, ?_, ?_, ?_, ?_⟩
      · exact World.rangeAt_setCells_apart (World.rangeAt_alloc (rangeOf r3) _) _ _ _ (Or.inl (by omega))
      · exact World.rangeAt_setCells_same _ _ _ _ (World.there_alloc t3 _)
      · exact World.there_setCells (World.there_alloc t3 _) _ _ _
      · rw [setsZ]; simp; omega
      · rw [setsZ]; simp; omega
      · exact setsB lo _ _ _ (bl_alloc B3 _)
    case round =>
      obtain ⟨k, x, y, hk, rfl, Ht, hy, Gr, Gx, Tx, y1, y2, hB⟩ := hrel
      by_cases hlt : (k : Int) < g + 2
      · obtain ⟨a0, a1, a2, a3, a4, a5, a6, a7, a8, a9, a10⟩ := cells11 Gr.out
        obtain ⟨b0, b1, b2, b3, b4, b5, b6, b7, b8, b9, b10⟩ := cells11 Gx.out
        have hcall := fun W => implLive_any c h ⟨#[]⟩ ⟨#[]⟩ v p s d g x y i u 0 0 0 0 0 (clock + k) false W (by omega) (by have := hi.1; omega)
        simp only [Bool.false_and] at hcall
        rcases ticks_step (h := h) (s := s) (d := d) (i := i) (u := u) (clock := clock + k) (f := i) ⟨by omega, by omega⟩ hb6.out Ht.out with hl | ⟨y', hl, Ht'⟩
        · rw [hl] at hcall
          simp only [liveV] at hcall
          have Hc : Hid _ := hcall
          clear hcall hl
          go_wp2_with fail
          refine (Hc.out _).mono ?_
          rintro e w5 ⟨rfl, k5⟩
          have T5 := keepT Tx.out y2 k5
          have B5 := bl_trans hB k5
          clear a0 a1 a2 a3 a4 a5 a6 a7 a8 a9 a10 b0 b1 b2 b3 b4 b5 b6 b7 b8 b9 b10
          obtain ⟨d0, d1, d2, d3, d4, d5, d6, d7, d8, d9, d10⟩ := cells11 (World.rangeAt_setCells_same w5 w2.heap.size 0 [.string ⟨#[]⟩, .int .i64 0, .string ⟨#[]⟩, .int .i64 0, .int .i64 0, .int .i64 0, .int .i64 0, .int .i64 0, .int .i64 0, .int .i64 0, .int .i64 0] T5)
          have her := eql_run ⟨#[]⟩ ⟨#[]⟩ 0 0 0 0 0 0 0 0 0
          go_wp2_with (refine wpList_store_mid (by rfl) 38 _ _ (by rfl) w2.heap.size 0 #[.string ⟨#[]⟩, .int .i64 0, .string ⟨#[]⟩, .int .i64 0, .int .i64 0, .int .i64 0, .int .i64 0, .int .i64 0, .int .i64 0, .int .i64 0, .int .i64 0] (by rfl) (by rfl) (by exact T5) hinfo (by simp [Value.oneCell']) ?_)
          go_ret
          exact ⟨rfl, setsB lo _ _ _ B5⟩
        · rw [hl] at hcall
          simp only [liveV] at hcall
          have Hc : Hid _ := hcall
          clear hcall hl
          go_wp2_with fail
          refine (Hc.out _).mono ?_
          rintro e w5 ⟨rfl, k5⟩
          have T5 := keepT Tx.out y2 k5
          have B5 := bl_trans hB k5
          have Gr6 := World.rangeAt_setCells_apart (keepG Gr.out y1 k5) w2.heap.size 0 [.string c, .int .i64 v, .string h, .int .i64 p, .int .i64 s, .int .i64 d, .int .i64 g, .int .i64 6, .int .i64 y', .int .i64 i, .int .i64 u] (Or.inl (by omega))
          have Gx6 := World.rangeAt_setCells_same w5 w2.heap.size 0 [.string c, .int .i64 v, .string h, .int .i64 p, .int .i64 s, .int .i64 d, .int .i64 g, .int .i64 6, .int .i64 y', .int .i64 i, .int .i64 u] T5
          have y1' : w1.heap.size < w5.heap.size := Nat.lt_of_lt_of_le y1 k5.size
          have y2' : w2.heap.size < w5.heap.size := Nat.lt_of_lt_of_le y2 k5.size
          clear a0 a1 a2 a3 a4 a5 a6 a7 a8 a9 a10 b0 b1 b2 b3 b4 b5 b6 b7 b8 b9 b10
          obtain ⟨a0, a1, a2, a3, a4, a5, a6, a7, a8, a9, a10⟩ := cells11 Gr6
          obtain ⟨d0, d1, d2, d3, d4, d5, d6, d7, d8, d9, d10⟩ := cells11 Gx6
          have G1 : Hid _ := Gr6
          have G2 : Hid _ := Gx6
          have HT : Hid (Ticks g a b (k + 1) 6 y') := Ht'
          clear Gr6 Gx6 Ht'
          have hnw : ∀ w, Sem.run Try.prog (binOp .neq 36 (.agg #[.string c, .int .i64 v, .string h, .int .i64 p, .int .i64 s, .int .i64 d, .int .i64 g]) (.agg #[.string c, .int .i64 v, .string h, .int .i64 p, .int .i64 s, .int .i64 d, .int .i64 g])) w = .ok (.bool false) w := fun w => by rw [neq_want, sameW_refl]; rfl
          go_wp2_with (refine wpList_store_mid (by rfl) 38 _ _ (by rfl) w2.heap.size 0 #[.string c, .int .i64 v, .string h, .int .i64 p, .int .i64 s, .int .i64 d, .int .i64 g, .int .i64 6, .int .i64 y', .int .i64 i, .int .i64 u] (by rfl) (by rfl) (by exact T5) hinfo (by simp [Value.oneCell']) ?_)
          have hy' : y' ≤ 2000000 := by rcases HT.out with ⟨h', _⟩ | ⟨_, _, h', _⟩ <;> omega
          exact ⟨⟨k + 1, 6, y', by omega, by go_num, HT.out, hy', G1.out, G2.out, World.there_setCells T5 _ _ _, by rw [setsZ]; exact y1', by rw [setsZ]; exact y2', setsB lo _ _ _ B5⟩, by simp [intOf]; omega⟩
      · exact (ticks_end (by omega) Ht.out (by omega)).elim
  · skip
    go_wp2_with (refine wpList_store_mid (by rfl) 38 _ _ (by rfl) w2.heap.size 0 #[.string c, .int .i64 v, .string h, .int .i64 p, .int .i64 s, .int .i64 d, .int .i64 g, .int .i64 a, .int .i64 b, .int .i64 i, .int .i64 u] (by rfl) (by rfl) (by exact World.there_alloc t3 _) hinfo (by simp [Value.oneCell']) ?_)
    go_loopw [8, 11] (fun th j wx => ∃ (k : Nat) (x y : Int), (k : Int) ≤ g + 2 ∧ j = .int .i64 k ∧ Hid (Ticks g a b k x y) ∧ y ≤ 2000000 ∧ Hid (wx.rangeAt w1.heap.size 0 [.string c, .int .i64 v, .string h, .int .i64 p, .int .i64 s, .int .i64 d, .int .i64 g, .int .i64 a, .int .i64 b, .int .i64 i, .int .i64 u]) ∧ Hid (wx.rangeAt w2.heap.size 0 [.string c, .int .i64 v, .string h, .int .i64 p, .int .i64 s, .int .i64 d, .int .i64 g, .int .i64 x, .int .i64 y, .int .i64 i, .int .i64 u]) ∧ Hid (wx.there w2.heap.size 0 11) ∧ w1.heap.size < wx.heap.size ∧ w2.heap.size < wx.heap.size ∧ Below w.heap.size w wx) (fun _ j _ => (g + 2 - intOf j).toNat)
    case atStart =>
      refine ⟨0, a, b, by omega, rfl, Or.inl ⟨rfl, rfl, rfl⟩, hbs, ?_, ?_, ?_, ?_, ?_, ?_⟩
      · exact World.rangeAt_setCells_apart (World.rangeAt_alloc (rangeOf r3) _) _ _ _ (Or.inl (by omega))
      · exact World.rangeAt_setCells_same _ _ _ _ (World.there_alloc t3 _)
      · exact World.there_setCells (World.there_alloc t3 _) _ _ _
      · rw [setsZ]; simp; omega
      · rw [setsZ]; simp; omega
      · exact setsB lo _ _ _ (bl_alloc B3 _)
    case round =>
      obtain ⟨k, x, y, hk, rfl, Ht, hy, Gr, Gx, Tx, y1, y2, hB⟩ := hrel
      by_cases hlt : (k : Int) < g + 2
      · obtain ⟨a0, a1, a2, a3, a4, a5, a6, a7, a8, a9, a10⟩ := cells11 Gr.out
        obtain ⟨b0, b1, b2, b3, b4, b5, b6, b7, b8, b9, b10⟩ := cells11 Gx.out
        have hcall := fun W => implLive_any c h ⟨#[]⟩ ⟨#[]⟩ v p s d g x y i u 0 0 0 0 0 (clock + k) false W (by omega) (by have := hi.1; omega)
        simp only [Bool.false_and] at hcall
        rcases ticks_step (h := h) (s := s) (d := d) (i := i) (u := u) (clock := clock + k) (f := i) ⟨by omega, by omega⟩ hb6.out Ht.out with hl | ⟨y', hl, Ht'⟩
        · rw [hl] at hcall
          simp only [liveV] at hcall
          have Hc : Hid _ := hcall
          clear hcall hl
          go_wp2_with fail
          refine (Hc.out _).mono ?_
          rintro e w5 ⟨rfl, k5⟩
          have T5 := keepT Tx.out y2 k5
          have B5 := bl_trans hB k5
          clear a0 a1 a2 a3 a4 a5 a6 a7 a8 a9 a10 b0 b1 b2 b3 b4 b5 b6 b7 b8 b9 b10
          obtain ⟨d0, d1, d2, d3, d4, d5, d6, d7, d8, d9, d10⟩ := cells11 (World.rangeAt_setCells_same w5 w2.heap.size 0 [.string ⟨#[]⟩, .int .i64 0, .string ⟨#[]⟩, .int .i64 0, .int .i64 0, .int .i64 0, .int .i64 0, .int .i64 0, .int .i64 0, .int .i64 0, .int .i64 0] T5)
          have her := eql_run ⟨#[]⟩ ⟨#[]⟩ 0 0 0 0 0 0 0 0 0
          go_wp2_with (refine wpList_store_mid (by rfl) 38 _ _ (by rfl) w2.heap.size 0 #[.string ⟨#[]⟩, .int .i64 0, .string ⟨#[]⟩, .int .i64 0, .int .i64 0, .int .i64 0, .int .i64 0, .int .i64 0, .int .i64 0, .int .i64 0, .int .i64 0] (by rfl) (by rfl) (by exact T5) hinfo (by simp [Value.oneCell']) ?_)
          go_ret
          exact ⟨rfl, setsB lo _ _ _ B5⟩
        · rw [hl] at hcall
          simp only [liveV] at hcall
          have Hc : Hid _ := hcall
          clear hcall hl
          go_wp2_with fail
          refine (Hc.out _).mono ?_
          rintro e w5 ⟨rfl, k5⟩
          have T5 := keepT Tx.out y2 k5
          have B5 := bl_trans hB k5
          have Gr6 := World.rangeAt_setCells_apart (keepG Gr.out y1 k5) w2.heap.size 0 [.string c, .int .i64 v, .string h, .int .i64 p, .int .i64 s, .int .i64 d, .int .i64 g, .int .i64 6, .int .i64 y', .int .i64 i, .int .i64 u] (Or.inl (by omega))
          have Gx6 := World.rangeAt_setCells_same w5 w2.heap.size 0 [.string c, .int .i64 v, .string h, .int .i64 p, .int .i64 s, .int .i64 d, .int .i64 g, .int .i64 6, .int .i64 y', .int .i64 i, .int .i64 u] T5
          have y1' : w1.heap.size < w5.heap.size := Nat.lt_of_lt_of_le y1 k5.size
          have y2' : w2.heap.size < w5.heap.size := Nat.lt_of_lt_of_le y2 k5.size
          clear a0 a1 a2 a3 a4 a5 a6 a7 a8 a9 a10 b0 b1 b2 b3 b4 b5 b6 b7 b8 b9 b10
          obtain ⟨a0, a1, a2, a3, a4, a5, a6, a7, a8, a9, a10⟩ := cells11 Gr6
          obtain ⟨d0, d1, d2, d3, d4, d5, d6, d7, d8, d9, d10⟩ := cells11 Gx6
          have G1 : Hid _ := Gr6
          have G2 : Hid _ := Gx6
          have HT : Hid (Ticks g a b (k + 1) 6 y') := Ht'
          clear Gr6 Gx6 Ht'
          have hnw : ∀ w, Sem.run Try.prog (binOp .neq 36 (.agg #[.string c, .int .i64 v, .string h, .int .i64 p, .int .i64 s, .int .i64 d, .int .i64 g]) (.agg #[.string c, .int .i64 v, .string h, .int .i64 p, .int .i64 s, .int .i64 d, .int .i64 g])) w = .ok (.bool false) w := fun w => by rw [neq_want, sameW_refl]; rfl
          go_wp2_with (refine wpList_store_mid (by rfl) 38 _ _ (by rfl) w2.heap.size 0 #[.string c, .int .i64 v, .string h, .int .i64 p, .int .i64 s, .int .i64 d, .int .i64 g, .int .i64 6, .int .i64 y', .int .i64 i, .int .i64 u] (by rfl) (by rfl) (by exact T5) hinfo (by simp [Value.oneCell']) ?_)
          have hy' : y' ≤ 2000000 := by rcases HT.out with ⟨h', _⟩ | ⟨_, _, h', _⟩ <;> omega
          exact ⟨⟨k + 1, 6, y', by omega, by go_num, HT.out, hy', G1.out, G2.out, World.there_setCells T5 _ _ _, by rw [setsZ]; exact y1', by rw [setsZ]; exact y2', setsB lo _ _ _ B5⟩, by simp [intOf]; omega⟩
      · exact (ticks_end (by omega) Ht.out (by omega)).elim
end Go.Proofs.Ytkebokkckmgloaa
/- Nothing has turned but for one block. -/
namespace Go.Proofs.Ytkebokkckmgloaa
open Go.RowKit
set_option linter.unusedVariables false

/-- Nothing that was there has turned but for one block. -/
structure Ex (kr : Nat) (w w' : World) : Prop where
  os : w'.os = w.os
  tape : w'.tape = w.tape
  output : w'.output = w.output
  size : w.heap.size ≤ w'.heap.size
  block : ∀ k, k < w.heap.size → k ≠ kr → w'.heap[k]? = w.heap[k]?
theorem Ex.refl (kr : Nat) (w : World) : Ex kr w w := ⟨rfl, rfl, rfl, Nat.le_refl _, fun _ _ _ => rfl⟩
theorem Ex.trans {kr : Nat} {a b c : World} (h : Ex kr a b) (k : Ex kr b c) : Ex kr a c :=
  ⟨k.os.trans h.os, k.tape.trans h.tape, k.output.trans h.output, Nat.le_trans h.size k.size, fun i hi hne => (k.block i (Nat.lt_of_lt_of_le hi h.size) hne).trans (h.block i hi hne)⟩
theorem Ex.of_below {kr : Nat} {a b : World} (h : Below a.heap.size a b) : Ex kr a b := ⟨h.os, h.tape, h.output, h.size, fun i hi _ => h.block i hi⟩
theorem Ex.below {kr B : Nat} {a b : World} (h : Ex kr a b) (hB : B ≤ kr) (hz : B ≤ a.heap.size) : Below B a b := ⟨h.os, h.tape, h.output, h.size, fun i hi => h.block i (by omega) (by omega)⟩
theorem Ex.set {kr : Nat} {a b : World} (h : Ex kr a b) (o : Nat) (u : Value) : Ex kr a (b.setCell ⟨kr, o, none⟩ u) :=
  h.trans ⟨rfl, rfl, rfl, by simp [World.setCell], fun i hi hne => Below.heap_setCell _ _ _ _ hne⟩
theorem Ex.drewN {kr : Nat} {a b : World} (h : Ex kr a b) (n : Nat) : Ex kr a (b.drewN n) := ⟨h.os, h.tape, h.output, h.size, h.block⟩
theorem Ex.cell {kr : Nat} {a b : World} (h : Ex kr a b) {p : Addr} (hp : p.block < a.heap.size) (hne : p.block ≠ kr) : b.cell? p = a.cell? p := World.cell?_of_block (w := a) (h.block p.block hp hne)
theorem Ex.frozen {kr : Nat} {a b : World} (h : Ex kr a b) {p : Addr} (hp : p.block < a.heap.size) (hne : p.block ≠ kr) : b.frozen? p = a.frozen? p := World.frozen?_of_block (w := a) (h.block p.block hp hne)

theorem Ex.cells {kr : Nat} : ∀ (vs : List Value) (o : Nat) {a b : World}, Ex kr a b → Ex kr a (b.setCells kr o vs)
  | [], _, _, _, h => h
  | v :: r, o, _, _, h => Ex.cells r (o + 1) (h.set o v)
theorem Ex.mono {kr : Nat} {a b c : World} (h : Below a.heap.size a b) (k : Ex kr b c) (hk : a.heap.size ≤ kr) : Below a.heap.size a c := h.trans (k.below hk h.size)
theorem there_ex {kr : Nat} {x y : World} {k o n : Nat} (h : x.there k o n) (hk : k < x.heap.size) (hE : Ex kr x y) (hne : k ≠ kr) : y.there k o n :=
  fun j hj => ⟨by rw [hE.cell (p := ⟨k, o + j, none⟩) hk hne]; exact (h j hj).1, by rw [hE.frozen (p := ⟨k, o + j, none⟩) hk hne]; exact (h j hj).2⟩
theorem there_keep2 {x y : World} {k o n : Nat} (h : x.there k o n) (hk : k < x.heap.size) (hb : Below x.heap.size x y) : y.there k o n :=
  fun j hj => ⟨by rw [hb.cell (p := ⟨k, o + j, none⟩) hk]; exact (h j hj).1, by rw [hb.frozen (p := ⟨k, o + j, none⟩) hk]; exact (h j hj).2⟩
theorem range_keep {w w' : World} {b o : Nat} {vs : List Value} (h : w.rangeAt b o vs) (hb : b < w.heap.size) (hB : Below w.heap.size w w') : w'.rangeAt b o vs :=
  fun j v hj => (hB.cell (p := ⟨b, o + j, none⟩) hb).trans (h j v hj)
theorem range_append {w : World} {b o : Nat} {xs ys : List Value} (h1 : w.rangeAt b o xs) (h2 : w.rangeAt b (o + xs.length) ys) : w.rangeAt b o (xs ++ ys) := by
  intro j v hj
  rcases Nat.lt_or_ge j xs.length with hl | hl
  · rw [List.getElem?_append_left hl] at hj; exact h1 j v hj
  · rw [List.getElem?_append_right hl] at hj
    have := h2 (j - xs.length) v hj
    rwa [show o + xs.length + (j - xs.length) = o + j from by omega] at this
end Go.Proofs.Ytkebokkckmgloaa
/- The reader of a code: a number is picked. -/
namespace Go.Proofs.Ytkebokkckmgloaa
open Go.RowKit
set_option linter.unusedVariables false

/-- The bytes zs, n of them, that a slice shows. -/
def Code (w : World) (kr : Nat) (a : Option Addr) (n : Nat) (zs : List Int) : Prop :=
  n ≤ 2000 ∧ (n = 0 ∨ ∃ b off, a = some ⟨b, off, none⟩ ∧ b ≠ kr ∧ b < w.heap.size ∧ ∀ i, i < n → w.cell? ⟨b, off + i, none⟩ = some (.int .u8 (zs.getD i 0)) ∧ 0 ≤ zs.getD i 0 ∧ zs.getD i 0 ≤ 255)
theorem Code.keep {w w' : World} {kr : Nat} {a : Option Addr} {n : Nat} {zs : List Int} (h : Code w kr a n zs) (he : Ex kr w w') : Code w' kr a n zs := by
  obtain ⟨hn, h⟩ := h
  refine ⟨hn, h.imp id ?_⟩
  rintro ⟨b, off, ha, hne, hb, hc⟩
  exact ⟨b, off, ha, hne, Nat.lt_of_lt_of_le hb he.size, fun i hi => ⟨(he.cell (p := ⟨b, off + i, none⟩) hb hne).trans (hc i hi).1, (hc i hi).2⟩⟩
/-- A reader at place p of the code. -/
structure Rd (w : World) (kr : Nat) (a : Option Addr) (n cap : Nat) (zs : List Int) (p : Int) : Prop where
  sl : w.cell? ⟨kr, 0, none⟩ = some (.slice a n cap)
  at_ : w.cell? ⟨kr, 1, none⟩ = some (.int .i64 p)
  open_ : w.frozen? ⟨kr, 1, none⟩ = false
  lt : kr < w.heap.size
  code : Code w kr a n zs
  p0 : 0 ≤ p
  p1 : p ≤ 1000000

theorem xor_i64 (a b : Nat) (ha : a < 4611686018427387904) (hb : b < 4611686018427387904) : bits .xor .i64 (a : Int) (b : Int) = ((a ^^^ b : Nat) : Int) := by
  have hx : a ^^^ b < 2 ^ 62 := Nat.xor_lt_two_pow (by omega) (by omega)
  have h1 : (BitVec.ofInt 64 (a : Int)).toNat = a := by
    rw [BitVec.ofInt_natCast, BitVec.toNat_ofNat]; exact Nat.mod_eq_of_lt (by omega)
  have h2 : (BitVec.ofInt 64 (b : Int)).toNat = b := by
    rw [BitVec.ofInt_natCast, BitVec.toNat_ofNat]; exact Nat.mod_eq_of_lt (by omega)
  show IntKind.i64.wrap ((BitVec.ofInt 64 (a : Int) ^^^ BitVec.ofInt 64 (b : Int)).toNat : Int) = _
  rw [BitVec.toNat_xor, h1, h2, IntKind.wrap_i64]
  omega
/-- A mixture is no negative number. -/
theorem xor_mix (x : Int) (h0 : 0 ≤ x) (h1 : x < 4611686018427387904) : ∃ y : Int, bits .xor .i64 x (x / 64) = y ∧ 0 ≤ y ∧ y < 4611686018427387904 := by
  obtain ⟨m, rfl⟩ := Int.eq_ofNat_of_zero_le h0
  have hx : m ^^^ (m / 64) < 2 ^ 62 := Nat.xor_lt_two_pow (by omega) (by omega)
  refine ⟨((m ^^^ (m / 64) : Nat) : Int), ?_, by omega, by omega⟩
  have := xor_i64 m (m / 64) (by omega) (by omega)
  simpa using this

set_option maxHeartbeats 1000000 in
theorem pick_any (kr : Nat) (a : Option Addr) (n cap : Nat) (zs : List Int) (p k : Int) (w : World) (h : Rd w kr a n cap zs p) (hp : p < 1000000) (k0 : 1 ≤ k) (k1 : k ≤ 1000000) :
    Calls Try.prog 59 #[.pointer (some ⟨kr, 0, none⟩), .int .i64 k] w fun e w' => ∃ (m : Int) (nq : Nat), e = .returned (.int .i64 m) ∧ 0 ≤ m ∧ m < k ∧ w' = (w.setCell ⟨kr, 1, none⟩ (.int .i64 (p + 1))).drewN nq := by
  obtain ⟨c0, c1, c2, hlt, ⟨hn, hc⟩, p0, p1⟩ := h
  rcases Nat.eq_zero_or_pos n with hz | hz
  · subst hz
    clear hc
    go_enter Try.func59, Try.ntmps59
    go_wp2
    go_ret
    exact ⟨0, 0, rfl, by omega, by omega, rfl⟩
  · obtain ⟨b, off, rfl, hne, hb, hcell⟩ := hc.resolve_left (by omega)
    have hn0 : ((n : Int) == 0) = false := by simp; omega
    by_cases hin : p < (n : Int)
    · obtain ⟨cb, z0, z1⟩ := hcell p.toNat (by omega)
      generalize zs.getD p.toNat 0 = z at cb z0 z1
      clear hcell hc
      have hne' : kr ≠ b := fun e => hne e.symm
      go_enter Try.func59, Try.ntmps59
      go_wp2
      go_ret
      exact ⟨z % k, 0, rfl, Int.emod_nonneg _ (by omega), Int.emod_lt_of_pos _ (by omega), rfl⟩
    · have r0 : 0 ≤ p % (n : Int) := Int.emod_nonneg _ (by omega)
      have r1 : p % (n : Int) < (n : Int) := Int.emod_lt_of_pos _ (by omega)
      have s0 : 0 ≤ (p * 7 + 3) % (n : Int) := Int.emod_nonneg _ (by omega)
      have s1 : (p * 7 + 3) % (n : Int) < (n : Int) := Int.emod_lt_of_pos _ (by omega)
      have q0 : 0 ≤ p / (n : Int) := Int.ediv_nonneg p0 (by omega)
      have q1 : p / (n : Int) ≤ 1000000 := Int.le_trans (Int.ediv_le_self _ p0) p1
      obtain ⟨cy, y0, y1⟩ := hcell (p % (n : Int)).toNat (by omega)
      obtain ⟨cz, z0, z1⟩ := hcell ((p * 7 + 3) % (n : Int)).toNat (by omega)
      generalize zs.getD (p % (n : Int)).toNat 0 = y at cy y0 y1
      generalize zs.getD ((p * 7 + 3) % (n : Int)).toNat 0 = z at cz z0 z1
      clear hcell hc
      have hne' : kr ≠ b := fun e => hne e.symm
      have hnp : (0 : Int) < (n : Int) := by omega
      obtain ⟨m, hm, m0, m1⟩ := xor_mix (y * 131 + z * 1117 + p * 29 + p / (n : Int) * 53) (by omega) (by omega)
      go_enter Try.func59, Try.ntmps59
      go_wp2_with fail
      go_quiet (fail)
      go_wp2
      go_ret
      exact ⟨m % k, nq, rfl, Int.emod_nonneg _ (by omega), Int.emod_lt_of_pos _ (by omega), rfl⟩

theorem Rd.step {w : World} {kr : Nat} {a : Option Addr} {n cap : Nat} {zs : List Int} {p : Int} (h : Rd w kr a n cap zs p) (hp : p < 1000000) (nq : Nat) : Rd ((w.setCell ⟨kr, 1, none⟩ (.int .i64 (p + 1))).drewN nq) kr a n cap zs (p + 1) := by
  have he : Ex kr w ((w.setCell ⟨kr, 1, none⟩ (.int .i64 (p + 1))).drewN nq) := ((Ex.refl kr w).set 1 _).drewN nq
  have c0 := h.sl
  have c1 := h.at_
  have c2 := h.open_
  have := h.p0
  exact ⟨by go_simp, by go_simp, by go_simp, Nat.lt_of_lt_of_le h.lt he.size, h.code.keep he, by omega, by omega⟩
theorem pick_rd (kr : Nat) (a : Option Addr) (n cap : Nat) (zs : List Int) (p k : Int) (w : World) (h : Rd w kr a n cap zs p) (hp : p < 1000000) (k0 : 1 ≤ k) (k1 : k ≤ 1000000) :
    Calls Try.prog 59 #[.pointer (some ⟨kr, 0, none⟩), .int .i64 k] w fun e w' => ∃ m : Int, e = .returned (.int .i64 m) ∧ 0 ≤ m ∧ m < k ∧ Rd w' kr a n cap zs (p + 1) ∧ Ex kr w w' := by
  refine (pick_any kr a n cap zs p k w h hp k0 k1).mono ?_
  rintro e w' ⟨m, nq, rfl, m0, m1, rfl⟩
  exact ⟨m, rfl, m0, m1, h.step hp nq, ((Ex.refl kr w).set 1 _).drewN nq⟩
end Go.Proofs.Ytkebokkckmgloaa
/- The reader of a code is opened; a text is made n times. -/
namespace Go.Proofs.Ytkebokkckmgloaa
open Go.RowKit
set_option linter.unusedVariables false

/-- The bytes that came in. -/
def CodeIn (w : World) (a : Option Addr) (n : Nat) (zs : List Int) : Prop :=
  n = 0 ∨ ∃ b off, a = some ⟨b, off, none⟩ ∧ b < w.heap.size ∧ ∀ i, i < n → w.cell? ⟨b, off + i, none⟩ = some (.int .u8 (zs.getD i 0)) ∧ 0 ≤ zs.getD i 0 ∧ zs.getD i 0 ≤ 255

theorem rd_new {w : World} {a : Option Addr} {n cap m : Nat} {zs : List Int} (h : CodeIn w a n zs) (hm : m ≤ n) (hm2 : m ≤ 2000) :
    Rd (w.alloc (.cells #[.slice a m cap, .int .i64 0] 146)) w.heap.size a m cap zs 0 := by
  refine ⟨by simp [go_sem], by simp [go_sem], by simp [go_sem], by simp, ⟨hm2, ?_⟩, by omega, by omega⟩
  rcases h with rfl | ⟨b, off, ha, hb, hc⟩
  · exact Or.inl (by omega)
  · refine Or.inr ⟨b, off, ha, by omega, by simp; omega, fun i hi => ?_⟩
    obtain ⟨h1, h2⟩ := hc i (by omega)
    exact ⟨by rw [World.cell?_alloc_past _ _ _ (by exact hb)]; exact h1, h2⟩

theorem open_any (a : Option Addr) (n cap : Nat) (zs : List Int) (w : World) (h : CodeIn w a n zs) (hn : n ≤ 1048576) (hcap : n ≤ cap) :
    Calls Try.prog 57 #[.slice a n cap] w fun e w' => e = .returned (.pointer (some ⟨w.heap.size, 0, none⟩)) ∧ ∃ m, Rd w' w.heap.size a m cap zs 0 ∧ Below w.heap.size w w' := by
  by_cases h2 : 2000 < n
  · rcases h with hz | ⟨b, off, rfl, hb, hc⟩
    · omega
    have hr := rd_new (w := w) (cap := cap) (m := 2000) (Or.inr ⟨b, off, rfl, hb, hc⟩) (by omega) (by omega)
    have i1 : (2000 : Int) ≤ (cap : Int) := by omega
    have Hr : Hid _ := hr
    clear hr hc
    go_enter Try.func57, Try.ntmps57
    go_wp2
    go_ret
    exact ⟨rfl, 2000, Hr.out, bl_alloc (Below.refl _ _) _⟩
  · have hr := rd_new (w := w) (cap := cap) (m := n) h (by omega) (by omega)
    have Hr : Hid _ := hr
    clear hr h
    go_enter Try.func57, Try.ntmps57
    go_wp2
    go_ret
    exact ⟨rfl, n, Hr.out, bl_alloc (Below.refl _ _) _⟩
end Go.Proofs.Ytkebokkckmgloaa
/- A text is made n times: twenty and twenty-one. -/
namespace Go.Proofs.Ytkebokkckmgloaa
open Go.RowKit
set_option linter.unusedVariables false

set_option maxHeartbeats 1000000 in
theorem many20 (w : World) : Calls Try.prog 175 #[.string ⟨#[110]⟩, .int .i64 20] w fun e w' => ∃ x : ByteArray, e = .returned (.string x) ∧ x.size ≤ maxLen ∧ w' = w := by
  go_enter Try.func175, Try.ntmps175
  go_wp2
  refine wp_loop_rounds 6 ?_
  rw [rounds_succ]
  go_wp2
  rw [rounds_succ]
  go_wp2
  rw [rounds_succ]
  go_wp2
  rw [rounds_succ]
  go_wp2
  rw [rounds_succ]
  go_wp2
  rw [rounds_succ]
  go_wp2
  go_ret
  exact ⟨_, rfl, by unfold maxLen; decide, rfl⟩

set_option maxHeartbeats 1000000 in
theorem many21 (w : World) : Calls Try.prog 175 #[.string ⟨#[110]⟩, .int .i64 21] w fun e w' => ∃ x : ByteArray, e = .returned (.string x) ∧ x.size ≤ maxLen ∧ w' = w := by
  go_enter Try.func175, Try.ntmps175
  go_wp2
  refine wp_loop_rounds 6 ?_
  rw [rounds_succ]
  go_wp2
  rw [rounds_succ]
  go_wp2
  rw [rounds_succ]
  go_wp2
  rw [rounds_succ]
  go_wp2
  rw [rounds_succ]
  go_wp2
  rw [rounds_succ]
  go_wp2
  go_ret
  exact ⟨_, rfl, by unfold maxLen; decide, rfl⟩
end Go.Proofs.Ytkebokkckmgloaa
/- A region by an invariant. -/
namespace Go.Proofs.Ytkebokkckmgloaa
open Go.RowKit
section
variable {P : Program} {ops : Array Oper} {Q : Exit → Act → World → Prop} {md : Region.Mode}

/-- How many have not come up. -/
def openOf (listed : Array Bool) : Nat := listed.toList.countP (fun b => !b)

theorem openOf_set {listed : Array Bool} {i : Nat} (h : listed.getD i true = false) : openOf (listed.setIfInBounds i true) + 1 = openOf listed := by
  obtain ⟨l⟩ := listed
  simp only [openOf, List.setIfInBounds_toArray]
  have : l[i]? = some false := by
    simp only [Array.getD] at h
    split at h
    · rename_i hlt; simp at h hlt; rw [List.getElem?_eq_getElem hlt, h]
    · cases h
  clear h
  induction l generalizing i with
  | nil => simp at this
  | cons x l ih =>
    cases i with
    | zero => simp at this; subst this; simp
    | succ i =>
      simp at this
      have := ih this
      simp only [List.set_cons_succ, List.countP_cons]
      omega

theorem ready_open {listed : Array Bool} {i : Nat} (h : i ∈ Region.ready md ops listed) : listed.getD i true = false := by
  simp only [Region.ready, List.mem_filter, Bool.and_eq_true, Bool.not_eq_true'] at h
  exact h.2.1

theorem openOf_pos {listed : Array Bool} {i : Nat} (h : listed.getD i true = false) : 0 < openOf listed := by
  have := openOf_set h; omega

/-- A region by an invariant. -/
theorem wpAny_inv (I : Array Bool → Act → World → Prop)
    (step : ∀ listed a w i, I listed a w → i ∈ Region.ready md ops listed → wpOp P ops Q i (I (listed.setIfInBounds i true)) a w)
    (done : ∀ listed a w, I listed a w → Region.ready md ops listed = [] → Q .normal a w) :
    ∀ fuel listed a w, openOf listed ≤ fuel → I listed a w → wpAny P md ops Q fuel listed a w := by
  intro fuel
  induction fuel with
  | zero =>
    intro listed a w hf hI
    have hr : Region.ready md ops listed = [] := by
      cases h : Region.ready md ops listed with
      | nil => rfl
      | cons i rs =>
        have hi : i ∈ Region.ready md ops listed := by rw [h]; exact List.mem_cons_self ..
        have := openOf_pos (ready_open hi)
        omega
    exact ⟨hr, done _ _ _ hI hr⟩
  | succ fuel ih =>
    intro listed a w hf hI
    refine ⟨done _ _ _ hI, fun i hi => wpOp_mono (fun a' w' h => ih _ a' w' ?_ h) (step _ _ _ i hI hi)⟩
    have := openOf_set (ready_open hi)
    omega

def depsOk (ops : Array Oper) : Bool := (List.range ops.size).all fun i => match ops[i]? with | some o => o.after.toList.all (fun e => decide (e.on < i)) | none => true
theorem all_listed {listed : Array Bool} (hd : depsOk ops = true) (hr : Region.ready md ops listed = []) (hz : listed.size = ops.size) : ∀ i, i < ops.size → listed.getD i false = true := by
  intro i
  induction i using Nat.strongRecOn with
  | ind i ih =>
    intro hi
    have hl : listed.getD i false = listed[i]'(by omega) := by simp [Array.getD, show i < listed.size from by omega]
    have hl' : listed.getD i true = listed[i]'(by omega) := by simp [Array.getD, show i < listed.size from by omega]
    cases hb : listed[i]'(by omega) with
    | true => rw [hl, hb]
    | false =>
      exfalso
      have hmem : i ∈ Region.ready md ops listed := by
        simp only [Region.ready, List.mem_filter, List.mem_range, hi, true_and, hl', hb, Bool.not_false, Bool.true_and]
        have ho : ops[i]? = some ops[i] := Array.getElem?_eq_getElem hi
        rw [ho]
        simp only [Option.map_some, Option.getD_some]
        have h1 := List.all_eq_true.1 hd i (List.mem_range.2 hi)
        rw [ho] at h1
        simp only at h1
        rw [← Array.all_toList]
        refine List.all_eq_true.2 fun e he => ?_
        have h2 := of_decide_eq_true (List.all_eq_true.1 h1 e he)
        rw [ih e.on h2 (by omega)]
        simp
      rw [hr] at hmem
      cases hmem
theorem dep_listed {listed : Array Bool} {i j : Nat} {o : Oper} (hi : i ∈ Region.ready md ops listed) (ho : ops[i]? = some o) (he : o.after.toList.any (fun e => Region.binds md e && e.on == j) = true) : listed.getD j false = true := by
  have h := (List.mem_filter.1 hi).2
  rw [ho] at h
  simp only [Option.map_some, Option.getD_some, Bool.and_eq_true] at h
  obtain ⟨e, hm, hb⟩ := List.any_eq_true.1 he
  simp only [Bool.and_eq_true, beq_iff_eq] at hb
  have h2 := h.2
  rw [← Array.all_toList] at h2
  have h3 := List.all_eq_true.1 h2 e hm
  rw [hb.1, hb.2] at h3
  simpa using h3
end
end Go.Proofs.Ytkebokkckmgloaa
/- A want is drawn. -/
namespace Go.Proofs.Ytkebokkckmgloaa
open Go.RowKit
set_option linter.unusedVariables false

/-- A slice of n cells of the call's own, each as P says. -/
def Lst (P : Value → Prop) (B rb m : Nat) (w : World) (v : Value) : Prop := ∃ g, v = .slice (some ⟨g, 0, none⟩) m m ∧ B ≤ g ∧ g ≠ rb ∧ g < w.heap.size ∧ ∀ j, j < m → ∃ u, w.cell? ⟨g, j, none⟩ = some u ∧ P u
def Cell (P : Value → Prop) (B rb : Nat) (w : World) (v : Value) : Prop := ∃ g j u, v = .pointer (some ⟨g, j, none⟩) ∧ B ≤ g ∧ g ≠ rb ∧ g < w.heap.size ∧ w.cell? ⟨g, j, none⟩ = some u ∧ P u
def Num (lo hi : Int) (v : Value) : Prop := ∃ x, v = .int .i64 x ∧ lo ≤ x ∧ x ≤ hi
def Txt (v : Value) : Prop := ∃ s : ByteArray, v = .string s ∧ s.size ≤ 20
theorem Lst.keep {P : Value → Prop} {B rb m kr : Nat} {w w' : World} {v : Value} (h : Lst P B rb m w v) (he : Ex kr w w') (hk : kr < B) : Lst P B rb m w' v := by
  obtain ⟨g, rfl, h1, h2, h3, h4⟩ := h
  exact ⟨g, rfl, h1, h2, Nat.lt_of_lt_of_le h3 he.size, fun j hj => by rw [he.cell (p := ⟨g, j, none⟩) h3 (by show g ≠ kr; omega)]; exact h4 j hj⟩
theorem Cell.keep {P : Value → Prop} {B rb kr : Nat} {w w' : World} {v : Value} (h : Cell P B rb w v) (he : Ex kr w w') (hk : kr < B) : Cell P B rb w' v := by
  obtain ⟨g, j, u, rfl, h1, h2, h3, h4, h5⟩ := h
  exact ⟨g, j, u, rfl, h1, h2, Nat.lt_of_lt_of_le h3 he.size, by rw [he.cell (p := ⟨g, j, none⟩) h3 (by show g ≠ kr; omega)]; exact h4, h5⟩

theorem Rd.below {w w' : World} {kr : Nat} {a : Option Addr} {n cap : Nat} {zs : List Int} {p : Int} (h : Rd w kr a n cap zs p) (hb : Below w.heap.size w w') : Rd w' kr a n cap zs p :=
  ⟨(hb.cell (p := ⟨kr, 0, none⟩) h.lt).trans h.sl, (hb.cell (p := ⟨kr, 1, none⟩) h.lt).trans h.at_, (hb.frozen (p := ⟨kr, 1, none⟩) h.lt).trans h.open_, Nat.lt_of_lt_of_le h.lt hb.size, h.code.keep (Ex.of_below hb), h.p0, h.p1⟩
theorem Rd.other {W w w' : World} {kr rb : Nat} {a : Option Addr} {n cap : Nat} {zs : List Int} {p q : Int} (h0 : Rd W kr a n cap zs q) (h : Rd w kr a n cap zs p) (he : Ex rb w w') (hk : kr ≠ rb) (hW : Ex kr W w') : Rd w' kr a n cap zs p :=
  ⟨(he.cell (p := ⟨kr, 0, none⟩) h.lt hk).trans h.sl, (he.cell (p := ⟨kr, 1, none⟩) h.lt hk).trans h.at_, (he.frozen (p := ⟨kr, 1, none⟩) h.lt hk).trans h.open_, Nat.lt_of_lt_of_le h.lt he.size, h0.code.keep hW, h.p0, h.p1⟩
theorem Ex.other {kr rb : Nat} {W w w' : World} (h : Ex kr W w) (he : Ex rb w w') (hrb : W.heap.size ≤ rb) : Ex kr W w' :=
  ⟨he.os.trans h.os, he.tape.trans h.tape, he.output.trans h.output, Nat.le_trans h.size he.size, fun k hk hne => (he.block k (Nat.lt_of_lt_of_le hk h.size) (by omega)).trans (h.block k hk hne)⟩
theorem Lst.res {P : Value → Prop} {B rb m : Nat} {w w' : World} {v : Value} (h : Lst P B rb m w v) (he : Ex rb w w') : Lst P B rb m w' v := by
  obtain ⟨g, rfl, h1, h2, h3, h4⟩ := h
  exact ⟨g, rfl, h1, h2, Nat.lt_of_lt_of_le h3 he.size, fun j hj => by rw [he.cell (p := ⟨g, j, none⟩) h3 h2]; exact h4 j hj⟩
theorem Cell.res {P : Value → Prop} {B rb : Nat} {w w' : World} {v : Value} (h : Cell P B rb w v) (he : Ex rb w w') : Cell P B rb w' v := by
  obtain ⟨g, j, u, rfl, h1, h2, h3, h4, h5⟩ := h
  exact ⟨g, j, u, rfl, h1, h2, Nat.lt_of_lt_of_le h3 he.size, by rw [he.cell (p := ⟨g, j, none⟩) h3 h2]; exact h4, h5⟩

section
variable (kr rb : Nat) (W : World) (c : ByteArray) (a0 : Option Addr) (n cap : Nat) (zs : List Int) (p0 : Int)
/-- What the operation at place i leaves. -/
def Good (w : World) (i : Nat) (v : Value) : Prop :=
  match i with
  | 0 => v = .string c
  | 1 | 5 | 9 | 11 | 14 | 18 => v = .pointer (some ⟨kr, 0, none⟩)
  | 2 | 12 => Num 0 2 v
  | 3 => Num 1 3 v
  | 6 | 10 | 19 => Num 0 3 v
  | 15 => Num 0 5 v
  | 4 => Lst Txt W.heap.size rb 4 w v
  | 7 => Cell Txt W.heap.size rb w v
  | 8 => Txt v
  | 13 => Lst (Num 0 8) W.heap.size rb 6 w v
  | 16 => Cell (Num 0 8) W.heap.size rb w v
  | 17 => Num 0 8 v
  | 20 => ∃ (h : ByteArray) (v1 p s d g : Int), v = .agg #[.string c, .int .i64 v1, .string h, .int .i64 p, .int .i64 s, .int .i64 d, .int .i64 g] ∧ h.size ≤ 20 ∧ (0 ≤ v1 ∧ v1 ≤ 100) ∧ (0 ≤ p ∧ p ≤ 100) ∧ (0 ≤ s ∧ s ≤ 100) ∧ (0 ≤ d ∧ d ≤ 100) ∧ (0 ≤ g ∧ g ≤ 100)
  | _ => True
theorem Good.keep {w w' : World} {i : Nat} {v : Value} (h : Good kr rb W c w i v) (he : Ex kr w w') (hk : kr < W.heap.size) : Good kr rb W c w' i v := by
  by_cases e4 : i = 4
  · subst e4; exact Lst.keep (P := Txt) h he hk
  by_cases e7 : i = 7
  · subst e7; exact Cell.keep (P := Txt) h he hk
  by_cases e13 : i = 13
  · subst e13; exact Lst.keep (P := Num 0 8) h he hk
  by_cases e16 : i = 16
  · subst e16; exact Cell.keep (P := Num 0 8) h he hk
  have e : Good kr rb W c w i v = Good kr rb W c w' i v := by
    unfold Good
    split <;> first | rfl | (exfalso; omega)
  rw [← e]; exact h
theorem Good.res {w w' : World} {i : Nat} {v : Value} (h : Good kr rb W c w i v) (he : Ex rb w w') : Good kr rb W c w' i v := by
  by_cases e4 : i = 4
  · subst e4; exact Lst.res (P := Txt) h he
  by_cases e7 : i = 7
  · subst e7; exact Cell.res (P := Txt) h he
  by_cases e13 : i = 13
  · subst e13; exact Lst.res (P := Num 0 8) h he
  by_cases e16 : i = 16
  · subst e16; exact Cell.res (P := Num 0 8) h he
  have e : Good kr rb W c w i v = Good kr rb W c w' i v := by
    unfold Good
    split <;> first | rfl | (exfalso; omega)
  rw [← e]; exact h
/-- The world while the operations go on. -/
structure Wd (left : Nat) (w : World) : Prop where
  rd : ∃ p, Rd w kr a0 n cap zs p ∧ p + (left : Int) ≤ p0 + 22
  ex : Ex kr W w
  lt : rb < w.heap.size
  th : w.there rb 0 7
/-- What the result's block holds in the end. -/
def Fin (w : World) : Prop := ∃ (h : ByteArray) (v1 p s d g : Int), w.rangeAt rb 0 [.string c, .int .i64 v1, .string h, .int .i64 p, .int .i64 s, .int .i64 d, .int .i64 g] ∧ h.size ≤ 20 ∧ (0 ≤ v1 ∧ v1 ≤ 100) ∧ (0 ≤ p ∧ p ≤ 100) ∧ (0 ≤ s ∧ s ≤ 100) ∧ (0 ≤ d ∧ d ≤ 100) ∧ (0 ≤ g ∧ g ≤ 100)
structure Iw (listed : Array Bool) (a : Act) (w : World) : Prop where
  df : a.defers = []
  sz : a.tmps.size = 26
  s0 : a.tmps.getD 0 undef = .pointer (some ⟨kr, 0, none⟩)
  s1 : a.tmps.getD 1 undef = .string c
  s4 : a.tmps.getD 4 undef = .pointer (some ⟨rb, 0, none⟩)
  good : ∀ i, i < 21 → listed.getD i false = true → Good kr rb W c w i (a.tmps.getD (5 + i) undef)
  wd : Wd kr rb W a0 n cap zs p0 (openOf listed) w
  lz : listed.size = 22
  fin : listed.getD 21 false = true → Fin rb c w

theorem Iw.put {listed : Array Bool} {a : Act} {w w' : World} {i : Nat} {v : Value} (h : Iw kr rb W c a0 n cap zs p0 listed a w) (hi : i < 21) (ho : listed.getD i true = false) (hk : kr < W.heap.size) (hkr : kr ≠ rb)
    (hg : Good kr rb W c w' i v) (he : Ex kr w w') (hr : ∃ p, Rd w' kr a0 n cap zs p ∧ p + (openOf (listed.setIfInBounds i true) : Int) ≤ p0 + 22) :
    Iw kr rb W c a0 n cap zs p0 (listed.setIfInBounds i true) (a.put (some (5 + i)) v) w' := by
  have hsz : i < a.tmps.size := by rw [h.sz]; omega
  refine ⟨h.df, ?_, ?_, ?_, ?_, ?_, ⟨hr, h.wd.ex.trans he, Nat.lt_of_lt_of_le h.wd.lt he.size, there_ex h.wd.th h.wd.lt he (fun e => hkr e.symm)⟩, by simp [h.lz], ?_⟩
  · simp [Act.put, h.sz]
  · have := h.s0; simp only [Act.put, Array.getD_eq_getD_getElem?] at this ⊢; rw [Array.getElem?_setIfInBounds_ne (by omega)]; exact this
  · have := h.s1; simp only [Act.put, Array.getD_eq_getD_getElem?] at this ⊢; rw [Array.getElem?_setIfInBounds_ne (by omega)]; exact this
  · have := h.s4; simp only [Act.put, Array.getD_eq_getD_getElem?] at this ⊢; rw [Array.getElem?_setIfInBounds_ne (by omega)]; exact this
  · intro j hj hl
    by_cases e : j = i
    · subst e
      simp only [Act.put, Array.getD_eq_getD_getElem?]
      rw [Array.getElem?_setIfInBounds_self_of_lt (by rw [h.sz]; omega)]
      exact hg
    · have h1 := h.good j hj (by
        simp only [Array.getD_eq_getD_getElem?] at hl ⊢
        rwa [Array.getElem?_setIfInBounds_ne (fun x => e x.symm)] at hl)
      have h2 := h1.keep kr rb W c he hk
      simp only [Act.put, Array.getD_eq_getD_getElem?] at h2 ⊢
      rw [Array.getElem?_setIfInBounds_ne (by omega)]
      exact h2
  · intro hl
    have h1 := h.fin (by
      simp only [Array.getD_eq_getD_getElem?] at hl ⊢
      rwa [Array.getElem?_setIfInBounds_ne (by omega)] at hl)
    obtain ⟨hh, v1, p, s, d, g, hr, hb⟩ := h1
    exact ⟨hh, v1, p, s, d, g, fun j u hj => (he.cell (p := ⟨rb, 0 + j, none⟩) h.wd.lt (fun e => hkr e.symm)).trans (hr j u hj), hb⟩

theorem Iw.last {listed : Array Bool} {a : Act} {w : World} {u : Value} {vs : List Value} {q : Int} (h : Iw kr rb W c a0 n cap zs p0 listed a w) (ho : listed.getD 21 true = false) (hrb : W.heap.size ≤ rb) (hkr : kr ≠ rb) (h0 : Rd W kr a0 n cap zs q)
    (hf : Fin rb c (w.setCells rb 0 vs)) : Iw kr rb W c a0 n cap zs p0 (listed.setIfInBounds 21 true) (a.put none u) (w.setCells rb 0 vs) := by
  have he : Ex rb w (w.setCells rb 0 vs) := (Ex.refl rb w).cells vs 0
  have hW : Ex kr W (w.setCells rb 0 vs) := h.wd.ex.other he hrb
  obtain ⟨p, hr, hp⟩ := h.wd.rd
  have hop := openOf_set ho
  refine ⟨h.df, h.sz, h.s0, h.s1, h.s4, fun i hi hl => ?_, ⟨⟨p, h0.other hr he hkr hW, by omega⟩, hW, Nat.lt_of_lt_of_le h.wd.lt he.size, World.there_setCells h.wd.th _ _ _⟩, by simp [h.lz], fun _ => hf⟩
  refine Good.res kr rb W c (h.good i hi ?_) he
  simp only [Array.getD_eq_getD_getElem?] at hl ⊢
  rwa [Array.getElem?_setIfInBounds_ne (by omega)] at hl
end
end Go.Proofs.Ytkebokkckmgloaa
