/- FnStops: the walk, over what DrawMateLive is said to give. -/
import Derived.Test.YtmfcnckhgeggkaaStops
import Derived.Deep.MidRow
import Derived.Deep.DeepCutAuto
namespace Go.Proofs.Ytmfcnckhgeggkaa
open Go.RowKit
set_option linter.unusedVariables false

def small (n : Int) : Prop := -2000000 ≤ n ∧ n ≤ 2000000
theorem stay {x y : World} {k : Nat} {r : Array Value} (h : ∀ o, x.cell? ⟨k, o, none⟩ = r[o]?) (hk : k < x.heap.size) (hb : Below x.heap.size x y) : ∀ o, y.cell? ⟨k, o, none⟩ = r[o]? := fun o => (hb.cell (p := ⟨k, o, none⟩) hk).trans (h o)
theorem two_boxes (w : World) (r1 r2 : Array Value) (t1 t2 : TypeId) : (∀ k, ((w.alloc (.cells r1 t1)).alloc (.cells r2 t2)).cell? ⟨w.heap.size, k, none⟩ = r1[k]?) ∧ (∀ k, ((w.alloc (.cells r1 t1)).alloc (.cells r2 t2)).cell? ⟨w.heap.size + 1, k, none⟩ = r2[k]?) := by
  constructor <;> intro k <;> simp [go_sem, World.cell?_alloc_past]
theorem old_box (w : World) (o : Obj) (k : Nat) (r : Array Value) (h : ∀ j, w.cell? ⟨k, j, none⟩ = r[j]?) (hk : k < w.heap.size) : ∀ j, (w.alloc o).cell? ⟨k, j, none⟩ = r[j]? := fun j => by
  rw [World.cell?_alloc_past _ _ _ hk]; exact h j

theorem newT {X w' : World} {z : Array Value} {t : TypeId} (hb : Below (X.alloc (.cells z t)).heap.size (X.alloc (.cells z t)) w') (hz : z.size = 11) : w'.there X.heap.size 0 11 := fun j hj =>
  ⟨by rw [hb.cell (p := ⟨X.heap.size, 0 + j, none⟩) (by simp)]; simp [go_sem]; omega, by rw [hb.frozen (p := ⟨X.heap.size, 0 + j, none⟩) (by simp)]; simp [go_sem]⟩
theorem keepT {x y : World} {k o n : Nat} (h : x.there k o n) (hk : k < x.heap.size) (hb : Below x.heap.size x y) : y.there k o n :=
  fun j hj => ⟨by rw [hb.cell (p := ⟨k, o + j, none⟩) hk]; exact (h j hj).1, by rw [hb.frozen (p := ⟨k, o + j, none⟩) hk]; exact (h j hj).2⟩
theorem keepG {x y : World} {k : Nat} {vs : List Value} (h : x.rangeAt k 0 vs) (hk : k < x.heap.size) (hb : Below x.heap.size x y) : y.rangeAt k 0 vs :=
  fun j v hj => (hb.cell (p := ⟨k, 0 + j, none⟩) hk).trans (h j v hj)
theorem rangeOf {w : World} {k : Nat} {vs : List Value} (h : ∀ o, w.cell? ⟨k, o, none⟩ = vs.toArray[o]?) : w.rangeAt k 0 vs := fun j v hj => by
  rw [Nat.zero_add, h j]; simpa using hj
theorem setsB {A : World} {k : Nat} (hk : A.heap.size ≤ k) : ∀ (vs : List Value) (o : Nat) (w' : World), Below A.heap.size A w' → Below A.heap.size A (w'.setCells k o vs)
  | [], _, _, h => h
  | v :: r, o, w', h => setsB hk r (o + 1) _ (bl_set h (by exact hk) v)
theorem setsZ {k : Nat} : ∀ (vs : List Value) (o : Nat) (w' : World), (w'.setCells k o vs).heap.size = w'.heap.size
  | [], _, _ => rfl
  | v :: r, o, w' => (setsZ r (o + 1) _).trans (by simp [World.setCell])
theorem cells11 {wx : World} {k : Nat} {v0 v1 v2 v3 v4 v5 v6 v7 v8 v9 v10 : Value} (h : wx.rangeAt k 0 [v0, v1, v2, v3, v4, v5, v6, v7, v8, v9, v10]) : wx.cell? ⟨k, 0, none⟩ = some v0 ∧ wx.cell? ⟨k, 1, none⟩ = some v1 ∧ wx.cell? ⟨k, 2, none⟩ = some v2 ∧ wx.cell? ⟨k, 3, none⟩ = some v3 ∧ wx.cell? ⟨k, 4, none⟩ = some v4 ∧ wx.cell? ⟨k, 5, none⟩ = some v5 ∧ wx.cell? ⟨k, 6, none⟩ = some v6 ∧ wx.cell? ⟨k, 7, none⟩ = some v7 ∧ wx.cell? ⟨k, 8, none⟩ = some v8 ∧ wx.cell? ⟨k, 9, none⟩ = some v9 ∧ wx.cell? ⟨k, 10, none⟩ = some v10 :=
  ⟨by simpa using h 0 _ rfl, by simpa using h 1 _ rfl, by simpa using h 2 _ rfl, by simpa using h 3 _ rfl, by simpa using h 4 _ rfl, by simpa using h 5 _ rfl, by simpa using h 6 _ rfl, by simpa using h 7 _ rfl, by simpa using h 8 _ rfl, by simpa using h 9 _ rfl, by simpa using h 10 _ rfl⟩

theorem live_open (c h c2 h2 : ByteArray) (v p s d g a b i u v2 p2 s2 d2 g2 clock : Int) (wanted : Bool) (hbb : b ≤ 9223372036854775807) (hii : -9223372036854775808 ≤ i) :
    ∃ (x0 x2 : ByteArray) (x1 x3 x4 x5 x6 x7 x8 x9 x10 : Int) (q : Bool), (∀ w, Calls Try.prog 20 #[.agg #[.string c, .int .i64 v, .string h, .int .i64 p, .int .i64 s, .int .i64 d, .int .i64 g, .int .i64 a, .int .i64 b, .int .i64 i, .int .i64 u], .agg #[.string c2, .int .i64 v2, .string h2, .int .i64 p2, .int .i64 s2, .int .i64 d2, .int .i64 g2], .bool wanted, .int .i64 clock] w fun e w' => e = .returned (.tuple #[.agg #[.string x0, .int .i64 x1, .string x2, .int .i64 x3, .int .i64 x4, .int .i64 x5, .int .i64 x6, .int .i64 x7, .int .i64 x8, .int .i64 x9, .int .i64 x10], .bool q]) ∧ Below w.heap.size w w') ∧ (∀ w, Calls Try.prog 19 #[.agg #[.string c, .int .i64 v, .string h, .int .i64 p, .int .i64 s, .int .i64 d, .int .i64 g, .int .i64 a, .int .i64 b, .int .i64 i, .int .i64 u], .agg #[.string c2, .int .i64 v2, .string h2, .int .i64 p2, .int .i64 s2, .int .i64 d2, .int .i64 g2], .bool wanted, .int .i64 clock] w fun e w' => e = .returned (.tuple #[.agg #[.string x0, .int .i64 x1, .string x2, .int .i64 x3, .int .i64 x4, .int .i64 x5, .int .i64 x6, .int .i64 x7, .int .i64 x8, .int .i64 x9, .int .i64 x10], .bool q]) ∧ Below w.heap.size w w') := by
  have hS := fun w => specLive_any c h c2 h2 v p s d g a b i u v2 p2 s2 d2 g2 clock wanted w hbb hii
  have hI := fun w => implLive_any c h c2 h2 v p s d g a b i u v2 p2 s2 d2 g2 clock wanted w hbb hii
  cases hr : liveR h s d g a b i u clock (wanted && sameW c h c2 h2 v p s d g v2 p2 s2 d2 g2) with
  | none =>
    rw [hr] at hS hI
    exact ⟨⟨#[]⟩, ⟨#[]⟩, 0, 0, 0, 0, 0, 0, 0, 0, 0, false, hS, hI⟩
  | some r =>
    obtain ⟨a', b', i'⟩ := r
    rw [hr] at hS hI
    exact ⟨c, h, v, p, s, d, g, a', b', i', u, true, hS, hI⟩

set_option maxRecDepth 4000 in
set_option maxHeartbeats 4000000 in
theorem stops_head (sl : Option Addr) (n cap : Nat) (w : World) (hn : n ≤ 1048576)
    (hD : Calls Try.prog 18 #[.slice sl n cap] w fun e w' => ∃ (c h c2 h2 : ByteArray) (v p s d g a b i u v2 p2 s2 d2 g2 clock : Int) (wanted : Bool), e = .returned (.tuple #[.agg #[.string c, .int .i64 v, .string h, .int .i64 p, .int .i64 s, .int .i64 d, .int .i64 g, .int .i64 a, .int .i64 b, .int .i64 i, .int .i64 u], .agg #[.string c2, .int .i64 v2, .string h2, .int .i64 p2, .int .i64 s2, .int .i64 d2, .int .i64 g2], .bool wanted, .int .i64 clock]) ∧ b ≤ 2000000 ∧ small i ∧ small clock ∧ Below w.heap.size w w') :
    Calls Try.prog 4 #[.slice sl n cap] w fun e w' => e = .returned (.bool true) ∧ Below w.heap.size w w' := by
  have HD : Hid _ := hD
  clear hD
  go_enter Try.func4, Try.ntmps4
  go_wp2_with fail
  refine Calls.mono HD.out ?_
  rintro e w1 ⟨c, h, c2, h2, v, p, s, d, g, a, b, i, u, v2, p2, s2, d2, g2, clock, wanted, rfl, hbs, hi, ⟨hc0, hc1⟩, b1⟩
  obtain ⟨x0, x2, x1, x3, x4, x5, x6, x7, x8, x9, x10, q, hS, hI⟩ := live_open c h c2 h2 v p s d g a b i u v2 p2 s2 d2 g2 clock wanted (by omega) (by have := hi.1; omega)
  have HS : Hid _ := hS
  have HI : Hid _ := hI
  clear hS hI HD
  have hnr := neq_run x0 x2 x1 x3 x4 x5 x6 x7 x8 x9 x10
  go_wp2_with fail
  refine (HI.out _).mono ?_
  rintro e w2 ⟨rfl, b2⟩
  obtain ⟨r1, s1⟩ := two_boxes w1 #[.string c, .int .i64 v, .string h, .int .i64 p, .int .i64 s, .int .i64 d, .int .i64 g, .int .i64 a, .int .i64 b, .int .i64 i, .int .i64 u] #[.string c2, .int .i64 v2, .string h2, .int .i64 p2, .int .i64 s2, .int .i64 d2, .int .i64 g2] 38 36
  have r2 := stay r1 (by simp; omega) b2
  have s2' := stay s1 (by simp) b2
  have z2 : w1.heap.size + 1 < w2.heap.size := by have := b2.size; simp at this; omega
  have z2' : w1.heap.size < w2.heap.size := by omega
  have B2 := bl_trans b1 (bl_trans (bl_alloc (bl_alloc (Below.refl _ _) _) _) b2)
  clear b1 b2 r1 s1
  go_wp2_with fail
  refine (HS.out _).mono ?_
  rintro e w3 ⟨rfl, b3⟩
  have r3 := stay (old_box w2 (.cells #[.string x0, .int .i64 x1, .string x2, .int .i64 x3, .int .i64 x4, .int .i64 x5, .int .i64 x6, .int .i64 x7, .int .i64 x8, .int .i64 x9, .int .i64 x10] 38) _ _ r2 z2') (by simp; omega) b3
  have x3' := box_keep b3
  have t3 := newT b3 rfl
  have z3 : w2.heap.size < w3.heap.size := by have := b3.size; simp at this; omega
  have z3' : w1.heap.size < w3.heap.size := by omega
  have B3 := bl_trans B2 (bl_trans (bl_alloc (Below.refl _ _) _) b3)
  have lo : w.heap.size ≤ w2.heap.size := B2.size
  clear r2 s2' z2 B2 b3 HS HI
  by_cases e1 : a < 1
  · go_wp2
    go_ret
    exact ⟨rfl, bl_alloc B3 _⟩
  by_cases e2 : 6 < a
  · go_wp2
    go_ret
    exact ⟨rfl, bl_alloc B3 _⟩
  by_cases e3 : g < 0
  · go_wp2
    go_ret
    exact ⟨rfl, bl_alloc B3 _⟩
  by_cases e4 : 100 < g
  · go_wp2
    go_ret
    exact ⟨rfl, bl_alloc B3 _⟩
  have hpart : (g < b ∧ (a == 6) = true) ∨ (g < b ∧ (a == 6) = false) ∨ b ≤ g := by
    by_cases h' : b ≤ g
    · exact Or.inr (Or.inr h')
    · cases h6 : (a == 6)
      · exact Or.inr (Or.inl ⟨by omega, rfl⟩)
      · exact Or.inl ⟨by omega, rfl⟩
  rcases hpart with ⟨f1, f2⟩ | hcon
  · go_wp2
    go_ret
    exact ⟨rfl, bl_alloc B3 _⟩
  have hb6 : Hid (a = 6 → b ≤ g) := fun h6 => by
    rcases hcon with ⟨f1, f2⟩ | f1
    · rw [h6] at f2; cases f2
    · exact f1
  have hinfo : (Try.prog.info? 38).map (·.size) = some 11 := by kernel_rfl
  rcases hcon with ⟨f1, f2⟩ | f1
  · skip
    go_wp2_with (refine wpList_store_mid (by rfl) 38 _ _ (by rfl) w2.heap.size 0 #[.string c, .int .i64 v, .string h, .int .i64 p, .int .i64 s, .int .i64 d, .int .i64 g, .int .i64 a, .int .i64 b, .int .i64 i, .int .i64 u] (by rfl) (by rfl) (by exact World.there_alloc t3 _) hinfo (by simp [Value.oneCell']) ?_)
    go_loopw [8, 11] (fun th j wx => ∃ (k : Nat) (x y : Int), (k : Int) ≤ g + 2 ∧ j = .int .i64 k ∧ Hid (Ticks g a b k x y) ∧ y ≤ 2000000 ∧ Hid (wx.rangeAt w1.heap.size 0 [.string c, .int .i64 v, .string h, .int .i64 p, .int .i64 s, .int .i64 d, .int .i64 g, .int .i64 a, .int .i64 b, .int .i64 i, .int .i64 u]) ∧ Hid (wx.rangeAt w2.heap.size 0 [.string c, .int .i64 v, .string h, .int .i64 p, .int .i64 s, .int .i64 d, .int .i64 g, .int .i64 x, .int .i64 y, .int .i64 i, .int .i64 u]) ∧ Hid (wx.there w2.heap.size 0 11) ∧ w1.heap.size < wx.heap.size ∧ w2.heap.size < wx.heap.size ∧ Below w.heap.size w wx) (fun _ j _ => (g + 2 - intOf j).toNat)
    case atStart =>
      refine ⟨0, a, b, by omega, rfl, Or.inl ⟨rfl, rfl, rfl⟩, hbs, ?_, ?_, ?_, ?_, ?_, ?_⟩
      · exact World.rangeAt_setCells_apart (World.rangeAt_alloc (rangeOf r3) _) _ _ _ (Or.inl (by omega))
      · exact World.rangeAt_setCells_same _ _ _ _ (World.there_alloc t3 _)
      · exact World.there_setCells (World.there_alloc t3 _) _ _ _
      · rw [setsZ]; simp; omega
      · rw [setsZ]; simp; omega
      · exact setsB lo _ _ _ (bl_alloc B3 _)
    case round =>
      obtain ⟨k, x, y, hk, rfl, Ht, hy, Gr, Gx, Tx, y1, y2, hB⟩ := hrel
      by_cases hlt : (k : Int) < g + 2
      · obtain ⟨a0, a1, a2, a3, a4, a5, a6, a7, a8, a9, a10⟩ := cells11 Gr.out
        obtain ⟨b0, b1, b2, b3, b4, b5, b6, b7, b8, b9, b10⟩ := cells11 Gx.out
        have hcall := fun W => implLive_any c h ⟨#[]⟩ ⟨#[]⟩ v p s d g x y i u 0 0 0 0 0 (clock + k) false W (by omega) (by have := hi.1; omega)
        simp only [Bool.false_and] at hcall
        rcases ticks_step (h := h) (s := s) (d := d) (i := i) (u := u) (clock := clock + k) (f := i) ⟨by omega, by omega⟩ hb6.out Ht.out with hl | ⟨y', hl, Ht'⟩
        · rw [hl] at hcall
          simp only [liveV] at hcall
          have Hc : Hid _ := hcall
          clear hcall hl
          go_wp2_with fail
          refine (Hc.out _).mono ?_
          rintro e w5 ⟨rfl, k5⟩
          have T5 := keepT Tx.out y2 k5
          have B5 := bl_trans hB k5
          clear a0 a1 a2 a3 a4 a5 a6 a7 a8 a9 a10 b0 b1 b2 b3 b4 b5 b6 b7 b8 b9 b10
          obtain ⟨d0, d1, d2, d3, d4, d5, d6, d7, d8, d9, d10⟩ := cells11 (World.rangeAt_setCells_same w5 w2.heap.size 0 [.string ⟨#[]⟩, .int .i64 0, .string ⟨#[]⟩, .int .i64 0, .int .i64 0, .int .i64 0, .int .i64 0, .int .i64 0, .int .i64 0, .int .i64 0, .int .i64 0] T5)
          have her := eql_run ⟨#[]⟩ ⟨#[]⟩ 0 0 0 0 0 0 0 0 0
          go_wp2_with (refine wpList_store_mid (by rfl) 38 _ _ (by rfl) w2.heap.size 0 #[.string ⟨#[]⟩, .int .i64 0, .string ⟨#[]⟩, .int .i64 0, .int .i64 0, .int .i64 0, .int .i64 0, .int .i64 0, .int .i64 0, .int .i64 0, .int .i64 0] (by rfl) (by rfl) (by exact T5) hinfo (by simp [Value.oneCell']) ?_)
          go_ret
          exact ⟨rfl, setsB lo _ _ _ B5⟩
        · rw [hl] at hcall
          simp only [liveV] at hcall
          have Hc : Hid _ := hcall
          clear hcall hl
          go_wp2_with fail
          refine (Hc.out _).mono ?_
          rintro e w5 ⟨rfl, k5⟩
          have T5 := keepT Tx.out y2 k5
          have B5 := bl_trans hB k5
          have Gr6 := World.rangeAt_setCells_apart (keepG Gr.out y1 k5) w2.heap.size 0 [.string c, .int .i64 v, .string h, .int .i64 p, .int .i64 s, .int .i64 d, .int .i64 g, .int .i64 6, .int .i64 y', .int .i64 i, .int .i64 u] (Or.inl (by omega))
          have Gx6 := World.rangeAt_setCells_same w5 w2.heap.size 0 [.string c, .int .i64 v, .string h, .int .i64 p, .int .i64 s, .int .i64 d, .int .i64 g, .int .i64 6, .int .i64 y', .int .i64 i, .int .i64 u] T5
          have y1' : w1.heap.size < w5.heap.size := Nat.lt_of_lt_of_le y1 k5.size
          have y2' : w2.heap.size < w5.heap.size := Nat.lt_of_lt_of_le y2 k5.size
          clear a0 a1 a2 a3 a4 a5 a6 a7 a8 a9 a10 b0 b1 b2 b3 b4 b5 b6 b7 b8 b9 b10
          obtain ⟨a0, a1, a2, a3, a4, a5, a6, a7, a8, a9, a10⟩ := cells11 Gr6
          obtain ⟨d0, d1, d2, d3, d4, d5, d6, d7, d8, d9, d10⟩ := cells11 Gx6
          have G1 : Hid _ := Gr6
          have G2 : Hid _ := Gx6
          have HT : Hid (Ticks g a b (k + 1) 6 y') := Ht'
          clear Gr6 Gx6 Ht'
          have hnw : ∀ w, Sem.run Try.prog (binOp .neq 36 (.agg #[.string c, .int .i64 v, .string h, .int .i64 p, .int .i64 s, .int .i64 d, .int .i64 g]) (.agg #[.string c, .int .i64 v, .string h, .int .i64 p, .int .i64 s, .int .i64 d, .int .i64 g])) w = .ok (.bool false) w := fun w => by rw [neq_want, sameW_refl]; rfl
          go_wp2_with (refine wpList_store_mid (by rfl) 38 _ _ (by rfl) w2.heap.size 0 #[.string c, .int .i64 v, .string h, .int .i64 p, .int .i64 s, .int .i64 d, .int .i64 g, .int .i64 6, .int .i64 y', .int .i64 i, .int .i64 u] (by rfl) (by rfl) (by exact T5) hinfo (by simp [Value.oneCell']) ?_)
          have hy' : y' ≤ 2000000 := by rcases HT.out with ⟨h', _⟩ | ⟨_, _, h', _⟩ <;> omega
          exact ⟨⟨k + 1, 6, y', by omega, by go_num, HT.out, hy', G1.out, G2.out, World.there_setCells T5 _ _ _, by rw [setsZ]; exact y1', by rw [setsZ]; exact y2', setsB lo _ _ _ B5⟩, by simp [intOf]; omega⟩
      · exact (ticks_end (by omega) Ht.out (by omega)).elim
  · skip
    go_wp2_with (refine wpList_store_mid (by rfl) 38 _ _ (by rfl) w2.heap.size 0 #[.string c, .int .i64 v, .string h, .int .i64 p, .int .i64 s, .int .i64 d, .int .i64 g, .int .i64 a, .int .i64 b, .int .i64 i, .int .i64 u] (by rfl) (by rfl) (by exact World.there_alloc t3 _) hinfo (by simp [Value.oneCell']) ?_)
    go_loopw [8, 11] (fun th j wx => ∃ (k : Nat) (x y : Int), (k : Int) ≤ g + 2 ∧ j = .int .i64 k ∧ Hid (Ticks g a b k x y) ∧ y ≤ 2000000 ∧ Hid (wx.rangeAt w1.heap.size 0 [.string c, .int .i64 v, .string h, .int .i64 p, .int .i64 s, .int .i64 d, .int .i64 g, .int .i64 a, .int .i64 b, .int .i64 i, .int .i64 u]) ∧ Hid (wx.rangeAt w2.heap.size 0 [.string c, .int .i64 v, .string h, .int .i64 p, .int .i64 s, .int .i64 d, .int .i64 g, .int .i64 x, .int .i64 y, .int .i64 i, .int .i64 u]) ∧ Hid (wx.there w2.heap.size 0 11) ∧ w1.heap.size < wx.heap.size ∧ w2.heap.size < wx.heap.size ∧ Below w.heap.size w wx) (fun _ j _ => (g + 2 - intOf j).toNat)
    case atStart =>
      refine ⟨0, a, b, by omega, rfl, Or.inl ⟨rfl, rfl, rfl⟩, hbs, ?_, ?_, ?_, ?_, ?_, ?_⟩
      · exact World.rangeAt_setCells_apart (World.rangeAt_alloc (rangeOf r3) _) _ _ _ (Or.inl (by omega))
      · exact World.rangeAt_setCells_same _ _ _ _ (World.there_alloc t3 _)
      · exact World.there_setCells (World.there_alloc t3 _) _ _ _
      · rw [setsZ]; simp; omega
      · rw [setsZ]; simp; omega
      · exact setsB lo _ _ _ (bl_alloc B3 _)
    case round =>
      obtain ⟨k, x, y, hk, rfl, Ht, hy, Gr, Gx, Tx, y1, y2, hB⟩ := hrel
      by_cases hlt : (k : Int) < g + 2
      · obtain ⟨a0, a1, a2, a3, a4, a5, a6, a7, a8, a9, a10⟩ := cells11 Gr.out
        obtain ⟨b0, b1, b2, b3, b4, b5, b6, b7, b8, b9, b10⟩ := cells11 Gx.out
        have hcall := fun W => implLive_any c h ⟨#[]⟩ ⟨#[]⟩ v p s d g x y i u 0 0 0 0 0 (clock + k) false W (by omega) (by have := hi.1; omega)
        simp only [Bool.false_and] at hcall
        rcases ticks_step (h := h) (s := s) (d := d) (i := i) (u := u) (clock := clock + k) (f := i) ⟨by omega, by omega⟩ hb6.out Ht.out with hl | ⟨y', hl, Ht'⟩
        · rw [hl] at hcall
          simp only [liveV] at hcall
          have Hc : Hid _ := hcall
          clear hcall hl
          go_wp2_with fail
          refine (Hc.out _).mono ?_
          rintro e w5 ⟨rfl, k5⟩
          have T5 := keepT Tx.out y2 k5
          have B5 := bl_trans hB k5
          clear a0 a1 a2 a3 a4 a5 a6 a7 a8 a9 a10 b0 b1 b2 b3 b4 b5 b6 b7 b8 b9 b10
          obtain ⟨d0, d1, d2, d3, d4, d5, d6, d7, d8, d9, d10⟩ := cells11 (World.rangeAt_setCells_same w5 w2.heap.size 0 [.string ⟨#[]⟩, .int .i64 0, .string ⟨#[]⟩, .int .i64 0, .int .i64 0, .int .i64 0, .int .i64 0, .int .i64 0, .int .i64 0, .int .i64 0, .int .i64 0] T5)
          have her := eql_run ⟨#[]⟩ ⟨#[]⟩ 0 0 0 0 0 0 0 0 0
          go_wp2_with (refine wpList_store_mid (by rfl) 38 _ _ (by rfl) w2.heap.size 0 #[.string ⟨#[]⟩, .int .i64 0, .string ⟨#[]⟩, .int .i64 0, .int .i64 0, .int .i64 0, .int .i64 0, .int .i64 0, .int .i64 0, .int .i64 0, .int .i64 0] (by rfl) (by rfl) (by exact T5) hinfo (by simp [Value.oneCell']) ?_)
          go_ret
          exact ⟨rfl, setsB lo _ _ _ B5⟩
        · rw [hl] at hcall
          simp only [liveV] at hcall
          have Hc : Hid _ := hcall
          clear hcall hl
          go_wp2_with fail
          refine (Hc.out _).mono ?_
          rintro e w5 ⟨rfl, k5⟩
          have T5 := keepT Tx.out y2 k5
          have B5 := bl_trans hB k5
          have Gr6 := World.rangeAt_setCells_apart (keepG Gr.out y1 k5) w2.heap.size 0 [.string c, .int .i64 v, .string h, .int .i64 p, .int .i64 s, .int .i64 d, .int .i64 g, .int .i64 6, .int .i64 y', .int .i64 i, .int .i64 u] (Or.inl (by omega))
          have Gx6 := World.rangeAt_setCells_same w5 w2.heap.size 0 [.string c, .int .i64 v, .string h, .int .i64 p, .int .i64 s, .int .i64 d, .int .i64 g, .int .i64 6, .int .i64 y', .int .i64 i, .int .i64 u] T5
          have y1' : w1.heap.size < w5.heap.size := Nat.lt_of_lt_of_le y1 k5.size
          have y2' : w2.heap.size < w5.heap.size := Nat.lt_of_lt_of_le y2 k5.size
          clear a0 a1 a2 a3 a4 a5 a6 a7 a8 a9 a10 b0 b1 b2 b3 b4 b5 b6 b7 b8 b9 b10
          obtain ⟨a0, a1, a2, a3, a4, a5, a6, a7, a8, a9, a10⟩ := cells11 Gr6
          obtain ⟨d0, d1, d2, d3, d4, d5, d6, d7, d8, d9, d10⟩ := cells11 Gx6
          have G1 : Hid _ := Gr6
          have G2 : Hid _ := Gx6
          have HT : Hid (Ticks g a b (k + 1) 6 y') := Ht'
          clear Gr6 Gx6 Ht'
          have hnw : ∀ w, Sem.run Try.prog (binOp .neq 36 (.agg #[.string c, .int .i64 v, .string h, .int .i64 p, .int .i64 s, .int .i64 d, .int .i64 g]) (.agg #[.string c, .int .i64 v, .string h, .int .i64 p, .int .i64 s, .int .i64 d, .int .i64 g])) w = .ok (.bool false) w := fun w => by rw [neq_want, sameW_refl]; rfl
          go_wp2_with (refine wpList_store_mid (by rfl) 38 _ _ (by rfl) w2.heap.size 0 #[.string c, .int .i64 v, .string h, .int .i64 p, .int .i64 s, .int .i64 d, .int .i64 g, .int .i64 6, .int .i64 y', .int .i64 i, .int .i64 u] (by rfl) (by rfl) (by exact T5) hinfo (by simp [Value.oneCell']) ?_)
          have hy' : y' ≤ 2000000 := by rcases HT.out with ⟨h', _⟩ | ⟨_, _, h', _⟩ <;> omega
          exact ⟨⟨k + 1, 6, y', by omega, by go_num, HT.out, hy', G1.out, G2.out, World.there_setCells T5 _ _ _, by rw [setsZ]; exact y1', by rw [setsZ]; exact y2', setsB lo _ _ _ B5⟩, by simp [intOf]; omega⟩
      · exact (ticks_end (by omega) Ht.out (by omega)).elim
end Go.Proofs.Ytmfcnckhgeggkaa
