import Derived.Test.YtehiopokicegeabJ08
import Derived.Test.YtehiopokicegeabJ09
import Derived.Test.YtehiopokicegeabJ06
/- Mates whose lists are the call's own. -/
namespace Go.Proofs.Ytehiopokicegeab
open Go.RowKit
set_option linter.unusedVariables false

/-- Nothing that was there has turned but for the blocks that P tells. -/
structure Off (P : Nat → Prop) (w w' : World) : Prop where
  os : w'.os = w.os
  tape : w'.tape = w.tape
  output : w'.output = w.output
  size : w.heap.size ≤ w'.heap.size
  block : ∀ k, k < w.heap.size → ¬ P k → w'.heap[k]? = w.heap[k]?
theorem Off.refl (P : Nat → Prop) (w : World) : Off P w w := ⟨rfl, rfl, rfl, Nat.le_refl _, fun _ _ _ => rfl⟩
theorem Off.trans {P : Nat → Prop} {a b c : World} (h : Off P a b) (k : Off P b c) : Off P a c :=
  ⟨k.os.trans h.os, k.tape.trans h.tape, k.output.trans h.output, Nat.le_trans h.size k.size, fun i hi hp => (k.block i (Nat.lt_of_lt_of_le hi h.size) hp).trans (h.block i hi hp)⟩
theorem Off.of_below {P : Nat → Prop} {a b : World} (h : Below a.heap.size a b) : Off P a b := ⟨h.os, h.tape, h.output, h.size, fun i hi _ => h.block i hi⟩
theorem Off.of_grown {P : Nat → Prop} {a b : World} {row : Option Nat} (h : a.grownBy b row) (hp : ∀ j, row = some j → P j) : Off P a b := ⟨h.os, h.tape, h.output, h.size, fun i hi hn => h.block i hi (fun e => hn (hp i e.symm))⟩
theorem Off.cell {P : Nat → Prop} {a b : World} (h : Off P a b) {p : Addr} (hp : p.block < a.heap.size) (hn : ¬ P p.block) : b.cell? p = a.cell? p := World.cell?_of_block (w := a) (h.block p.block hp hn)
theorem Off.below {P : Nat → Prop} {a b : World} {B : Nat} (h : Off P a b) (hP : ∀ j, P j → B ≤ j) (hB : B ≤ a.heap.size) : Below B a b := ⟨h.os, h.tape, h.output, h.size, fun i hi => h.block i (by omega) (fun hp => by have := hP i hp; omega)⟩
theorem Off.grown {P : Nat → Prop} {a b : World} (h : Off P a b) {v : Value} (hv : ∀ g, v.ownBlock = some g → ¬ P g) : ∀ g, v.ownBlock = some g → g < a.heap.size → b.heap[g]? = a.heap[g]? := fun g hg hl => h.block g hl (hv g hg)

/-- Two values don't share a block. -/
def Dif (a b : Value) : Prop := a.ownBlock = none ∨ a.ownBlock ≠ b.ownBlock
theorem Dif.symm {a b : Value} (h : Dif a b) : Dif b a := by
  rcases h with h | h
  · cases hb : b.ownBlock with
    | none => exact Or.inl hb
    | some g => exact Or.inr (by rw [h, hb]; simp)
  · exact Or.inr (fun e => h e.symm)
/-- A mate's lists, all the call's own and none in another's block. -/
structure SlM (w : World) (m : MateD) (s1 s2 s3 s4 : Value) (B : Nat) : Prop where
  a1 : W.Sl w s1 m.ws B
  a2 : Sl w s2 m.rs B
  a3 : A.Sl w s3 m.qs B
  a4 : A.Sl w s4 m.gs B
  d12 : Dif s1 s2
  d13 : Dif s1 s3
  d14 : Dif s1 s4
  d23 : Dif s2 s3
  d24 : Dif s2 s4
  d34 : Dif s3 s4
theorem SlM.keep {w w' : World} {m : MateD} {s1 s2 s3 s4 : Value} {B : Nat} (h : SlM w m s1 s2 s3 s4 B) (hb : Below w.heap.size w w') : SlM w' m s1 s2 s3 s4 B :=
  ⟨h.a1.keep hb, h.a2.keep hb, h.a3.keep hb, h.a4.keep hb, h.d12, h.d13, h.d14, h.d23, h.d24, h.d34⟩
theorem SlM.lt {w : World} {m : MateD} {s1 s2 s3 s4 : Value} {B : Nat} (h : SlM w m s1 s2 s3 s4 B) : ∀ j, (s1.ownBlock = some j ∨ s2.ownBlock = some j ∨ s3.ownBlock = some j ∨ s4.ownBlock = some j) → j < w.heap.size := by
  rintro j (e | e | e | e)
  · exact (h.a1.lt j e).2
  · exact (h.a2.lt j e).2
  · exact (h.a3.lt j e).2
  · exact (h.a4.lt j e).2
theorem SlM.ge {w : World} {m : MateD} {s1 s2 s3 s4 : Value} {B : Nat} (h : SlM w m s1 s2 s3 s4 B) : ∀ j, (s1.ownBlock = some j ∨ s2.ownBlock = some j ∨ s3.ownBlock = some j ∨ s4.ownBlock = some j) → B ≤ j := by
  rintro j (e | e | e | e)
  · exact (h.a1.lt j e).1
  · exact (h.a2.lt j e).1
  · exact (h.a3.lt j e).1
  · exact (h.a4.lt j e).1
theorem SlM.put1 {w w' : World} {m : MateD} {s1 s2 s3 s4 : Value} {B : Nat} {l : List W.WantD} (h : SlM w m s1 s2 s3 s4 B) (r : W.Sl w' s1 l B) (g : w.grownBy w' s1.ownBlock) : SlM w' { m with ws := l } s1 s2 s3 s4 B :=
  ⟨r, h.a2.grown g h.d12.symm, h.a3.grown g h.d13.symm, h.a4.grown g h.d14.symm, h.d12, h.d13, h.d14, h.d23, h.d24, h.d34⟩
theorem SlM.put2 {w w' : World} {m : MateD} {s1 s2 s3 s4 : Value} {B : Nat} {l : List RunD} (h : SlM w m s1 s2 s3 s4 B) (r : Sl w' s2 l B) (g : w.grownBy w' s2.ownBlock) : SlM w' { m with rs := l } s1 s2 s3 s4 B :=
  ⟨h.a1.grown g h.d12, r, h.a3.grown g h.d23.symm, h.a4.grown g h.d24.symm, h.d12, h.d13, h.d14, h.d23, h.d24, h.d34⟩
theorem SlM.put3 {w w' : World} {m : MateD} {s1 s2 s3 s4 : Value} {B : Nat} {l : List A.AskD} (h : SlM w m s1 s2 s3 s4 B) (r : A.Sl w' s3 l B) (g : w.grownBy w' s3.ownBlock) : SlM w' { m with qs := l } s1 s2 s3 s4 B :=
  ⟨h.a1.grown g h.d13, h.a2.grown g h.d23, r, h.a4.grown g h.d34.symm, h.d12, h.d13, h.d14, h.d23, h.d24, h.d34⟩
theorem SlM.put4 {w w' : World} {m : MateD} {s1 s2 s3 s4 : Value} {B : Nat} {l : List A.AskD} (h : SlM w m s1 s2 s3 s4 B) (r : A.Sl w' s4 l B) (g : w.grownBy w' s4.ownBlock) : SlM w' { m with gs := l } s1 s2 s3 s4 B :=
  ⟨h.a1.grown g h.d14, h.a2.grown g h.d24, h.a3.grown g h.d34, r, h.d12, h.d13, h.d14, h.d23, h.d24, h.d34⟩
theorem boxes_sl {w w' : World} {m : MateD} {s1 s2 s3 s4 t1 t2 t3 t4 : Value} (hb : Below ((w.alloc (.cells #[.string m.nm, .bool m.up, .int .i64 m.ck, .bool m.kn, .int .i64 m.se, s1, s2, s3, s4] 55)).alloc (.cells #[.string m.nm, .bool m.up, .int .i64 m.ck, .bool m.kn, .int .i64 m.se, t1, t2, t3, t4] 55)).heap.size ((w.alloc (.cells #[.string m.nm, .bool m.up, .int .i64 m.ck, .bool m.kn, .int .i64 m.se, s1, s2, s3, s4] 55)).alloc (.cells #[.string m.nm, .bool m.up, .int .i64 m.ck, .bool m.kn, .int .i64 m.se, t1, t2, t3, t4] 55)) w') :
    (∀ k, w'.cell? ⟨w.heap.size, k, none⟩ = (#[.string m.nm, .bool m.up, .int .i64 m.ck, .bool m.kn, .int .i64 m.se, s1, s2, s3, s4] : Array Value)[k]?) ∧ (∀ k, w'.cell? ⟨w.heap.size + 1, k, none⟩ = (#[.string m.nm, .bool m.up, .int .i64 m.ck, .bool m.kn, .int .i64 m.se, t1, t2, t3, t4] : Array Value)[k]?) := by
  constructor
  · intro k
    rw [hb.cell (p := ⟨w.heap.size, k, none⟩) (by simp; omega)]
    simp [go_sem]
  · intro k
    rw [hb.cell (p := ⟨w.heap.size + 1, k, none⟩) (by simp)]
    simp [go_sem]

/-- The lists' lengths. -/
structure Lens (m : MateD) : Prop where
  k1 : m.ws.length ≤ 1048576
  k2 : m.rs.length ≤ 1048576
  k3 : m.qs.length ≤ 1048576
  k4 : m.gs.length ≤ 1048576

set_option maxRecDepth 4000 in
set_option maxHeartbeats 2000000 in
theorem eqMate_sl (m : MateD) (s1 s2 s3 s4 t1 t2 t3 t4 : Value) (B1 B2 : Nat) (w : World) (h1 : SlM w m s1 s2 s3 s4 B1) (h2 : SlM w m t1 t2 t3 t4 B2) (hf : Lens m) :
    Calls Try.prog 30 #[.agg #[.string m.nm, .bool m.up, .int .i64 m.ck, .bool m.kn, .int .i64 m.se, s1, s2, s3, s4], .agg #[.string m.nm, .bool m.up, .int .i64 m.ck, .bool m.kn, .int .i64 m.se, t1, t2, t3, t4]] w fun e w' => e = .returned (.bool true) ∧ Below w.heap.size w w' := by
  have Hb0 : Hid (Below w.heap.size w ((w.alloc (.cells #[.string m.nm, .bool m.up, .int .i64 m.ck, .bool m.kn, .int .i64 m.se, s1, s2, s3, s4] 55)).alloc (.cells #[.string m.nm, .bool m.up, .int .i64 m.ck, .bool m.kn, .int .i64 m.se, t1, t2, t3, t4] 55))) := bl_alloc (bl_alloc (Below.refl _ _) _) _
  have P0 : Hid _ := h1.keep Hb0.out
  have Q0 : Hid _ := h2.keep Hb0.out
  go_enter Try.func30, Try.ntmps30
  go_wp2_with fail
  refine (W.eq_sl P0.out.a1 Q0.out.a1 hf.k1).mono ?_
  rintro e w1 ⟨rfl, c1⟩
  have D1 : Hid (Below ((w.alloc (.cells #[.string m.nm, .bool m.up, .int .i64 m.ck, .bool m.kn, .int .i64 m.se, s1, s2, s3, s4] 55)).alloc (.cells #[.string m.nm, .bool m.up, .int .i64 m.ck, .bool m.kn, .int .i64 m.se, t1, t2, t3, t4] 55)).heap.size ((w.alloc (.cells #[.string m.nm, .bool m.up, .int .i64 m.ck, .bool m.kn, .int .i64 m.se, s1, s2, s3, s4] 55)).alloc (.cells #[.string m.nm, .bool m.up, .int .i64 m.ck, .bool m.kn, .int .i64 m.se, t1, t2, t3, t4] 55)) w1) := c1
  have P1 : Hid _ := P0.out.keep D1.out
  have Q1 : Hid _ := Q0.out.keep D1.out
  clear c1
  obtain ⟨ka1, kb1⟩ := boxes_sl D1.out
  go_wp2_with fail
  refine (eq_sl P1.out.a2 Q1.out.a2 hf.k2).mono ?_
  rintro e w2 ⟨rfl, c2⟩
  have D2 : Hid (Below ((w.alloc (.cells #[.string m.nm, .bool m.up, .int .i64 m.ck, .bool m.kn, .int .i64 m.se, s1, s2, s3, s4] 55)).alloc (.cells #[.string m.nm, .bool m.up, .int .i64 m.ck, .bool m.kn, .int .i64 m.se, t1, t2, t3, t4] 55)).heap.size ((w.alloc (.cells #[.string m.nm, .bool m.up, .int .i64 m.ck, .bool m.kn, .int .i64 m.se, s1, s2, s3, s4] 55)).alloc (.cells #[.string m.nm, .bool m.up, .int .i64 m.ck, .bool m.kn, .int .i64 m.se, t1, t2, t3, t4] 55)) w2) := bl_trans D1.out c2
  have P2 : Hid _ := P0.out.keep D2.out
  have Q2 : Hid _ := Q0.out.keep D2.out
  clear c2 ka1 kb1
  obtain ⟨ka2, kb2⟩ := boxes_sl D2.out
  go_wp2_with fail
  refine (A.eq_sl P2.out.a3 Q2.out.a3 hf.k3).mono ?_
  rintro e w3 ⟨rfl, c3⟩
  have D3 : Hid (Below ((w.alloc (.cells #[.string m.nm, .bool m.up, .int .i64 m.ck, .bool m.kn, .int .i64 m.se, s1, s2, s3, s4] 55)).alloc (.cells #[.string m.nm, .bool m.up, .int .i64 m.ck, .bool m.kn, .int .i64 m.se, t1, t2, t3, t4] 55)).heap.size ((w.alloc (.cells #[.string m.nm, .bool m.up, .int .i64 m.ck, .bool m.kn, .int .i64 m.se, s1, s2, s3, s4] 55)).alloc (.cells #[.string m.nm, .bool m.up, .int .i64 m.ck, .bool m.kn, .int .i64 m.se, t1, t2, t3, t4] 55)) w3) := bl_trans D2.out c3
  have P3 : Hid _ := P0.out.keep D3.out
  have Q3 : Hid _ := Q0.out.keep D3.out
  clear c3 ka2 kb2
  obtain ⟨ka3, kb3⟩ := boxes_sl D3.out
  go_wp2_with fail
  refine (A.eq_sl P3.out.a4 Q3.out.a4 hf.k4).mono ?_
  rintro e w4 ⟨rfl, c4⟩
  have D4 : Hid (Below ((w.alloc (.cells #[.string m.nm, .bool m.up, .int .i64 m.ck, .bool m.kn, .int .i64 m.se, s1, s2, s3, s4] 55)).alloc (.cells #[.string m.nm, .bool m.up, .int .i64 m.ck, .bool m.kn, .int .i64 m.se, t1, t2, t3, t4] 55)).heap.size ((w.alloc (.cells #[.string m.nm, .bool m.up, .int .i64 m.ck, .bool m.kn, .int .i64 m.se, s1, s2, s3, s4] 55)).alloc (.cells #[.string m.nm, .bool m.up, .int .i64 m.ck, .bool m.kn, .int .i64 m.se, t1, t2, t3, t4] 55)) w4) := bl_trans D3.out c4
  have P4 : Hid _ := P0.out.keep D4.out
  have Q4 : Hid _ := Q0.out.keep D4.out
  clear c4 ka3 kb3
  obtain ⟨ka4, kb4⟩ := boxes_sl D4.out
  go_wp2
  go_ret
  exact ⟨rfl, bl_trans Hb0.out D4.out⟩

/-- A mate's lists as marks. -/
def markM (m : MateD) (k0 : Int) : MateD := { m with ws := W.marks k0 m.ws.length, rs := markRuns (k0 + 7 * (m.ws.length : Int)) m.rs.length, qs := A.marks (k0 + 7 * (m.ws.length : Int) + 11 * (m.rs.length : Int)) m.qs.length, gs := A.marks (k0 + 7 * (m.ws.length : Int) + 11 * (m.rs.length : Int) + 4 * (m.qs.length : Int)) m.gs.length }

set_option maxRecDepth 4000 in
set_option maxHeartbeats 2000000 in
theorem markMate_sl (m : MateD) (s1 s2 s3 s4 : Value) (B : Nat) (k0 : Int) (w : World) (h1 : SlM w m s1 s2 s3 s4 B) (hf : Lens m) (h0 : 0 ≤ k0) (hk : k0 ≤ 100) :
    Calls Try.prog 33 #[.agg #[.string m.nm, .bool m.up, .int .i64 m.ck, .bool m.kn, .int .i64 m.se, s1, s2, s3, s4], .int .i64 k0] w fun e w' => e = .returned (.int .i64 (k0 + 7 * (m.ws.length : Int) + 11 * (m.rs.length : Int) + 4 * (m.qs.length : Int) + 4 * (m.gs.length : Int))) ∧ SlM w' (markM m k0) s1 s2 s3 s4 B ∧ Off (fun j => s1.ownBlock = some j ∨ s2.ownBlock = some j ∨ s3.ownBlock = some j ∨ s4.ownBlock = some j) w w' := by
  have Hb0 : Hid (Below w.heap.size w (w.alloc (.cells #[.string m.nm, .bool m.up, .int .i64 m.ck, .bool m.kn, .int .i64 m.se, s1, s2, s3, s4] 55))) := bl_alloc (Below.refl _ _) _
  have P0 : Hid (SlM (w.alloc (.cells #[.string m.nm, .bool m.up, .int .i64 m.ck, .bool m.kn, .int .i64 m.se, s1, s2, s3, s4] 55)) m s1 s2 s3 s4 B) := h1.keep Hb0.out
  have k1 := hf.k1
  have k2 := hf.k2
  have k3 := hf.k3
  have k4 := hf.k4
  have bxlt : ∀ j, (s1.ownBlock = some j ∨ s2.ownBlock = some j ∨ s3.ownBlock = some j ∨ s4.ownBlock = some j) → j < w.heap.size := h1.lt
  have Hlt : Hid _ := bxlt
  clear bxlt
  go_enter Try.func33, Try.ntmps33
  go_wp2_with fail
  refine (W.mark_sl P0.out.a1 k0 hf.k1 (by omega) (by omega)).mono ?_
  rintro e w1 ⟨rfl, r1, g1⟩
  have P1 : Hid (SlM w1 { m with ws := W.marks k0 m.ws.length } s1 s2 s3 s4 B) := P0.out.put1 r1 g1
  have F1 : Hid (Off (fun j => s1.ownBlock = some j ∨ s2.ownBlock = some j ∨ s3.ownBlock = some j ∨ s4.ownBlock = some j) (w.alloc (.cells #[.string m.nm, .bool m.up, .int .i64 m.ck, .bool m.kn, .int .i64 m.se, s1, s2, s3, s4] 55)) w1) := Off.of_grown g1 (fun j hj => Or.inl hj)
  clear r1 g1
  have kb1 : ∀ j, w1.cell? ⟨w.heap.size, j, none⟩ = (w.alloc (.cells #[.string m.nm, .bool m.up, .int .i64 m.ck, .bool m.kn, .int .i64 m.se, s1, s2, s3, s4] 55)).cell? ⟨w.heap.size, j, none⟩ := fun j => F1.out.cell (p := ⟨w.heap.size, j, none⟩) (by simp) (fun h => by have := Hlt.out _ h; simp at this)
  go_wp2_with fail
  refine (mark_sl P1.out.a2 (k0 + 7 * (m.ws.length : Int)) hf.k2 (by omega) (by omega)).mono ?_
  rintro e w2 ⟨rfl, r2, g2⟩
  have P2 : Hid (SlM w2 { m with ws := W.marks k0 m.ws.length, rs := markRuns (k0 + 7 * (m.ws.length : Int)) m.rs.length } s1 s2 s3 s4 B) := P1.out.put2 r2 g2
  have F2 : Hid (Off (fun j => s1.ownBlock = some j ∨ s2.ownBlock = some j ∨ s3.ownBlock = some j ∨ s4.ownBlock = some j) (w.alloc (.cells #[.string m.nm, .bool m.up, .int .i64 m.ck, .bool m.kn, .int .i64 m.se, s1, s2, s3, s4] 55)) w2) := F1.out.trans (Off.of_grown g2 (fun j hj => Or.inr (Or.inl hj)))
  clear r2 g2 kb1
  have kb2 : ∀ j, w2.cell? ⟨w.heap.size, j, none⟩ = (w.alloc (.cells #[.string m.nm, .bool m.up, .int .i64 m.ck, .bool m.kn, .int .i64 m.se, s1, s2, s3, s4] 55)).cell? ⟨w.heap.size, j, none⟩ := fun j => F2.out.cell (p := ⟨w.heap.size, j, none⟩) (by simp) (fun h => by have := Hlt.out _ h; simp at this)
  go_wp2_with fail
  refine (A.mark_sl P2.out.a3 (k0 + 7 * (m.ws.length : Int) + 11 * (m.rs.length : Int)) hf.k3 (by omega) (by omega)).mono ?_
  rintro e w3 ⟨rfl, r3, g3⟩
  have P3 : Hid (SlM w3 { m with ws := W.marks k0 m.ws.length, rs := markRuns (k0 + 7 * (m.ws.length : Int)) m.rs.length, qs := A.marks (k0 + 7 * (m.ws.length : Int) + 11 * (m.rs.length : Int)) m.qs.length } s1 s2 s3 s4 B) := P2.out.put3 r3 g3
  have F3 : Hid (Off (fun j => s1.ownBlock = some j ∨ s2.ownBlock = some j ∨ s3.ownBlock = some j ∨ s4.ownBlock = some j) (w.alloc (.cells #[.string m.nm, .bool m.up, .int .i64 m.ck, .bool m.kn, .int .i64 m.se, s1, s2, s3, s4] 55)) w3) := F2.out.trans (Off.of_grown g3 (fun j hj => Or.inr (Or.inr (Or.inl hj))))
  clear r3 g3 kb2
  have kb3 : ∀ j, w3.cell? ⟨w.heap.size, j, none⟩ = (w.alloc (.cells #[.string m.nm, .bool m.up, .int .i64 m.ck, .bool m.kn, .int .i64 m.se, s1, s2, s3, s4] 55)).cell? ⟨w.heap.size, j, none⟩ := fun j => F3.out.cell (p := ⟨w.heap.size, j, none⟩) (by simp) (fun h => by have := Hlt.out _ h; simp at this)
  go_wp2_with fail
  refine (A.mark_sl P3.out.a4 (k0 + 7 * (m.ws.length : Int) + 11 * (m.rs.length : Int) + 4 * (m.qs.length : Int)) hf.k4 (by omega) (by omega)).mono ?_
  rintro e w4 ⟨rfl, r4, g4⟩
  have P4 : Hid (SlM w4 { m with ws := W.marks k0 m.ws.length, rs := markRuns (k0 + 7 * (m.ws.length : Int)) m.rs.length, qs := A.marks (k0 + 7 * (m.ws.length : Int) + 11 * (m.rs.length : Int)) m.qs.length, gs := A.marks (k0 + 7 * (m.ws.length : Int) + 11 * (m.rs.length : Int) + 4 * (m.qs.length : Int)) m.gs.length } s1 s2 s3 s4 B) := P3.out.put4 r4 g4
  have F4 : Hid (Off (fun j => s1.ownBlock = some j ∨ s2.ownBlock = some j ∨ s3.ownBlock = some j ∨ s4.ownBlock = some j) (w.alloc (.cells #[.string m.nm, .bool m.up, .int .i64 m.ck, .bool m.kn, .int .i64 m.se, s1, s2, s3, s4] 55)) w4) := F3.out.trans (Off.of_grown g4 (fun j hj => Or.inr (Or.inr (Or.inr hj))))
  clear r4 g4 kb3
  have kb4 : ∀ j, w4.cell? ⟨w.heap.size, j, none⟩ = (w.alloc (.cells #[.string m.nm, .bool m.up, .int .i64 m.ck, .bool m.kn, .int .i64 m.se, s1, s2, s3, s4] 55)).cell? ⟨w.heap.size, j, none⟩ := fun j => F4.out.cell (p := ⟨w.heap.size, j, none⟩) (by simp) (fun h => by have := Hlt.out _ h; simp at this)
  go_wp2
  go_ret
  exact ⟨rfl, P4.out, (Off.of_below Hb0.out).trans F4.out⟩

set_option maxRecDepth 4000 in
set_option maxHeartbeats 2000000 in
theorem heldMate_sl (m : MateD) (s1 s2 s3 s4 : Value) (B : Nat) (k0 : Int) (w : World) (h1 : SlM w (markM m k0) s1 s2 s3 s4 B) (hf : Lens m) (h0 : 0 ≤ k0) (hk : k0 ≤ 100) :
    Calls Try.prog 34 #[.agg #[.string m.nm, .bool m.up, .int .i64 m.ck, .bool m.kn, .int .i64 m.se, s1, s2, s3, s4], .int .i64 k0] w fun e w' => e = .returned (.int .i64 (k0 + 7 * (m.ws.length : Int) + 11 * (m.rs.length : Int) + 4 * (m.qs.length : Int) + 4 * (m.gs.length : Int))) ∧ Below w.heap.size w w' := by
  have k1 := hf.k1
  have k2 := hf.k2
  have k3 := hf.k3
  have k4 := hf.k4
  have Hb0 : Hid (Below w.heap.size w (w.alloc (.cells #[.string m.nm, .bool m.up, .int .i64 m.ck, .bool m.kn, .int .i64 m.se, s1, s2, s3, s4] 55))) := bl_alloc (Below.refl _ _) _
  have P0 : Hid _ := h1.keep Hb0.out
  go_enter Try.func34, Try.ntmps34
  go_wp2_with fail
  refine (W.held_sl k0 (m := m.ws.length) P0.out.a1 hf.k1 (by omega) (by omega)).mono ?_
  rintro e w1 ⟨rfl, c1⟩
  have D1 : Hid (Below (w.alloc (.cells #[.string m.nm, .bool m.up, .int .i64 m.ck, .bool m.kn, .int .i64 m.se, s1, s2, s3, s4] 55)).heap.size (w.alloc (.cells #[.string m.nm, .bool m.up, .int .i64 m.ck, .bool m.kn, .int .i64 m.se, s1, s2, s3, s4] 55)) w1) := c1
  have P1 : Hid _ := P0.out.keep D1.out
  clear c1
  have kb1 := box_keep D1.out
  go_wp2_with fail
  refine (held_sl (k0 + 7 * (m.ws.length : Int)) (m := m.rs.length) P1.out.a2 hf.k2 (by omega) (by omega)).mono ?_
  rintro e w2 ⟨rfl, c2⟩
  have D2 : Hid (Below (w.alloc (.cells #[.string m.nm, .bool m.up, .int .i64 m.ck, .bool m.kn, .int .i64 m.se, s1, s2, s3, s4] 55)).heap.size (w.alloc (.cells #[.string m.nm, .bool m.up, .int .i64 m.ck, .bool m.kn, .int .i64 m.se, s1, s2, s3, s4] 55)) w2) := bl_trans D1.out c2
  have P2 : Hid _ := P0.out.keep D2.out
  clear c2 kb1
  have kb2 := box_keep D2.out
  go_wp2_with fail
  refine (A.held_sl (k0 + 7 * (m.ws.length : Int) + 11 * (m.rs.length : Int)) (m := m.qs.length) P2.out.a3 hf.k3 (by omega) (by omega)).mono ?_
  rintro e w3 ⟨rfl, c3⟩
  have D3 : Hid (Below (w.alloc (.cells #[.string m.nm, .bool m.up, .int .i64 m.ck, .bool m.kn, .int .i64 m.se, s1, s2, s3, s4] 55)).heap.size (w.alloc (.cells #[.string m.nm, .bool m.up, .int .i64 m.ck, .bool m.kn, .int .i64 m.se, s1, s2, s3, s4] 55)) w3) := bl_trans D2.out c3
  have P3 : Hid _ := P0.out.keep D3.out
  clear c3 kb2
  have kb3 := box_keep D3.out
  go_wp2_with fail
  refine (A.held_sl (k0 + 7 * (m.ws.length : Int) + 11 * (m.rs.length : Int) + 4 * (m.qs.length : Int)) (m := m.gs.length) P3.out.a4 hf.k4 (by omega) (by omega)).mono ?_
  rintro e w4 ⟨rfl, c4⟩
  have D4 : Hid (Below (w.alloc (.cells #[.string m.nm, .bool m.up, .int .i64 m.ck, .bool m.kn, .int .i64 m.se, s1, s2, s3, s4] 55)).heap.size (w.alloc (.cells #[.string m.nm, .bool m.up, .int .i64 m.ck, .bool m.kn, .int .i64 m.se, s1, s2, s3, s4] 55)) w4) := bl_trans D3.out c4
  have P4 : Hid _ := P0.out.keep D4.out
  clear c4 kb3
  have kb4 := box_keep D4.out
  go_wp2
  go_ret
  exact ⟨rfl, bl_trans Hb0.out D4.out⟩
end Go.Proofs.Ytehiopokicegeab
