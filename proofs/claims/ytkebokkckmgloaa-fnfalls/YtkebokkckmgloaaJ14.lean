import Derived.Test.YtkebokkckmgloaaJ06
import Derived.Test.YtkebokkckmgloaaJ13
import Derived.Test.YtkebokkckmgloaaJ05
/- Mates whose lists are the call's own. -/
namespace Go.Proofs.Ytkebokkckmgloaa
open Go.RowKit
set_option linter.unusedVariables false

/-- Nothing that was there has turned but for the blocks that P tells. -/
structure Off (P : Nat → Prop) (w w' : World) : Prop where
  os : w'.os = w.os
  tape : w'.tape = w.tape
  output : w'.output = w.output
  size : w.heap.size ≤ w'.heap.size
  block : ∀ k, k < w.heap.size → ¬ P k → w'.heap[k]? = w.heap[k]?
theorem Off.of_below {P : Nat → Prop} {a b : World} (h : Below a.heap.size a b) : Off P a b := ⟨h.os, h.tape, h.output, h.size, fun i hi _ => h.block i hi⟩
theorem Off.of_grown {P : Nat → Prop} {a b : World} {row : Option Nat} (h : a.grownBy b row) (hp : ∀ j, row = some j → P j) : Off P a b := ⟨h.os, h.tape, h.output, h.size, fun i hi hn => h.block i hi (fun e => hn (hp i e.symm))⟩
theorem Off.below {P : Nat → Prop} {a b : World} {B : Nat} (h : Off P a b) (hP : ∀ j, P j → B ≤ j) (hB : B ≤ a.heap.size) : Below B a b := ⟨h.os, h.tape, h.output, h.size, fun i hi => h.block i (by omega) (fun hp => by have := hP i hp; omega)⟩
/-- Two values don't share a block. -/
def Dif (a b : Value) : Prop := a.ownBlock = none ∨ a.ownBlock ≠ b.ownBlock
theorem Dif.symm {a b : Value} (h : Dif a b) : Dif b a := by
  rcases h with h | h
  · cases hb : b.ownBlock with
    | none => exact Or.inl hb
    | some g => exact Or.inr (by rw [h, hb]; simp)
  · exact Or.inr (fun e => h e.symm)
/-- A mate's lists, all the call's own and none in another's block. -/
structure SlM (w : World) (m : MateD) (s1 s2 s3 s4 : Value) (B : Nat) : Prop where
  a1 : W.Sl w s1 m.ws B
  a2 : Sl w s2 m.rs B
  a3 : A.Sl w s3 m.qs B
  a4 : A.Sl w s4 m.gs B
  d12 : Dif s1 s2
  d13 : Dif s1 s3
  d14 : Dif s1 s4
  d23 : Dif s2 s3
  d24 : Dif s2 s4
  d34 : Dif s3 s4
theorem SlM.keep {w w' : World} {m : MateD} {s1 s2 s3 s4 : Value} {B : Nat} (h : SlM w m s1 s2 s3 s4 B) (hb : Below w.heap.size w w') : SlM w' m s1 s2 s3 s4 B :=
  ⟨h.a1.keep hb, h.a2.keep hb, h.a3.keep hb, h.a4.keep hb, h.d12, h.d13, h.d14, h.d23, h.d24, h.d34⟩
/-- The lists' lengths. -/
structure Lens (m : MateD) : Prop where
  k1 : m.ws.length ≤ 1048576
  k2 : m.rs.length ≤ 1048576
  k3 : m.qs.length ≤ 1048576
  k4 : m.gs.length ≤ 1048576

end Go.Proofs.Ytkebokkckmgloaa
/- A reader, wherever it stands; a small number's text. -/
namespace Go.Proofs.Ytkebokkckmgloaa
open Go.RowKit
set_option linter.unusedVariables false

/-- A reader at a place up to q; its code lies below it. -/
def Rq (w : World) (kr : Nat) (q : Int) : Prop := ∃ a n cap zs p, Rd w kr a n cap zs p ∧ p ≤ q ∧ (n = 0 ∨ ∃ b off, a = some ⟨b, off, none⟩ ∧ b < kr)
theorem Rq.lt {w : World} {kr : Nat} {q : Int} (h : Rq w kr q) : kr < w.heap.size := by
  obtain ⟨a, n, cap, zs, p, h, -⟩ := h
  exact h.lt
theorem Rq.up {w : World} {kr : Nat} {q q' : Int} (h : Rq w kr q) (hq : q ≤ q') : Rq w kr q' := by
  obtain ⟨a, n, cap, zs, p, h, h1, h2⟩ := h
  exact ⟨a, n, cap, zs, p, h, Int.le_trans h1 hq, h2⟩
theorem Rq.grown {w w' : World} {kr : Nat} {q : Int} {row : Option Nat} (h : Rq w kr q) (hg : w.grownBy w' row) (hr : ∀ k, row = some k → kr < k) : Rq w' kr q := by
  obtain ⟨a, n, cap, zs, p, h, h1, h2⟩ := h
  have hk : w'.heap[kr]? = w.heap[kr]? := hg.block kr h.lt (fun e => by have := hr _ e.symm; omega)
  refine ⟨a, n, cap, zs, p, ⟨(World.cell?_of_block (w := w) (a := ⟨kr, 0, none⟩) hk).trans h.sl, (World.cell?_of_block (w := w) (a := ⟨kr, 1, none⟩) hk).trans h.at_, (World.frozen?_of_block (w := w) (a := ⟨kr, 1, none⟩) hk).trans h.open_, Nat.lt_of_lt_of_le h.lt hg.size, ?_, h.p0, h.p1⟩, h1, h2⟩
  obtain ⟨hn, hc⟩ := h.code
  refine ⟨hn, ?_⟩
  rcases h2 with hz | ⟨b, off, ha, hb⟩
  · exact Or.inl hz
  rcases hc with hz | ⟨b', off', ha', hne, hlt, hcell⟩
  · exact Or.inl hz
  rw [ha] at ha'
  cases ha'
  exact Or.inr ⟨b, off, ha, hne, Nat.lt_of_lt_of_le hlt hg.size, fun i hi => ⟨(World.cell?_of_block (w := w) (a := ⟨b, off + i, none⟩) (hg.block b hlt (fun e => by have := hr _ e.symm; omega))).trans (hcell i hi).1, (hcell i hi).2⟩⟩
theorem grown_below {w w' : World} (hb : Below w.heap.size w w') : w.grownBy w' none := ⟨hb.os, hb.tape, hb.output, hb.size, fun k hk _ => hb.block k hk⟩
theorem Rq.below {w w' : World} {kr : Nat} {q : Int} (h : Rq w kr q) (hb : Below w.heap.size w w') : Rq w' kr q := h.grown (grown_below hb) (fun k hk => by cases hk)
theorem Ex.grown {kr : Nat} {w x y : World} {row : Option Nat} (h : Ex kr w x) (hg : x.grownBy y row) (hr : ∀ k, row = some k → w.heap.size ≤ k) : Ex kr w y :=
  ⟨hg.os.trans h.os, hg.tape.trans h.tape, hg.output.trans h.output, Nat.le_trans h.size hg.size, fun k hk hne => (hg.block k (Nat.lt_of_lt_of_le hk h.size) (fun e => by have := hr _ e.symm; omega)).trans (h.block k hk hne)⟩
theorem Ex.then_below {kr : Nat} {w x y : World} (h : Ex kr w x) (hb : Below x.heap.size x y) : Ex kr w y := h.trans (Ex.of_below hb)
theorem pickQ (kr : Nat) (q k : Int) (w : World) (h : Rq w kr q) (hq : q < 1000000) (k0 : 1 ≤ k) (k1 : k ≤ 1000000) :
    Calls Try.prog 59 #[.pointer (some ⟨kr, 0, none⟩), .int .i64 k] w fun e w' => ∃ m : Int, e = .returned (.int .i64 m) ∧ 0 ≤ m ∧ m < k ∧ Rq w' kr (q + 1) ∧ Ex kr w w' := by
  obtain ⟨a, n, cap, zs, p, h, h1, h2⟩ := h
  refine (pick_rd kr a n cap zs p k w h (by omega) k0 k1).mono ?_
  rintro e w' ⟨m, rfl, m0, m1, r, x⟩
  exact ⟨m, rfl, m0, m1, ⟨a, n, cap, zs, _, r, by omega, h2⟩, x⟩
/-- A pick among none. -/
theorem pickZ (kr : Nat) (q : Int) (w : World) (h : Rq w kr q) (hq : q < 1000000) :
    Calls Try.prog 59 #[.pointer (some ⟨kr, 0, none⟩), .int .i64 0] w fun e w' => e = .returned (.int .i64 0) ∧ Rq w' kr (q + 1) ∧ Ex kr w w' := by
  obtain ⟨a, n, cap, zs, p, h, h1, h2⟩ := h
  have c0 := h.sl
  have c1 := h.at_
  have c2 := h.open_
  have p0 := h.p0
  have p1 := h.p1
  go_enter Try.func59, Try.ntmps59
  go_wp2
  go_ret
  exact ⟨rfl, ⟨a, n, cap, zs, _, h.step (by omega) 0, by omega, h2⟩, (Ex.refl kr w).set 1 _⟩
theorem drawWantQ (kr : Nat) (q : Int) (c : ByteArray) (w : World) (h : Rq w kr q) (hq : q < 900000) :
    Calls Try.prog 78 #[.pointer (some ⟨kr, 0, none⟩), .string c] w fun e w' => ∃ (h : ByteArray) (v1 p1 s d g : Int), e = .returned (.agg #[.string c, .int .i64 v1, .string h, .int .i64 p1, .int .i64 s, .int .i64 d, .int .i64 g]) ∧ h.size ≤ 20 ∧ Rq w' kr (q + 22) ∧ Ex kr w w' := by
  obtain ⟨a, n, cap, zs, p, h, h1, h2⟩ := h
  refine (drawWant kr a n cap zs p c w h (by omega)).mono ?_
  rintro e w' ⟨x, v1, p1, s, d, g, rfl, hx, -, -, -, -, -, ⟨r, hr, hrq⟩, he⟩
  exact ⟨x, v1, p1, s, d, g, rfl, hx, ⟨a, n, cap, zs, r, hr, by omega, h2⟩, he⟩
theorem drawRunQ (kr : Nat) (q clock : Int) (c : ByteArray) (w : World) (h : Rq w kr q) (hq : q < 800000) (k0 : 0 ≤ clock) (k1 : clock ≤ 100000) :
    Calls Try.prog 77 #[.pointer (some ⟨kr, 0, none⟩), .string c, .int .i64 clock] w fun e w' => ∃ (h : ByteArray) (v1 p1 s d g st lf fl un : Int), e = .returned (.agg #[.string c, .int .i64 v1, .string h, .int .i64 p1, .int .i64 s, .int .i64 d, .int .i64 g, .int .i64 st, .int .i64 lf, .int .i64 fl, .int .i64 un]) ∧ (0 ≤ lf ∧ lf ≤ 100) ∧ (0 ≤ fl ∧ fl ≤ 100) ∧ h.size ≤ 20 ∧ (-100000 ≤ un ∧ un ≤ 200000) ∧ Rq w' kr (q + 100) ∧ Ex kr w w' := by
  obtain ⟨a, n, cap, zs, p, h, h1, h2⟩ := h
  refine (drawRun kr a n cap zs p clock c w h (by omega) k0 k1).mono ?_
  rintro e w' ⟨x, v1, p1, s, d, g, st, lf, fl, un, rfl, hlf, hfl, ⟨r, hr, hrq⟩, he, hx, hun⟩
  exact ⟨x, v1, p1, s, d, g, st, lf, fl, un, rfl, hlf, hfl, hx, hun, ⟨a, n, cap, zs, r, hr, by omega, h2⟩, he⟩
theorem spoilWantQ (kr : Nat) (q : Int) (c h : ByteArray) (v p s d g : Int) (w : World) (hr : Rq w kr q) (hq : q < 800000) (hcs : c.size ≤ maxLen) (hhs : h.size ≤ maxLen) :
    Calls Try.prog 137 #[.pointer (some ⟨kr, 0, none⟩), .agg #[.string c, .int .i64 v, .string h, .int .i64 p, .int .i64 s, .int .i64 d, .int .i64 g]] w fun e w' => ∃ (c h : ByteArray) (v p s d g : Int), e = .returned (.agg #[.string c, .int .i64 v, .string h, .int .i64 p, .int .i64 s, .int .i64 d, .int .i64 g]) ∧ c.size ≤ maxLen ∧ h.size ≤ maxLen ∧ Rq w' kr (q + 100) ∧ Ex kr w w' := by
  obtain ⟨a, n, cap, zs, q0, h0, h1, h2⟩ := hr
  refine (spoilWant kr a n cap zs q0 c h v p s d g w h0 (by omega) hcs hhs).mono ?_
  rintro e w' ⟨c', h', v', p', s', d', g', rfl, ⟨r, hr, hrq⟩, he, k1, k2⟩
  exact ⟨c', h', v', p', s', d', g', rfl, k1, k2, ⟨a, n, cap, zs, r, hr, by omega, h2⟩, he⟩
theorem spoilRunQ (kr : Nat) (q : Int) (c h : ByteArray) (v p s d g x1 x2 x3 x4 : Int) (w : World) (hr : Rq w kr q) (hq : q < 700000) (hx2 : x2 ≤ 1000) (hx3 : -1000 ≤ x3 ∧ x3 ≤ 1000) (hcs : c.size ≤ maxLen) (hhs : h.size ≤ maxLen) :
    Calls Try.prog 79 #[.pointer (some ⟨kr, 0, none⟩), .agg #[.string c, .int .i64 v, .string h, .int .i64 p, .int .i64 s, .int .i64 d, .int .i64 g, .int .i64 x1, .int .i64 x2, .int .i64 x3, .int .i64 x4]] w fun e w' => ∃ (c h : ByteArray) (v p s d g x1 x2 x3 x4 : Int), e = .returned (.agg #[.string c, .int .i64 v, .string h, .int .i64 p, .int .i64 s, .int .i64 d, .int .i64 g, .int .i64 x1, .int .i64 x2, .int .i64 x3, .int .i64 x4]) ∧ x2 ≤ 2000 ∧ (-2000 ≤ x3 ∧ x3 ≤ 2000) ∧ c.size ≤ maxLen ∧ h.size ≤ maxLen ∧ Rq w' kr (q + 200) ∧ Ex kr w w' := by
  obtain ⟨a, n, cap, zs, q0, h0, h1, h2⟩ := hr
  refine (spoilRun kr a n cap zs q0 c h v p s d g x1 x2 x3 x4 w h0 (by omega) hx2 hx3 hcs hhs).mono ?_
  rintro e w' ⟨c', h', v', p', s', d', g', y1, y2, y3, y4, rfl, k2, k3, ⟨r, hr, hrq⟩, he, k4, k5⟩
  exact ⟨c', h', v', p', s', d', g', y1, y2, y3, y4, rfl, k2, k3, k4, k5, ⟨a, n, cap, zs, r, hr, by omega, h2⟩, he⟩
/-- A number below ten. -/
theorem dec_small (n : Int) (h0 : 0 ≤ n) (h1 : n < 10) (w : World) :
    Calls Try.prog 171 #[.int .i64 n] w fun e w' => ∃ x : ByteArray, e = .returned (.string x) ∧ x.size = 1 ∧ Below w.heap.size w w' := by
  have hb := build_byte
  have hc := conv_byte
  go_enter Try.func171, Try.ntmps171
  go_wp2
  go_ret
  exact ⟨_, rfl, rfl, bl_alloc (Below.refl _ _) _⟩
end Go.Proofs.Ytkebokkckmgloaa
/- Lists that are given: empty, or they lie in a block. -/
namespace Go.Proofs.Ytkebokkckmgloaa
open Go.RowKit
set_option linter.unusedVariables false

/-- A list of runs that is given: empty, or it lies in a block. -/
def Gv (w : World) (a : Option Addr) (rs : List RunD) : Prop := rs = [] ∨ ∃ b, a = some ⟨b, 0, none⟩ ∧ b < w.heap.size ∧ RowsAt w b 0 rs
theorem Gv.keep {w w' : World} {a : Option Addr} {rs : List RunD} (h : Gv w a rs) (hb : Below w.heap.size w w') : Gv w' a rs := by
  rcases h with h | ⟨b, h1, h2, h3⟩
  · exact Or.inl h
  · exact Or.inr ⟨b, h1, Nat.lt_of_lt_of_le h2 hb.size, h3.keep h2 hb⟩
theorem Sl.gv {w : World} {a : Option Addr} {rs : List RunD} {c B : Nat} (h : Sl w (.slice a rs.length c) rs B) : Gv w a rs := by
  rcases h with ⟨h, rfl⟩ | ⟨g, cap, h0, h1, h2, h3, h4⟩
  · exact Or.inl rfl
  · cases h0; exact Or.inr ⟨g, rfl, h2, h3⟩
def W.Gv (w : World) (a : Option Addr) (ws : List W.WantD) : Prop := ws = [] ∨ ∃ b, a = some ⟨b, 0, none⟩ ∧ b < w.heap.size ∧ W.RowsAt w b 0 ws
theorem W.Gv.keep {w w' : World} {a : Option Addr} {ws : List W.WantD} (h : W.Gv w a ws) (hb : Below w.heap.size w w') : W.Gv w' a ws := by
  rcases h with h | ⟨b, h1, h2, h3⟩
  · exact Or.inl h
  · exact Or.inr ⟨b, h1, Nat.lt_of_lt_of_le h2 hb.size, h3.keep h2 hb⟩
theorem W.Sl.gv {w : World} {a : Option Addr} {rs : List W.WantD} {c B : Nat} (h : W.Sl w (.slice a rs.length c) rs B) : W.Gv w a rs := by
  rcases h with ⟨h, rfl⟩ | ⟨g, cap, h0, h1, h2, h3, h4⟩
  · exact Or.inl rfl
  · cases h0; exact Or.inr ⟨g, rfl, h2, h3⟩
def A.Gv (w : World) (a : Option Addr) (ws : List A.AskD) : Prop := ws = [] ∨ ∃ b, a = some ⟨b, 0, none⟩ ∧ b < w.heap.size ∧ A.RowsAt w b 0 ws
theorem A.Gv.keep {w w' : World} {a : Option Addr} {ws : List A.AskD} (h : A.Gv w a ws) (hb : Below w.heap.size w w') : A.Gv w' a ws := by
  rcases h with h | ⟨b, h1, h2, h3⟩
  · exact Or.inl h
  · exact Or.inr ⟨b, h1, Nat.lt_of_lt_of_le h2 hb.size, h3.keep h2 hb⟩
end Go.Proofs.Ytkebokkckmgloaa
