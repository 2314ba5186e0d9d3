import Derived.Test.YtgakmkhbnjofhaaGreatDoorJ04
import Derived.Test.YtgakmkhbnjofhaaGreatDoorJ05
import Derived.Test.YtgakmkhbnjofhaaGreatDoorJ01
import Derived.Deep.MidRow
import Derived.Laws.MakeOwn
import Derived.Laws.AppendOwn
import Derived.Deep.RegionHeld3
import Derived.Laws.Pointers
import Derived.StillTactics
import Derived.Test.YtgakmkhbnjofhaaGreatDoorJ06
import Derived.Test.YtgakmkhbnjofhaaGreatDoorJ08
import Derived.Deep.QuietTactic
import Derived.BigQuiet
namespace Go.Proofs.YtgakmkhbnjofhaaGreatDoor
open Go.RowKit
set_option linter.unusedVariables false
def Rq (w : World) (kr : Nat) (q : Int) : Prop := ∃ a n cap zs p, Rd w kr a n cap zs p ∧ p ≤ q ∧ (n = 0 ∨ ∃ b off, a = some ⟨b, off, none⟩ ∧ b < kr)
theorem Rq.lt {w : World} {kr : Nat} {q : Int} (h : Rq w kr q) : kr < w.heap.size := by
 obtain ⟨a, n, cap, zs, p, h, -⟩ := h
 exact h.lt
theorem Rq.up {w : World} {kr : Nat} {q q' : Int} (h : Rq w kr q) (hq : q ≤ q') : Rq w kr q' := by
 obtain ⟨a, n, cap, zs, p, h, h1, h2⟩ := h
 exact ⟨a, n, cap, zs, p, h, Int.le_trans h1 hq, h2⟩
theorem Rq.grown {w w' : World} {kr : Nat} {q : Int} {row : Option Nat} (h : Rq w kr q) (hg : w.grownBy w' row) (hr : ∀ k, row = some k → kr < k) : Rq w' kr q := by
 obtain ⟨a, n, cap, zs, p, h, h1, h2⟩ := h
 have hk : w'.heap[kr]? = w.heap[kr]? := hg.block kr h.lt (fun e => by have := hr _ e.symm; omega)
 refine ⟨a, n, cap, zs, p, ⟨(World.cell?_of_block (w := w) (a := ⟨kr, 0, none⟩) hk).trans h.sl, (World.cell?_of_block (w := w) (a := ⟨kr, 1, none⟩) hk).trans h.at_, (World.frozen?_of_block (w := w) (a := ⟨kr, 1, none⟩) hk).trans h.open_, Nat.lt_of_lt_of_le h.lt hg.size, ?_, h.p0, h.p1⟩, h1, h2⟩
 obtain ⟨hn, hc⟩ := h.code
 refine ⟨hn, ?_⟩
 rcases h2 with hz | ⟨b, off, ha, hb⟩
 ·
  exact Or.inl hz
 rcases hc with hz | ⟨b', off', ha', hne, hlt, hcell⟩
 ·
  exact Or.inl hz
 rw [ha] at ha'
 cases ha'
 exact Or.inr ⟨b, off, ha, hne, Nat.lt_of_lt_of_le hlt hg.size, fun i hi => ⟨(World.cell?_of_block (w := w) (a := ⟨b, off + i, none⟩) (hg.block b hlt (fun e => by have := hr _ e.symm; omega))).trans (hcell i hi).1, (hcell i hi).2⟩⟩
theorem grown_below {w w' : World} (hb : Below w.heap.size w w') : w.grownBy w' none := ⟨hb.os, hb.tape, hb.output, hb.size, fun k hk _ => hb.block k hk⟩
theorem Rq.below {w w' : World} {kr : Nat} {q : Int} (h : Rq w kr q) (hb : Below w.heap.size w w') : Rq w' kr q := h.grown (grown_below hb) (fun k hk => by cases hk)
theorem Ex.grown {kr : Nat} {w x y : World} {row : Option Nat} (h : Ex kr w x) (hg : x.grownBy y row) (hr : ∀ k, row = some k → w.heap.size ≤ k) : Ex kr w y :=
 ⟨hg.os.trans h.os, hg.tape.trans h.tape, hg.output.trans h.output, Nat.le_trans h.size hg.size, fun k hk hne => (hg.block k (Nat.lt_of_lt_of_le hk h.size) (fun e => by have := hr _ e.symm; omega)).trans (h.block k hk hne)⟩
theorem Ex.then_below {kr : Nat} {w x y : World} (h : Ex kr w x) (hb : Below x.heap.size x y) : Ex kr w y := h.trans (Ex.of_below hb)
theorem pickQ (kr : Nat) (q k : Int) (w : World) (h : Rq w kr q) (hq : q < 1000000) (k0 : 1 ≤ k) (k1 : k ≤ 1000000) :
  Calls Tryz.prog 19 #[.pointer (some ⟨kr, 0, none⟩), .int .i64 k] w fun e w' => ∃ m : Int, e = .returned (.int .i64 m) ∧ 0 ≤ m ∧ m < k ∧ Rq w' kr (q + 1) ∧ Ex kr w w' := by
 obtain ⟨a, n, cap, zs, p, h, h1, h2⟩ := h
 refine (pick_rd kr a n cap zs p k w h (by omega) k0 k1).mono ?_
 rintro e w' ⟨m, rfl, m0, m1, r, x⟩
 exact ⟨m, rfl, m0, m1, ⟨a, n, cap, zs, _, r, by omega, h2⟩, x⟩
theorem drawWantQ (kr : Nat) (q : Int) (c : ByteArray) (w : World) (h : Rq w kr q) (hq : q < 900000) :
  Calls Tryz.prog 58 #[.pointer (some ⟨kr, 0, none⟩), .string c] w fun e w' => ∃ (h : ByteArray) (v1 p1 s d g : Int), e = .returned (.agg #[.string c, .int .i64 v1, .string h, .int .i64 p1, .int .i64 s, .int .i64 d, .int .i64 g]) ∧ h.size ≤ 20 ∧ Rq w' kr (q + 22) ∧ Ex kr w w' := by
 obtain ⟨a, n, cap, zs, p, h, h1, h2⟩ := h
 refine (drawWant kr a n cap zs p c w h (by omega)).mono ?_
 rintro e w' ⟨x, v1, p1, s, d, g, rfl, hx, -, -, -, -, -, ⟨r, hr, hrq⟩, he⟩
 exact ⟨x, v1, p1, s, d, g, rfl, hx, ⟨a, n, cap, zs, r, hr, by omega, h2⟩, he⟩
theorem drawRunQ (kr : Nat) (q clock : Int) (c : ByteArray) (w : World) (h : Rq w kr q) (hq : q < 800000) (k0 : 0 ≤ clock) (k1 : clock ≤ 100000) :
  Calls Tryz.prog 60 #[.pointer (some ⟨kr, 0, none⟩), .string c, .int .i64 clock] w fun e w' => ∃ (h : ByteArray) (v1 p1 s d g st lf fl un : Int), e = .returned (.agg #[.string c, .int .i64 v1, .string h, .int .i64 p1, .int .i64 s, .int .i64 d, .int .i64 g, .int .i64 st, .int .i64 lf, .int .i64 fl, .int .i64 un]) ∧ (0 ≤ lf ∧ lf ≤ 100) ∧ (0 ≤ fl ∧ fl ≤ 100) ∧ h.size ≤ 20 ∧ (-100000 ≤ un ∧ un ≤ 200000) ∧ Rq w' kr (q + 100) ∧ Ex kr w w' := by
 obtain ⟨a, n, cap, zs, p, h, h1, h2⟩ := h
 refine (drawRun kr a n cap zs p clock c w h (by omega) k0 k1).mono ?_
 rintro e w' ⟨x, v1, p1, s, d, g, st, lf, fl, un, rfl, hlf, hfl, ⟨r, hr, hrq⟩, he, hx, hun⟩
 exact ⟨x, v1, p1, s, d, g, st, lf, fl, un, rfl, hlf, hfl, hx, hun, ⟨a, n, cap, zs, r, hr, by omega, h2⟩, he⟩
theorem spoilWantQ (kr : Nat) (q : Int) (c h : ByteArray) (v p s d g : Int) (w : World) (hr : Rq w kr q) (hq : q < 800000) (hcs : c.size ≤ maxLen) (hhs : h.size ≤ maxLen) :
  Calls Tryz.prog 36 #[.pointer (some ⟨kr, 0, none⟩), .agg #[.string c, .int .i64 v, .string h, .int .i64 p, .int .i64 s, .int .i64 d, .int .i64 g]] w fun e w' => ∃ (c h : ByteArray) (v p s d g : Int), e = .returned (.agg #[.string c, .int .i64 v, .string h, .int .i64 p, .int .i64 s, .int .i64 d, .int .i64 g]) ∧ c.size ≤ maxLen ∧ h.size ≤ maxLen ∧ Rq w' kr (q + 100) ∧ Ex kr w w' := by
 obtain ⟨a, n, cap, zs, q0, h0, h1, h2⟩ := hr
 refine (spoilWant kr a n cap zs q0 c h v p s d g w h0 (by omega) hcs hhs).mono ?_
 rintro e w' ⟨c', h', v', p', s', d', g', rfl, ⟨r, hr, hrq⟩, he, k1, k2⟩
 exact ⟨c', h', v', p', s', d', g', rfl, k1, k2, ⟨a, n, cap, zs, r, hr, by omega, h2⟩, he⟩
theorem spoilRunQ (kr : Nat) (q : Int) (c h : ByteArray) (v p s d g x1 x2 x3 x4 : Int) (w : World) (hr : Rq w kr q) (hq : q < 700000) (hx2 : x2 ≤ 1000) (hx3 : -1000 ≤ x3 ∧ x3 ≤ 1000) (hcs : c.size ≤ maxLen) (hhs : h.size ≤ maxLen) :
  Calls Tryz.prog 38 #[.pointer (some ⟨kr, 0, none⟩), .agg #[.string c, .int .i64 v, .string h, .int .i64 p, .int .i64 s, .int .i64 d, .int .i64 g, .int .i64 x1, .int .i64 x2, .int .i64 x3, .int .i64 x4]] w fun e w' => ∃ (c h : ByteArray) (v p s d g x1 x2 x3 x4 : Int), e = .returned (.agg #[.string c, .int .i64 v, .string h, .int .i64 p, .int .i64 s, .int .i64 d, .int .i64 g, .int .i64 x1, .int .i64 x2, .int .i64 x3, .int .i64 x4]) ∧ x2 ≤ 2000 ∧ (-2000 ≤ x3 ∧ x3 ≤ 2000) ∧ c.size ≤ maxLen ∧ h.size ≤ maxLen ∧ Rq w' kr (q + 200) ∧ Ex kr w w' := by
 obtain ⟨a, n, cap, zs, q0, h0, h1, h2⟩ := hr
 refine (spoilRun kr a n cap zs q0 c h v p s d g x1 x2 x3 x4 w h0 (by omega) hx2 hx3 hcs hhs).mono ?_
 rintro e w' ⟨c', h', v', p', s', d', g', y1, y2, y3, y4, rfl, k2, k3, ⟨r, hr, hrq⟩, he, k4, k5⟩
 exact ⟨c', h', v', p', s', d', g', y1, y2, y3, y4, rfl, k2, k3, k4, k5, ⟨a, n, cap, zs, r, hr, by omega, h2⟩, he⟩
theorem dec_small (n : Int) (h0 : 0 ≤ n) (h1 : n < 10) (w : World) :
  Calls Tryz.prog 28 #[.int .i64 n] w fun e w' => ∃ x : ByteArray, e = .returned (.string x) ∧ x.size = 1 ∧ Below w.heap.size w w' := by
 have hb := build_byte
 have hc := conv_byte
 go_enter Tryz.func28, Tryz.ntmps28
 go_wp2
 go_ret
 exact ⟨_, rfl, rfl, bl_alloc (Below.refl _ _) _⟩
def W.Gv (w : World) (a : Option Addr) (ws : List W.WantD) : Prop := ws = [] ∨ ∃ b, a = some ⟨b, 0, none⟩ ∧ b < w.heap.size ∧ W.RowsAt w b 0 ws
theorem W.Sl.gv {w : World} {a : Option Addr} {rs : List W.WantD} {c B : Nat} (h : W.Sl w (.slice a rs.length c) rs B) : W.Gv w a rs := by
 rcases h with ⟨h, rfl⟩ | ⟨g, cap, h0, h1, h2, h3, h4⟩
 ·
  exact Or.inl rfl
 ·
  cases h0; exact Or.inr ⟨g, rfl, h2, h3⟩
end Go.Proofs.YtgakmkhbnjofhaaGreatDoor
