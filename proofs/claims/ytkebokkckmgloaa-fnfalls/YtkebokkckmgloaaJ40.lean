import Derived.Test.YtkebokkckmgloaaJ06
import Derived.Test.YtkebokkckmgloaaJ39
import Derived.Test.YtkebokkckmgloaaJ14
import Derived.Deep.QuietTactic
import Derived.BigQuiet
import Derived.Laws.MakeOwn
import Derived.Test.YtkebokkckmgloaaJ13
import Derived.Test.YtkebokkckmgloaaJ01
import Derived.Deep.RegionHeld3
import Derived.Laws.Pointers
import Derived.StillTactics
/- Like lists are told to be alike (the laws' own comparing). -/
namespace Go.Proofs.Ytkebokkckmgloaa
open Go.RowKit
set_option linter.unusedVariables false

theorem bl_dnW {k : Nat} {w w' : World} (h : Below k w w') {n : Nat} : Below k w (w'.drewN n) := ⟨h.os, h.tape, h.output, h.size, h.block⟩
theorem eql_runs (x0 x2 : ByteArray) (x1 x3 x4 x5 x6 x7 x8 x9 x10 : Int) (w : World) : Sem.run Try.prog (binOp .eql 38 (.agg #[.string x0, .int .i64 x1, .string x2, .int .i64 x3, .int .i64 x4, .int .i64 x5, .int .i64 x6, .int .i64 x7, .int .i64 x8, .int .i64 x9, .int .i64 x10]) (.agg #[.string x0, .int .i64 x1, .string x2, .int .i64 x3, .int .i64 x4, .int .i64 x5, .int .i64 x6, .int .i64 x7, .int .i64 x8, .int .i64 x9, .int .i64 x10])) w = .ok (.bool true) w := by
  rw [run_eql_struct, run_equalIn_agg _ _ _ _ _ (by kernel_rfl) (by kernel_rfl)]
  simp only [Program.fieldsOf, Try.underlying38, Op.eqFields]
  have hw := eql_want x0 x2 x0 x2 x1 x3 x4 x5 x6 x1 x3 x4 x5 x6 w
  rw [run_eql_struct] at hw
  simp [go_sem, Try.underlying3, Try.underlying9, Program.fieldsOf, Try.underlying36, Op.eqFields]
theorem neq_runs (x0 x2 : ByteArray) (x1 x3 x4 x5 x6 x7 x8 x9 x10 : Int) (w : World) : Sem.run Try.prog (binOp .neq 38 (.agg #[.string x0, .int .i64 x1, .string x2, .int .i64 x3, .int .i64 x4, .int .i64 x5, .int .i64 x6, .int .i64 x7, .int .i64 x8, .int .i64 x9, .int .i64 x10]) (.agg #[.string x0, .int .i64 x1, .string x2, .int .i64 x3, .int .i64 x4, .int .i64 x5, .int .i64 x6, .int .i64 x7, .int .i64 x8, .int .i64 x9, .int .i64 x10])) w = .ok (.bool false) w := by
  have hq := eql_runs x0 x2 x1 x3 x4 x5 x6 x7 x8 x9 x10 w
  rw [run_eql_struct] at hq
  rw [run_neq_struct]
  cases hr : (Op.equalIn 10000 38 (.agg #[.string x0, .int .i64 x1, .string x2, .int .i64 x3, .int .i64 x4, .int .i64 x5, .int .i64 x6, .int .i64 x7, .int .i64 x8, .int .i64 x9, .int .i64 x10]) (.agg #[.string x0, .int .i64 x1, .string x2, .int .i64 x3, .int .i64 x4, .int .i64 x5, .int .i64 x6, .int .i64 x7, .int .i64 x8, .int .i64 x9, .int .i64 x10])).run Try.prog w with
  | ok b w1 => rw [hr] at hq; simp at hq ⊢; obtain ⟨rfl, rfl⟩ := hq; simp
  | halt x w1 => rw [hr] at hq; simp [Result.andThen] at hq
theorem eql_ask (x0 x1 : ByteArray) (x2 x3 : Int) (w : World) : Sem.run Try.prog (binOp .eql 99 (.agg #[.string x0, .string x1, .int .i64 x2, .int .i64 x3]) (.agg #[.string x0, .string x1, .int .i64 x2, .int .i64 x3])) w = .ok (.bool true) w := by
  rw [run_eql_struct, run_equalIn_agg _ _ _ _ _ (by kernel_rfl) (by kernel_rfl)]
  simp only [Program.fieldsOf, Try.underlying99, Op.eqFields]
  simp [go_sem, Try.underlying3, Try.underlying9]
theorem neq_ask (x0 x1 : ByteArray) (x2 x3 : Int) (w : World) : Sem.run Try.prog (binOp .neq 99 (.agg #[.string x0, .string x1, .int .i64 x2, .int .i64 x3]) (.agg #[.string x0, .string x1, .int .i64 x2, .int .i64 x3])) w = .ok (.bool false) w := by
  have hq := eql_ask x0 x1 x2 x3 w
  rw [run_eql_struct] at hq
  rw [run_neq_struct]
  cases hr : (Op.equalIn 10000 99 (.agg #[.string x0, .string x1, .int .i64 x2, .int .i64 x3]) (.agg #[.string x0, .string x1, .int .i64 x2, .int .i64 x3])).run Try.prog w with
  | ok b w1 => rw [hr] at hq; simp at hq ⊢; obtain ⟨rfl, rfl⟩ := hq; simp
  | halt x w1 => rw [hr] at hq; simp [Result.andThen] at hq

set_option maxHeartbeats 1000000 in
theorem W.wEqRows (b1 n1 b2 n2 : Nat) (xs : List W.WantD) (w : World) (h1 : W.RowsAt w b1 0 xs) (h2 : W.RowsAt w b2 0 xs) (hl : xs.length ≤ 1048576) :
    Calls Try.prog 62 #[.slice (some ⟨b1, 0, none⟩) xs.length n1, .slice (some ⟨b2, 0, none⟩) xs.length n2] w fun e w' => e = .returned (.bool true) ∧ Below w.heap.size w w' := by
  go_enter Try.func62, Try.ntmps62
  go_wp2
  go_loopw [5] (fun i wx => ∃ (k : Nat), k ≤ xs.length ∧ i = .int .i64 k ∧ Hid (Below w.heap.size w wx) ∧ (∀ a, wx.cell? a = w.cell? a)) (fun i _ => xs.length - (intOf i).toNat)
  case atStart => exact ⟨0, Nat.zero_le _, rfl, Below.refl _ _, fun _ => rfl⟩
  case round =>
    obtain ⟨k, hk, rfl, HB, hc⟩ := hrel
    by_cases hlt : k < xs.length
    · obtain ⟨r, hr⟩ : ∃ r, xs[k]? = some r := ⟨xs[k], List.getElem?_eq_getElem hlt⟩
      have g1 : W.RowsAt wr b1 0 xs := fun j q hj i v hv => (hc _).trans (h1 j q hj i v hv)
      have g2 : W.RowsAt wr b2 0 xs := fun j q hj i v hv => (hc _).trans (h2 j q hj i v hv)
      obtain ⟨c0, c1, c2, c3, c4, c5, c6⟩ := g1.at hr
      obtain ⟨d0, d1, d2, d3, d4, d5, d6⟩ := g2.at hr
      simp only [Nat.zero_add] at c0 c1 c2 c3 c4 c5 c6 d0 d1 d2 d3 d4 d5 d6
      have HC : Hid (∀ a, wr.cell? a = w.cell? a) := hc
      have i0 : (0 : Int) ≤ (k : Int) := by omega
      have i1 : (k : Int) < (xs.length : Int) := by omega
      have hn : ∀ y : World, Sem.run Try.prog (binOp .neq 36 (.agg #[.string r.c, .int .i64 r.v, .string r.h, .int .i64 r.p, .int .i64 r.s, .int .i64 r.d, .int .i64 r.g]) (.agg #[.string r.c, .int .i64 r.v, .string r.h, .int .i64 r.p, .int .i64 r.s, .int .i64 r.d, .int .i64 r.g])) y = .ok (.bool false) y := fun y => by rw [neq_want]; simp [sameW]
      clear hr hc g1 g2
      go_wp2_with fail
      go_quiet (fail)
      go_wp2
      exact ⟨⟨k + 1, by omega, by go_num, bl_dnW HB.out, fun a => by rw [← HC.out a]; simp⟩, by simp [intOf]; omega⟩
    · go_wp2
      go_ret
      exact ⟨rfl, HB.out⟩
theorem W.wEq_zero (a1 a2 : Option Addr) (c1 c2 : Nat) (w : World) :
    Calls Try.prog 62 #[.slice a1 0 c1, .slice a2 0 c2] w fun e w' => e = .returned (.bool true) ∧ w' = w := by
  go_enter Try.func62, Try.ntmps62
  go_wp2
  refine wp_loop_rounds 1 ?_
  rw [rounds_succ]
  go_wp2
  go_ret
  exact ⟨rfl, rfl⟩
theorem W.wEq {w : World} {v1 v2 : Value} {l : List W.WantD} {B1 B2 : Nat} (h1 : W.Sl w v1 l B1) (h2 : W.Sl w v2 l B2) (hl : l.length ≤ 1048576) :
    Calls Try.prog 62 #[v1, v2] w fun e w' => e = .returned (.bool true) ∧ Below w.heap.size w w' := by
  have z : ∀ (a1 a2 : Option Addr) (c1 c2 : Nat), Calls Try.prog 62 #[.slice a1 0 c1, .slice a2 0 c2] w fun e w' => e = .returned (.bool true) ∧ Below w.heap.size w w' := fun a1 a2 c1 c2 => (W.wEq_zero a1 a2 c1 c2 w).mono (by rintro e w' ⟨rfl, rfl⟩; exact ⟨rfl, Below.refl _ _⟩)
  rcases h1 with ⟨rfl, rfl⟩ | ⟨g1, cap1, rfl, -, k2, k3, -⟩
  · rcases h2 with ⟨rfl, -⟩ | ⟨g2, cap2, rfl, -, m2, m3, -⟩
    · exact z _ _ _ _
    · exact z _ _ _ _
  · rcases h2 with ⟨rfl, rfl⟩ | ⟨g2, cap2, rfl, -, m2, m3, -⟩
    · exact z _ _ _ _
    · exact W.wEqRows g1 cap1 g2 cap2 l w k3 m3 hl

set_option maxHeartbeats 1000000 in
theorem wEqRows (b1 n1 b2 n2 : Nat) (xs : List RunD) (w : World) (h1 : RowsAt w b1 0 xs) (h2 : RowsAt w b2 0 xs) (hl : xs.length ≤ 1048576) :
    Calls Try.prog 24 #[.slice (some ⟨b1, 0, none⟩) xs.length n1, .slice (some ⟨b2, 0, none⟩) xs.length n2] w fun e w' => e = .returned (.bool true) ∧ Below w.heap.size w w' := by
  go_enter Try.func24, Try.ntmps24
  go_wp2
  go_loopw [5] (fun i wx => ∃ (k : Nat), k ≤ xs.length ∧ i = .int .i64 k ∧ Hid (Below w.heap.size w wx) ∧ (∀ a, wx.cell? a = w.cell? a)) (fun i _ => xs.length - (intOf i).toNat)
  case atStart => exact ⟨0, Nat.zero_le _, rfl, Below.refl _ _, fun _ => rfl⟩
  case round =>
    obtain ⟨k, hk, rfl, HB, hc⟩ := hrel
    by_cases hlt : k < xs.length
    · obtain ⟨r, hr⟩ : ∃ r, xs[k]? = some r := ⟨xs[k], List.getElem?_eq_getElem hlt⟩
      have g1 : RowsAt wr b1 0 xs := fun j q hj i v hv => (hc _).trans (h1 j q hj i v hv)
      have g2 : RowsAt wr b2 0 xs := fun j q hj i v hv => (hc _).trans (h2 j q hj i v hv)
      obtain ⟨c0, c1, c2, c3, c4, c5, c6, c7, c8, c9, c10⟩ := g1.at hr
      obtain ⟨d0, d1, d2, d3, d4, d5, d6, d7, d8, d9, d10⟩ := g2.at hr
      simp only [Nat.zero_add] at c0 c1 c2 c3 c4 c5 c6 c7 c8 c9 c10 d0 d1 d2 d3 d4 d5 d6 d7 d8 d9 d10
      have HC : Hid (∀ a, wr.cell? a = w.cell? a) := hc
      have i0 : (0 : Int) ≤ (k : Int) := by omega
      have i1 : (k : Int) < (xs.length : Int) := by omega
      have hn : ∀ y : World, Sem.run Try.prog (binOp .neq 38 (.agg #[.string r.c, .int .i64 r.v, .string r.h, .int .i64 r.p, .int .i64 r.s, .int .i64 r.d, .int .i64 r.g, .int .i64 r.a, .int .i64 r.b, .int .i64 r.i, .int .i64 r.u]) (.agg #[.string r.c, .int .i64 r.v, .string r.h, .int .i64 r.p, .int .i64 r.s, .int .i64 r.d, .int .i64 r.g, .int .i64 r.a, .int .i64 r.b, .int .i64 r.i, .int .i64 r.u])) y = .ok (.bool false) y := fun y => neq_runs _ _ _ _ _ _ _ _ _ _ _ y
      clear hr hc g1 g2
      go_wp2_with fail
      go_quiet (fail)
      go_wp2
      exact ⟨⟨k + 1, by omega, by go_num, bl_dnW HB.out, fun a => by rw [← HC.out a]; simp⟩, by simp [intOf]; omega⟩
    · go_wp2
      go_ret
      exact ⟨rfl, HB.out⟩
theorem wEq_zero (a1 a2 : Option Addr) (c1 c2 : Nat) (w : World) :
    Calls Try.prog 24 #[.slice a1 0 c1, .slice a2 0 c2] w fun e w' => e = .returned (.bool true) ∧ w' = w := by
  go_enter Try.func24, Try.ntmps24
  go_wp2
  refine wp_loop_rounds 1 ?_
  rw [rounds_succ]
  go_wp2
  go_ret
  exact ⟨rfl, rfl⟩
theorem wEq {w : World} {v1 v2 : Value} {l : List RunD} {B1 B2 : Nat} (h1 : Sl w v1 l B1) (h2 : Sl w v2 l B2) (hl : l.length ≤ 1048576) :
    Calls Try.prog 24 #[v1, v2] w fun e w' => e = .returned (.bool true) ∧ Below w.heap.size w w' := by
  have z : ∀ (a1 a2 : Option Addr) (c1 c2 : Nat), Calls Try.prog 24 #[.slice a1 0 c1, .slice a2 0 c2] w fun e w' => e = .returned (.bool true) ∧ Below w.heap.size w w' := fun a1 a2 c1 c2 => (wEq_zero a1 a2 c1 c2 w).mono (by rintro e w' ⟨rfl, rfl⟩; exact ⟨rfl, Below.refl _ _⟩)
  rcases h1 with ⟨rfl, rfl⟩ | ⟨g1, cap1, rfl, -, k2, k3, -⟩
  · rcases h2 with ⟨rfl, -⟩ | ⟨g2, cap2, rfl, -, m2, m3, -⟩
    · exact z _ _ _ _
    · exact z _ _ _ _
  · rcases h2 with ⟨rfl, rfl⟩ | ⟨g2, cap2, rfl, -, m2, m3, -⟩
    · exact z _ _ _ _
    · exact wEqRows g1 cap1 g2 cap2 l w k3 m3 hl

set_option maxHeartbeats 1000000 in
theorem A.wEqRows (b1 n1 b2 n2 : Nat) (xs : List A.AskD) (w : World) (h1 : A.RowsAt w b1 0 xs) (h2 : A.RowsAt w b2 0 xs) (hl : xs.length ≤ 1048576) :
    Calls Try.prog 63 #[.slice (some ⟨b1, 0, none⟩) xs.length n1, .slice (some ⟨b2, 0, none⟩) xs.length n2] w fun e w' => e = .returned (.bool true) ∧ Below w.heap.size w w' := by
  go_enter Try.func63, Try.ntmps63
  go_wp2
  go_loopw [5] (fun i wx => ∃ (k : Nat), k ≤ xs.length ∧ i = .int .i64 k ∧ Hid (Below w.heap.size w wx) ∧ (∀ a, wx.cell? a = w.cell? a)) (fun i _ => xs.length - (intOf i).toNat)
  case atStart => exact ⟨0, Nat.zero_le _, rfl, Below.refl _ _, fun _ => rfl⟩
  case round =>
    obtain ⟨k, hk, rfl, HB, hc⟩ := hrel
    by_cases hlt : k < xs.length
    · obtain ⟨r, hr⟩ : ∃ r, xs[k]? = some r := ⟨xs[k], List.getElem?_eq_getElem hlt⟩
      have g1 : A.RowsAt wr b1 0 xs := fun j q hj i v hv => (hc _).trans (h1 j q hj i v hv)
      have g2 : A.RowsAt wr b2 0 xs := fun j q hj i v hv => (hc _).trans (h2 j q hj i v hv)
      obtain ⟨c0, c1, c2, c3⟩ := g1.at hr
      obtain ⟨d0, d1, d2, d3⟩ := g2.at hr
      simp only [Nat.zero_add] at c0 c1 c2 c3 d0 d1 d2 d3
      have HC : Hid (∀ a, wr.cell? a = w.cell? a) := hc
      have i0 : (0 : Int) ≤ (k : Int) := by omega
      have i1 : (k : Int) < (xs.length : Int) := by omega
      have hn : ∀ y : World, Sem.run Try.prog (binOp .neq 99 (.agg #[.string r.h, .string r.c, .int .i64 r.f, .int .i64 r.t]) (.agg #[.string r.h, .string r.c, .int .i64 r.f, .int .i64 r.t])) y = .ok (.bool false) y := fun y => neq_ask _ _ _ _ y
      clear hr hc g1 g2
      go_wp2_with fail
      go_quiet (fail)
      go_wp2
      exact ⟨⟨k + 1, by omega, by go_num, bl_dnW HB.out, fun a => by rw [← HC.out a]; simp⟩, by simp [intOf]; omega⟩
    · go_wp2
      go_ret
      exact ⟨rfl, HB.out⟩
theorem A.wEq_zero (a1 a2 : Option Addr) (c1 c2 : Nat) (w : World) :
    Calls Try.prog 63 #[.slice a1 0 c1, .slice a2 0 c2] w fun e w' => e = .returned (.bool true) ∧ w' = w := by
  go_enter Try.func63, Try.ntmps63
  go_wp2
  refine wp_loop_rounds 1 ?_
  rw [rounds_succ]
  go_wp2
  go_ret
  exact ⟨rfl, rfl⟩
theorem A.wEq {w : World} {v1 v2 : Value} {l : List A.AskD} {B1 B2 : Nat} (h1 : A.Sl w v1 l B1) (h2 : A.Sl w v2 l B2) (hl : l.length ≤ 1048576) :
    Calls Try.prog 63 #[v1, v2] w fun e w' => e = .returned (.bool true) ∧ Below w.heap.size w w' := by
  have z : ∀ (a1 a2 : Option Addr) (c1 c2 : Nat), Calls Try.prog 63 #[.slice a1 0 c1, .slice a2 0 c2] w fun e w' => e = .returned (.bool true) ∧ Below w.heap.size w w' := fun a1 a2 c1 c2 => (A.wEq_zero a1 a2 c1 c2 w).mono (by rintro e w' ⟨rfl, rfl⟩; exact ⟨rfl, Below.refl _ _⟩)
  rcases h1 with ⟨rfl, rfl⟩ | ⟨g1, cap1, rfl, -, k2, k3, -⟩
  · rcases h2 with ⟨rfl, -⟩ | ⟨g2, cap2, rfl, -, m2, m3, -⟩
    · exact z _ _ _ _
    · exact z _ _ _ _
  · rcases h2 with ⟨rfl, rfl⟩ | ⟨g2, cap2, rfl, -, m2, m3, -⟩
    · exact z _ _ _ _
    · exact A.wEqRows g1 cap1 g2 cap2 l w k3 m3 hl

theorem wm_c {w w' : World} {O Z : Array Value} {t : TypeId} (hb : Below ((w.alloc (.cells O t)).alloc (.cells Z t)).heap.size ((w.alloc (.cells O t)).alloc (.cells Z t)) w') : (∀ k, w'.cell? ⟨w.heap.size, k, none⟩ = O[k]?) ∧ ∀ k, w'.cell? ⟨w.heap.size + 1, k, none⟩ = Z[k]? := by
  refine ⟨fun k => ?_, fun k => ?_⟩
  · rw [hb.cell (p := ⟨w.heap.size, k, none⟩) (by simp; omega)]
    simp [go_sem]
  · rw [hb.cell (p := ⟨w.heap.size + 1, k, none⟩) (by simp)]
    simp [go_sem]
set_option maxRecDepth 4000 in
set_option maxHeartbeats 4000000 in
theorem wMate_same (m : MateD) (a1 a2 a3 a4 b1 b2 b3 b4 : Option Addr) (ap1 ap2 ap3 ap4 bp1 bp2 bp3 bp4 B1 B2 : Nat) (w : World) (h1 : SlM w m (.slice a1 m.ws.length ap1) (.slice a2 m.rs.length ap2) (.slice a3 m.qs.length ap3) (.slice a4 m.gs.length ap4) B1) (h2 : SlM w m (.slice b1 m.ws.length bp1) (.slice b2 m.rs.length bp2) (.slice b3 m.qs.length bp3) (.slice b4 m.gs.length bp4) B2) (hl : Lens m) :
    Calls Try.prog 17 #[.agg #[.string m.nm, .bool m.up, .int .i64 m.ck, .bool m.kn, .int .i64 m.se, .slice a1 m.ws.length ap1, .slice a2 m.rs.length ap2, .slice a3 m.qs.length ap3, .slice a4 m.gs.length ap4], .agg #[.string m.nm, .bool m.up, .int .i64 m.ck, .bool m.kn, .int .i64 m.se, .slice b1 m.ws.length bp1, .slice b2 m.rs.length bp2, .slice b3 m.qs.length bp3, .slice b4 m.gs.length bp4]] w fun e w' => e = .returned (.bool true) ∧ Below w.heap.size w w' := by
  have Hb0 : Hid (Below w.heap.size w ((w.alloc (.cells #[.string m.nm, .bool m.up, .int .i64 m.ck, .bool m.kn, .int .i64 m.se, .slice a1 m.ws.length ap1, .slice a2 m.rs.length ap2, .slice a3 m.qs.length ap3, .slice a4 m.gs.length ap4] 27)).alloc (.cells #[.string m.nm, .bool m.up, .int .i64 m.ck, .bool m.kn, .int .i64 m.se, .slice b1 m.ws.length bp1, .slice b2 m.rs.length bp2, .slice b3 m.qs.length bp3, .slice b4 m.gs.length bp4] 27))) := bl_alloc (bl_alloc (Below.refl _ _) _) _
  have P0 : Hid (SlM ((w.alloc (.cells #[.string m.nm, .bool m.up, .int .i64 m.ck, .bool m.kn, .int .i64 m.se, .slice a1 m.ws.length ap1, .slice a2 m.rs.length ap2, .slice a3 m.qs.length ap3, .slice a4 m.gs.length ap4] 27)).alloc (.cells #[.string m.nm, .bool m.up, .int .i64 m.ck, .bool m.kn, .int .i64 m.se, .slice b1 m.ws.length bp1, .slice b2 m.rs.length bp2, .slice b3 m.qs.length bp3, .slice b4 m.gs.length bp4] 27)) m (.slice a1 m.ws.length ap1) (.slice a2 m.rs.length ap2) (.slice a3 m.qs.length ap3) (.slice a4 m.gs.length ap4) B1) := h1.keep Hb0.out
  have Q0 : Hid (SlM ((w.alloc (.cells #[.string m.nm, .bool m.up, .int .i64 m.ck, .bool m.kn, .int .i64 m.se, .slice a1 m.ws.length ap1, .slice a2 m.rs.length ap2, .slice a3 m.qs.length ap3, .slice a4 m.gs.length ap4] 27)).alloc (.cells #[.string m.nm, .bool m.up, .int .i64 m.ck, .bool m.kn, .int .i64 m.se, .slice b1 m.ws.length bp1, .slice b2 m.rs.length bp2, .slice b3 m.qs.length bp3, .slice b4 m.gs.length bp4] 27)) m (.slice b1 m.ws.length bp1) (.slice b2 m.rs.length bp2) (.slice b3 m.qs.length bp3) (.slice b4 m.gs.length bp4) B2) := h2.keep Hb0.out
  have D0 : Hid (Below ((w.alloc (.cells #[.string m.nm, .bool m.up, .int .i64 m.ck, .bool m.kn, .int .i64 m.se, .slice a1 m.ws.length ap1, .slice a2 m.rs.length ap2, .slice a3 m.qs.length ap3, .slice a4 m.gs.length ap4] 27)).alloc (.cells #[.string m.nm, .bool m.up, .int .i64 m.ck, .bool m.kn, .int .i64 m.se, .slice b1 m.ws.length bp1, .slice b2 m.rs.length bp2, .slice b3 m.qs.length bp3, .slice b4 m.gs.length bp4] 27)).heap.size ((w.alloc (.cells #[.string m.nm, .bool m.up, .int .i64 m.ck, .bool m.kn, .int .i64 m.se, .slice a1 m.ws.length ap1, .slice a2 m.rs.length ap2, .slice a3 m.qs.length ap3, .slice a4 m.gs.length ap4] 27)).alloc (.cells #[.string m.nm, .bool m.up, .int .i64 m.ck, .bool m.kn, .int .i64 m.se, .slice b1 m.ws.length bp1, .slice b2 m.rs.length bp2, .slice b3 m.qs.length bp3, .slice b4 m.gs.length bp4] 27)) ((w.alloc (.cells #[.string m.nm, .bool m.up, .int .i64 m.ck, .bool m.kn, .int .i64 m.se, .slice a1 m.ws.length ap1, .slice a2 m.rs.length ap2, .slice a3 m.qs.length ap3, .slice a4 m.gs.length ap4] 27)).alloc (.cells #[.string m.nm, .bool m.up, .int .i64 m.ck, .bool m.kn, .int .i64 m.se, .slice b1 m.ws.length bp1, .slice b2 m.rs.length bp2, .slice b3 m.qs.length bp3, .slice b4 m.gs.length bp4] 27))) := Below.refl _ _
  have Hl : Hid (Lens m) := hl
  clear h1 h2 hl
  go_enter Try.func17, Try.ntmps17
  go_wp2_with fail
  refine (W.wEq P0.out.a1 Q0.out.a1 Hl.out.k1).mono ?_
  rintro e w1 ⟨rfl, c⟩
  have P1 : Hid (SlM w1 m (.slice a1 m.ws.length ap1) (.slice a2 m.rs.length ap2) (.slice a3 m.qs.length ap3) (.slice a4 m.gs.length ap4) B1) := P0.out.keep c
  have Q1 : Hid (SlM w1 m (.slice b1 m.ws.length bp1) (.slice b2 m.rs.length bp2) (.slice b3 m.qs.length bp3) (.slice b4 m.gs.length bp4) B2) := Q0.out.keep c
  have D1 : Hid (Below ((w.alloc (.cells #[.string m.nm, .bool m.up, .int .i64 m.ck, .bool m.kn, .int .i64 m.se, .slice a1 m.ws.length ap1, .slice a2 m.rs.length ap2, .slice a3 m.qs.length ap3, .slice a4 m.gs.length ap4] 27)).alloc (.cells #[.string m.nm, .bool m.up, .int .i64 m.ck, .bool m.kn, .int .i64 m.se, .slice b1 m.ws.length bp1, .slice b2 m.rs.length bp2, .slice b3 m.qs.length bp3, .slice b4 m.gs.length bp4] 27)).heap.size ((w.alloc (.cells #[.string m.nm, .bool m.up, .int .i64 m.ck, .bool m.kn, .int .i64 m.se, .slice a1 m.ws.length ap1, .slice a2 m.rs.length ap2, .slice a3 m.qs.length ap3, .slice a4 m.gs.length ap4] 27)).alloc (.cells #[.string m.nm, .bool m.up, .int .i64 m.ck, .bool m.kn, .int .i64 m.se, .slice b1 m.ws.length bp1, .slice b2 m.rs.length bp2, .slice b3 m.qs.length bp3, .slice b4 m.gs.length bp4] 27)) w1) := bl_trans D0.out c
  skip
  have ka := (wm_c D1.out).1
  have kb := (wm_c D1.out).2
  clear c P0 Q0 D0
  go_wp2_with fail
  refine (wEq P1.out.a2 Q1.out.a2 Hl.out.k2).mono ?_
  rintro e w2 ⟨rfl, c⟩
  have P2 : Hid (SlM w2 m (.slice a1 m.ws.length ap1) (.slice a2 m.rs.length ap2) (.slice a3 m.qs.length ap3) (.slice a4 m.gs.length ap4) B1) := P1.out.keep c
  have Q2 : Hid (SlM w2 m (.slice b1 m.ws.length bp1) (.slice b2 m.rs.length bp2) (.slice b3 m.qs.length bp3) (.slice b4 m.gs.length bp4) B2) := Q1.out.keep c
  have D2 : Hid (Below ((w.alloc (.cells #[.string m.nm, .bool m.up, .int .i64 m.ck, .bool m.kn, .int .i64 m.se, .slice a1 m.ws.length ap1, .slice a2 m.rs.length ap2, .slice a3 m.qs.length ap3, .slice a4 m.gs.length ap4] 27)).alloc (.cells #[.string m.nm, .bool m.up, .int .i64 m.ck, .bool m.kn, .int .i64 m.se, .slice b1 m.ws.length bp1, .slice b2 m.rs.length bp2, .slice b3 m.qs.length bp3, .slice b4 m.gs.length bp4] 27)).heap.size ((w.alloc (.cells #[.string m.nm, .bool m.up, .int .i64 m.ck, .bool m.kn, .int .i64 m.se, .slice a1 m.ws.length ap1, .slice a2 m.rs.length ap2, .slice a3 m.qs.length ap3, .slice a4 m.gs.length ap4] 27)).alloc (.cells #[.string m.nm, .bool m.up, .int .i64 m.ck, .bool m.kn, .int .i64 m.se, .slice b1 m.ws.length bp1, .slice b2 m.rs.length bp2, .slice b3 m.qs.length bp3, .slice b4 m.gs.length bp4] 27)) w2) := bl_trans D1.out c
  clear ka kb
  have ka := (wm_c D2.out).1
  have kb := (wm_c D2.out).2
  clear c P1 Q1 D1
  go_wp2_with fail
  refine (A.wEq P2.out.a3 Q2.out.a3 Hl.out.k3).mono ?_
  rintro e w3 ⟨rfl, c⟩
  have P3 : Hid (SlM w3 m (.slice a1 m.ws.length ap1) (.slice a2 m.rs.length ap2) (.slice a3 m.qs.length ap3) (.slice a4 m.gs.length ap4) B1) := P2.out.keep c
  have Q3 : Hid (SlM w3 m (.slice b1 m.ws.length bp1) (.slice b2 m.rs.length bp2) (.slice b3 m.qs.length bp3) (.slice b4 m.gs.length bp4) B2) := Q2.out.keep c
  have D3 : Hid (Below ((w.alloc (.cells #[.string m.nm, .bool m.up, .int .i64 m.ck, .bool m.kn, .int .i64 m.se, .slice a1 m.ws.length ap1, .slice a2 m.rs.length ap2, .slice a3 m.qs.length ap3, .slice a4 m.gs.length ap4] 27)).alloc (.cells #[.string m.nm, .bool m.up, .int .i64 m.ck, .bool m.kn, .int .i64 m.se, .slice b1 m.ws.length bp1, .slice b2 m.rs.length bp2, .slice b3 m.qs.length bp3, .slice b4 m.gs.length bp4] 27)).heap.size ((w.alloc (.cells #[.string m.nm, .bool m.up, .int .i64 m.ck, .bool m.kn, .int .i64 m.se, .slice a1 m.ws.length ap1, .slice a2 m.rs.length ap2, .slice a3 m.qs.length ap3, .slice a4 m.gs.length ap4] 27)).alloc (.cells #[.string m.nm, .bool m.up, .int .i64 m.ck, .bool m.kn, .int .i64 m.se, .slice b1 m.ws.length bp1, .slice b2 m.rs.length bp2, .slice b3 m.qs.length bp3, .slice b4 m.gs.length bp4] 27)) w3) := bl_trans D2.out c
  clear ka kb
  have ka := (wm_c D3.out).1
  have kb := (wm_c D3.out).2
  clear c P2 Q2 D2
  go_wp2_with fail
  refine (A.wEq P3.out.a4 Q3.out.a4 Hl.out.k4).mono ?_
  rintro e w4 ⟨rfl, c⟩
  have P4 : Hid (SlM w4 m (.slice a1 m.ws.length ap1) (.slice a2 m.rs.length ap2) (.slice a3 m.qs.length ap3) (.slice a4 m.gs.length ap4) B1) := P3.out.keep c
  have Q4 : Hid (SlM w4 m (.slice b1 m.ws.length bp1) (.slice b2 m.rs.length bp2) (.slice b3 m.qs.length bp3) (.slice b4 m.gs.length bp4) B2) := Q3.out.keep c
  have D4 : Hid (Below ((w.alloc (.cells #[.string m.nm, .bool m.up, .int .i64 m.ck, .bool m.kn, .int .i64 m.se, .slice a1 m.ws.length ap1, .slice a2 m.rs.length ap2, .slice a3 m.qs.length ap3, .slice a4 m.gs.length ap4] 27)).alloc (.cells #[.string m.nm, .bool m.up, .int .i64 m.ck, .bool m.kn, .int .i64 m.se, .slice b1 m.ws.length bp1, .slice b2 m.rs.length bp2, .slice b3 m.qs.length bp3, .slice b4 m.gs.length bp4] 27)).heap.size ((w.alloc (.cells #[.string m.nm, .bool m.up, .int .i64 m.ck, .bool m.kn, .int .i64 m.se, .slice a1 m.ws.length ap1, .slice a2 m.rs.length ap2, .slice a3 m.qs.length ap3, .slice a4 m.gs.length ap4] 27)).alloc (.cells #[.string m.nm, .bool m.up, .int .i64 m.ck, .bool m.kn, .int .i64 m.se, .slice b1 m.ws.length bp1, .slice b2 m.rs.length bp2, .slice b3 m.qs.length bp3, .slice b4 m.gs.length bp4] 27)) w4) := bl_trans D3.out c
  clear ka kb
  have ka := (wm_c D4.out).1
  have kb := (wm_c D4.out).2
  clear c P3 Q3 D3
  go_wp2
  go_ret
  exact ⟨rfl, bl_trans Hb0.out D4.out⟩
end Go.Proofs.Ytkebokkckmgloaa
/- What a law's walk carries. -/
namespace Go.Proofs.Ytkebokkckmgloaa
open Go.RowKit
set_option linter.unusedVariables false

/-- A box of the call's own. -/
structure Lx (y : World) (b : Nat) (O : Array Value) : Prop where
  c : ∀ k, y.cell? ⟨b, k, none⟩ = O[k]?
  l : b < y.heap.size
theorem Lx.keep {y z : World} {b : Nat} {O : Array Value} (h : Lx y b O) (hb : Below y.heap.size y z) : Lx z b O :=
  ⟨fun k => (hb.cell (p := ⟨b, k, none⟩) h.l).trans (h.c k), Nat.lt_of_lt_of_le h.l hb.size⟩
theorem Lx.new (y : World) (O : Array Value) (t : TypeId) : Lx (y.alloc (.cells O t)) y.heap.size O :=
  ⟨fun k => by simp [go_sem], by simp⟩
end Go.Proofs.Ytkebokkckmgloaa
