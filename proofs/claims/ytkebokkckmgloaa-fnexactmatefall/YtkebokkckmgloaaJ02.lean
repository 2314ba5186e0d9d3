import Derived.Test.YtkebokkckmgloaaJ01
import Derived.Laws.EntriesVeiled
import Derived.Deep.RegionHeld3
import Derived.Laws.StructEq
import Derived.Laws.Pointers
import Derived.StillTactics
/- Sizes of lists, and what is left. -/
namespace Go.Proofs.Ytkebokkckmgloaa
open Go.RowKit
set_option linter.unusedVariables false

set_option maxHeartbeats 1000000 in
theorem szRunS_m (b off cap : Nat) (rs : List RunD) (left : Int) (w : World) (hR : RowsAt w b off rs) (hb : b < w.heap.size) (hf : ∀ r ∈ rs, r.fits) (h0 : 0 ≤ left) (h1 : left ≤ 1048576) (hl : rs.length ≤ maxLen) :
    Calls Try.prog 35 #[.slice (some ⟨b, off, none⟩) rs.length cap, .int .i64 left] w fun e w' => (e = .returned (.int .i64 (-1)) ∨ ∃ m : Int, e = .returned (.int .i64 m) ∧ 0 ≤ m ∧ m ≤ 1048576 ∧ (rs.length : Int) ≤ left) ∧ Below w.heap.size w w' := by
  unfold maxLen at hl
  by_cases hn : (rs.length : Int) ≤ left
  · go_enter Try.func35, Try.ntmps35
    go_wp2
    go_loopw [1, 5] (fun l i wx => ∃ (k : Nat) (lv : Int), k ≤ rs.length ∧ i = .int .i64 k ∧ l = .int .i64 lv ∧ 0 ≤ lv ∧ lv ≤ 1048576 ∧ Below w.heap.size w wx) (fun _ i _ => rs.length - (intOf i).toNat)
    case atStart => exact ⟨0, _, Nat.zero_le _, rfl, rfl, by omega, by omega, Below.refl _ _⟩
    case round =>
      obtain ⟨k, lv, hk, rfl, rfl, l0, l1, hB⟩ := hrel
      by_cases hlt : k < rs.length
      · obtain ⟨r, hr⟩ : ∃ r, rs[k]? = some r := ⟨rs[k], List.getElem?_eq_getElem hlt⟩
        obtain ⟨c0, c1, c2, c3, c4, c5, c6, c7, c8, c9, c10⟩ := (hR.keep hb hB).at hr
        have hfr : r.fits := hf r (List.mem_of_getElem? hr)
        clear hr
        by_cases hsz : (r.c.size : Int) + r.h.size ≤ lv
        · go_wp2_with fail
          refine (szRun_yes r.c r.h r.v r.p r.s r.d r.g r.a r.b r.i r.u lv l0 l1 hsz _).mono ?_
          rintro e w1 ⟨rfl, hb1⟩
          go_wp2
          exact ⟨⟨k + 1, _, by omega, by go_num, rfl, by omega, by omega, bl_trans hB hb1⟩, by simp [intOf]; omega⟩
        · go_wp2_with fail
          refine (szRun_no r.c r.h r.v r.p r.s r.d r.g r.a r.b r.i r.u lv l0 l1 hfr.1 hfr.2.1 (by omega) _).mono ?_
          rintro e w1 ⟨rfl, hb1⟩
          go_wp2
          go_ret
          exact ⟨Or.inl rfl, bl_trans hB hb1⟩
      · go_wp2
        go_ret
        exact ⟨Or.inr ⟨_, rfl, l0, l1, hn⟩, hB⟩
  · go_enter Try.func35, Try.ntmps35
    go_wp2
    go_ret
    exact ⟨Or.inl rfl, Below.refl _ _⟩
theorem sz_nil (a : Option Addr) (cap : Nat) (left : Int) (w : World) (h0 : 0 ≤ left) (h1 : left ≤ 1048576) :
    Calls Try.prog 35 #[.slice a 0 cap, .int .i64 left] w fun e w' => e = .returned (.int .i64 left) ∧ w' = w := by
  go_enter Try.func35, Try.ntmps35
  go_wp2
  refine wp_loop_rounds 1 ?_
  rw [rounds_succ]
  go_wp2
  go_ret
  exact ⟨rfl, rfl⟩
theorem to_nil (a : Option Addr) (cap : Nat) (w : World) :
    Calls Try.prog 37 #[.slice a 0 cap] w fun e w' => e = .returned (.slice (some ⟨w.heap.size, 0, none⟩) 0 0) ∧ w.heap.size < w'.heap.size ∧ Below w.heap.size w w' := by
  obtain ⟨C, hC, hmk0⟩ := make_runs 0 (by omega)
  have hmk : ∀ w : World, Sem.run Try.prog (Instr.makeSlice 24 (.int .i64 0) (.int .i64 0)) w = .ok (.slice (some ⟨w.heap.size, 0, none⟩) 0 0) (w.alloc (.cells C 38)) := fun w => hmk0 w
  clear hmk0 hC
  go_enter Try.func37, Try.ntmps37
  go_wp2
  refine wp_loop_rounds 1 ?_
  rw [rounds_succ]
  go_wp2
  go_ret
  exact ⟨rfl, by simp, bl_alloc (Below.refl _ _) _⟩
/-- A list that came in. -/
def In (w : World) (v : Value) (l : List RunD) : Prop := (l = [] ∧ ∃ a cap, v = .slice a 0 cap) ∨ ∃ b off cap, v = .slice (some ⟨b, off, none⟩) l.length cap ∧ l.length ≤ maxLen ∧ b < w.heap.size ∧ RowsAt w b off l ∧ ∀ r ∈ l, r.fits
theorem In.keep {w w' : World} {v : Value} {l : List RunD} (h : In w v l) (hb : Below w.heap.size w w') : In w' v l := by
  rcases h with h | ⟨b, off, cap, h1, h2, h3, h4, h5⟩
  · exact Or.inl h
  · exact Or.inr ⟨b, off, cap, h1, h2, Nat.lt_of_lt_of_le h3 hb.size, h4.keep h3 hb, h5⟩
theorem In.fits {w : World} {v : Value} {l : List RunD} (h : In w v l) : ∀ r ∈ l, r.fits := by
  rcases h with ⟨rfl, -⟩ | ⟨b, off, cap, h1, h2, h3, h4, h5⟩
  · intro r hr; cases hr
  · exact h5
theorem sz_in {w : World} {v : Value} {l : List RunD} (h : In w v l) (left : Int) (h0 : 0 ≤ left) (h1 : left ≤ 1048576) :
    Calls Try.prog 35 #[v, .int .i64 left] w fun e w' => (e = .returned (.int .i64 (-1)) ∨ ∃ m : Int, e = .returned (.int .i64 m) ∧ 0 ≤ m ∧ m ≤ 1048576 ∧ l.length ≤ 1048576) ∧ Below w.heap.size w w' := by
  rcases h with ⟨rfl, a, cap, rfl⟩ | ⟨b, off, cap, rfl, k2, k3, k4, k5⟩
  · refine (sz_nil a cap left w h0 h1).mono ?_
    rintro e w' ⟨rfl, rfl⟩
    exact ⟨Or.inr ⟨left, rfl, h0, h1, by simp⟩, Below.refl _ _⟩
  · refine (szRunS_m b off cap l left w k4 k3 k5 h0 h1 k2).mono ?_
    rintro e w' ⟨rfl | ⟨m, rfl, m0, m1, hn⟩, hb⟩
    · exact ⟨Or.inl rfl, hb⟩
    · exact ⟨Or.inr ⟨m, rfl, m0, m1, by omega⟩, hb⟩
theorem to_in {w : World} {v : Value} {l : List RunD} (h : In w v l) (hl : l.length ≤ 1048576) :
    Calls Try.prog 37 #[v] w fun e w' => e = .returned (.slice (some ⟨w.heap.size, 0, none⟩) l.length l.length) ∧ RowsAt w' w.heap.size 0 l ∧ w.heap.size < w'.heap.size ∧ Below w.heap.size w w' := by
  rcases h with ⟨rfl, a, cap, rfl⟩ | ⟨b, off, cap, rfl, k2, k3, k4, k5⟩
  · refine (to_nil a cap w).mono ?_
    rintro e w' ⟨rfl, h1, h2⟩
    exact ⟨rfl, fun k r h => by simp at h, h1, h2⟩
  · refine (toRunS b off cap l w k4 k3 hl).mono ?_
    rintro e w' ⟨rfl, h1, -, h2, h3⟩
    exact ⟨rfl, h1, h2, h3⟩
end Go.Proofs.Ytkebokkckmgloaa
namespace Go.Proofs.Ytkebokkckmgloaa.W
open Go.RowKit
set_option linter.unusedVariables false

set_option maxHeartbeats 1000000 in
theorem szWantS_m (b off cap : Nat) (rs : List WantD) (left : Int) (w : World) (hR : RowsAt w b off rs) (hb : b < w.heap.size) (hf : ∀ r ∈ rs, r.fits) (h0 : 0 ≤ left) (h1 : left ≤ 1048576) (hl : rs.length ≤ maxLen) :
    Calls Try.prog 28 #[.slice (some ⟨b, off, none⟩) rs.length cap, .int .i64 left] w fun e w' => (e = .returned (.int .i64 (-1)) ∨ ∃ m : Int, e = .returned (.int .i64 m) ∧ 0 ≤ m ∧ m ≤ 1048576 ∧ (rs.length : Int) ≤ left) ∧ Below w.heap.size w w' := by
  unfold maxLen at hl
  by_cases hn : (rs.length : Int) ≤ left
  · go_enter Try.func28, Try.ntmps28
    go_wp2
    go_loopw [1, 5] (fun l i wx => ∃ (k : Nat) (lv : Int), k ≤ rs.length ∧ i = .int .i64 k ∧ l = .int .i64 lv ∧ 0 ≤ lv ∧ lv ≤ 1048576 ∧ Below w.heap.size w wx) (fun _ i _ => rs.length - (intOf i).toNat)
    case atStart => exact ⟨0, _, Nat.zero_le _, rfl, rfl, by omega, by omega, Below.refl _ _⟩
    case round =>
      obtain ⟨k, lv, hk, rfl, rfl, l0, l1, hB⟩ := hrel
      by_cases hlt : k < rs.length
      · obtain ⟨r, hr⟩ : ∃ r, rs[k]? = some r := ⟨rs[k], List.getElem?_eq_getElem hlt⟩
        obtain ⟨c0, c1, c2, c3, c4, c5, c6⟩ := (hR.keep hb hB).at hr
        have hfr : r.fits := hf r (List.mem_of_getElem? hr)
        clear hr
        by_cases hsz : (r.c.size : Int) + r.h.size ≤ lv
        · go_wp2_with fail
          refine (szWant_yes r.c r.h r.v r.p r.s r.d r.g lv l0 l1 hsz _).mono ?_
          rintro e w1 ⟨rfl, hb1⟩
          go_wp2
          exact ⟨⟨k + 1, _, by omega, by go_num, rfl, by omega, by omega, bl_trans hB hb1⟩, by simp [intOf]; omega⟩
        · go_wp2_with fail
          refine (szWant_no r.c r.h r.v r.p r.s r.d r.g lv l0 l1 hfr.1 hfr.2 (by omega) _).mono ?_
          rintro e w1 ⟨rfl, hb1⟩
          go_wp2
          go_ret
          exact ⟨Or.inl rfl, bl_trans hB hb1⟩
      · go_wp2
        go_ret
        exact ⟨Or.inr ⟨_, rfl, l0, l1, hn⟩, hB⟩
  · go_enter Try.func28, Try.ntmps28
    go_wp2
    go_ret
    exact ⟨Or.inl rfl, Below.refl _ _⟩
theorem sz_nil (a : Option Addr) (cap : Nat) (left : Int) (w : World) (h0 : 0 ≤ left) (h1 : left ≤ 1048576) :
    Calls Try.prog 28 #[.slice a 0 cap, .int .i64 left] w fun e w' => e = .returned (.int .i64 left) ∧ w' = w := by
  go_enter Try.func28, Try.ntmps28
  go_wp2
  refine wp_loop_rounds 1 ?_
  rw [rounds_succ]
  go_wp2
  go_ret
  exact ⟨rfl, rfl⟩
theorem to_nil (a : Option Addr) (cap : Nat) (w : World) :
    Calls Try.prog 30 #[.slice a 0 cap] w fun e w' => e = .returned (.slice (some ⟨w.heap.size, 0, none⟩) 0 0) ∧ w.heap.size < w'.heap.size ∧ Below w.heap.size w w' := by
  obtain ⟨C, hC, hmk0⟩ := make_wants 0 (by omega)
  have hmk : ∀ w : World, Sem.run Try.prog (Instr.makeSlice 23 (.int .i64 0) (.int .i64 0)) w = .ok (.slice (some ⟨w.heap.size, 0, none⟩) 0 0) (w.alloc (.cells C 36)) := fun w => hmk0 w
  clear hmk0 hC
  go_enter Try.func30, Try.ntmps30
  go_wp2
  refine wp_loop_rounds 1 ?_
  rw [rounds_succ]
  go_wp2
  go_ret
  exact ⟨rfl, by simp, bl_alloc (Below.refl _ _) _⟩
/-- A list that came in. -/
def In (w : World) (v : Value) (l : List WantD) : Prop := (l = [] ∧ ∃ a cap, v = .slice a 0 cap) ∨ ∃ b off cap, v = .slice (some ⟨b, off, none⟩) l.length cap ∧ l.length ≤ maxLen ∧ b < w.heap.size ∧ RowsAt w b off l ∧ ∀ r ∈ l, r.fits
theorem In.keep {w w' : World} {v : Value} {l : List WantD} (h : In w v l) (hb : Below w.heap.size w w') : In w' v l := by
  rcases h with h | ⟨b, off, cap, h1, h2, h3, h4, h5⟩
  · exact Or.inl h
  · exact Or.inr ⟨b, off, cap, h1, h2, Nat.lt_of_lt_of_le h3 hb.size, h4.keep h3 hb, h5⟩
theorem In.fits {w : World} {v : Value} {l : List WantD} (h : In w v l) : ∀ r ∈ l, r.fits := by
  rcases h with ⟨rfl, -⟩ | ⟨b, off, cap, h1, h2, h3, h4, h5⟩
  · intro r hr; cases hr
  · exact h5
theorem sz_in {w : World} {v : Value} {l : List WantD} (h : In w v l) (left : Int) (h0 : 0 ≤ left) (h1 : left ≤ 1048576) :
    Calls Try.prog 28 #[v, .int .i64 left] w fun e w' => (e = .returned (.int .i64 (-1)) ∨ ∃ m : Int, e = .returned (.int .i64 m) ∧ 0 ≤ m ∧ m ≤ 1048576 ∧ l.length ≤ 1048576) ∧ Below w.heap.size w w' := by
  rcases h with ⟨rfl, a, cap, rfl⟩ | ⟨b, off, cap, rfl, k2, k3, k4, k5⟩
  · refine (sz_nil a cap left w h0 h1).mono ?_
    rintro e w' ⟨rfl, rfl⟩
    exact ⟨Or.inr ⟨left, rfl, h0, h1, by simp⟩, Below.refl _ _⟩
  · refine (szWantS_m b off cap l left w k4 k3 k5 h0 h1 k2).mono ?_
    rintro e w' ⟨rfl | ⟨m, rfl, m0, m1, hn⟩, hb⟩
    · exact ⟨Or.inl rfl, hb⟩
    · exact ⟨Or.inr ⟨m, rfl, m0, m1, by omega⟩, hb⟩
theorem to_in {w : World} {v : Value} {l : List WantD} (h : In w v l) (hl : l.length ≤ 1048576) :
    Calls Try.prog 30 #[v] w fun e w' => e = .returned (.slice (some ⟨w.heap.size, 0, none⟩) l.length l.length) ∧ RowsAt w' w.heap.size 0 l ∧ w.heap.size < w'.heap.size ∧ Below w.heap.size w w' := by
  rcases h with ⟨rfl, a, cap, rfl⟩ | ⟨b, off, cap, rfl, k2, k3, k4, k5⟩
  · refine (to_nil a cap w).mono ?_
    rintro e w' ⟨rfl, h1, h2⟩
    exact ⟨rfl, fun k r h => by simp at h, h1, h2⟩
  · refine (toWantS b off cap l w k4 k3 hl).mono ?_
    rintro e w' ⟨rfl, h1, -, h2, h3⟩
    exact ⟨rfl, h1, h2, h3⟩
end Go.Proofs.Ytkebokkckmgloaa.W
namespace Go.Proofs.Ytkebokkckmgloaa.A
open Go.RowKit
set_option linter.unusedVariables false

set_option maxHeartbeats 1000000 in
theorem szAskS_m (b off cap : Nat) (rs : List AskD) (left : Int) (w : World) (hR : RowsAt w b off rs) (hb : b < w.heap.size) (hf : ∀ r ∈ rs, r.fits) (h0 : 0 ≤ left) (h1 : left ≤ 1048576) (hl : rs.length ≤ maxLen) :
    Calls Try.prog 101 #[.slice (some ⟨b, off, none⟩) rs.length cap, .int .i64 left] w fun e w' => (e = .returned (.int .i64 (-1)) ∨ ∃ m : Int, e = .returned (.int .i64 m) ∧ 0 ≤ m ∧ m ≤ 1048576 ∧ (rs.length : Int) ≤ left) ∧ Below w.heap.size w w' := by
  unfold maxLen at hl
  by_cases hn : (rs.length : Int) ≤ left
  · go_enter Try.func101, Try.ntmps101
    go_wp2
    go_loopw [1, 5] (fun l i wx => ∃ (k : Nat) (lv : Int), k ≤ rs.length ∧ i = .int .i64 k ∧ l = .int .i64 lv ∧ 0 ≤ lv ∧ lv ≤ 1048576 ∧ Below w.heap.size w wx) (fun _ i _ => rs.length - (intOf i).toNat)
    case atStart => exact ⟨0, _, Nat.zero_le _, rfl, rfl, by omega, by omega, Below.refl _ _⟩
    case round =>
      obtain ⟨k, lv, hk, rfl, rfl, l0, l1, hB⟩ := hrel
      by_cases hlt : k < rs.length
      · obtain ⟨r, hr⟩ : ∃ r, rs[k]? = some r := ⟨rs[k], List.getElem?_eq_getElem hlt⟩
        obtain ⟨c0, c1, c2, c3⟩ := (hR.keep hb hB).at hr
        have hfr : r.fits := hf r (List.mem_of_getElem? hr)
        clear hr
        by_cases hsz : (r.h.size : Int) + r.c.size ≤ lv
        · go_wp2_with fail
          refine (szAsk_yes r.h r.c r.f r.t lv l0 l1 hsz _).mono ?_
          rintro e w1 ⟨rfl, hb1⟩
          go_wp2
          exact ⟨⟨k + 1, _, by omega, by go_num, rfl, by omega, by omega, bl_trans hB hb1⟩, by simp [intOf]; omega⟩
        · go_wp2_with fail
          refine (szAsk_no r.h r.c r.f r.t lv l0 l1 hfr.1 hfr.2 (by omega) _).mono ?_
          rintro e w1 ⟨rfl, hb1⟩
          go_wp2
          go_ret
          exact ⟨Or.inl rfl, bl_trans hB hb1⟩
      · go_wp2
        go_ret
        exact ⟨Or.inr ⟨_, rfl, l0, l1, hn⟩, hB⟩
  · go_enter Try.func101, Try.ntmps101
    go_wp2
    go_ret
    exact ⟨Or.inl rfl, Below.refl _ _⟩
theorem sz_nil (a : Option Addr) (cap : Nat) (left : Int) (w : World) (h0 : 0 ≤ left) (h1 : left ≤ 1048576) :
    Calls Try.prog 101 #[.slice a 0 cap, .int .i64 left] w fun e w' => e = .returned (.int .i64 left) ∧ w' = w := by
  go_enter Try.func101, Try.ntmps101
  go_wp2
  refine wp_loop_rounds 1 ?_
  rw [rounds_succ]
  go_wp2
  go_ret
  exact ⟨rfl, rfl⟩
theorem to_nil (a : Option Addr) (cap : Nat) (w : World) :
    Calls Try.prog 102 #[.slice a 0 cap] w fun e w' => e = .returned (.slice (some ⟨w.heap.size, 0, none⟩) 0 0) ∧ w.heap.size < w'.heap.size ∧ Below w.heap.size w w' := by
  obtain ⟨C, hC, hmk0⟩ := make_asks 0 (by omega)
  have hmk : ∀ w : World, Sem.run Try.prog (Instr.makeSlice 25 (.int .i64 0) (.int .i64 0)) w = .ok (.slice (some ⟨w.heap.size, 0, none⟩) 0 0) (w.alloc (.cells C 99)) := fun w => hmk0 w
  clear hmk0 hC
  go_enter Try.func102, Try.ntmps102
  go_wp2
  refine wp_loop_rounds 1 ?_
  rw [rounds_succ]
  go_wp2
  go_ret
  exact ⟨rfl, by simp, bl_alloc (Below.refl _ _) _⟩
/-- A list that came in. -/
def In (w : World) (v : Value) (l : List AskD) : Prop := (l = [] ∧ ∃ a cap, v = .slice a 0 cap) ∨ ∃ b off cap, v = .slice (some ⟨b, off, none⟩) l.length cap ∧ l.length ≤ maxLen ∧ b < w.heap.size ∧ RowsAt w b off l ∧ ∀ r ∈ l, r.fits
theorem In.keep {w w' : World} {v : Value} {l : List AskD} (h : In w v l) (hb : Below w.heap.size w w') : In w' v l := by
  rcases h with h | ⟨b, off, cap, h1, h2, h3, h4, h5⟩
  · exact Or.inl h
  · exact Or.inr ⟨b, off, cap, h1, h2, Nat.lt_of_lt_of_le h3 hb.size, h4.keep h3 hb, h5⟩
theorem In.fits {w : World} {v : Value} {l : List AskD} (h : In w v l) : ∀ r ∈ l, r.fits := by
  rcases h with ⟨rfl, -⟩ | ⟨b, off, cap, h1, h2, h3, h4, h5⟩
  · intro r hr; cases hr
  · exact h5
theorem sz_in {w : World} {v : Value} {l : List AskD} (h : In w v l) (left : Int) (h0 : 0 ≤ left) (h1 : left ≤ 1048576) :
    Calls Try.prog 101 #[v, .int .i64 left] w fun e w' => (e = .returned (.int .i64 (-1)) ∨ ∃ m : Int, e = .returned (.int .i64 m) ∧ 0 ≤ m ∧ m ≤ 1048576 ∧ l.length ≤ 1048576) ∧ Below w.heap.size w w' := by
  rcases h with ⟨rfl, a, cap, rfl⟩ | ⟨b, off, cap, rfl, k2, k3, k4, k5⟩
  · refine (sz_nil a cap left w h0 h1).mono ?_
    rintro e w' ⟨rfl, rfl⟩
    exact ⟨Or.inr ⟨left, rfl, h0, h1, by simp⟩, Below.refl _ _⟩
  · refine (szAskS_m b off cap l left w k4 k3 k5 h0 h1 k2).mono ?_
    rintro e w' ⟨rfl | ⟨m, rfl, m0, m1, hn⟩, hb⟩
    · exact ⟨Or.inl rfl, hb⟩
    · exact ⟨Or.inr ⟨m, rfl, m0, m1, by omega⟩, hb⟩
theorem to_in {w : World} {v : Value} {l : List AskD} (h : In w v l) (hl : l.length ≤ 1048576) :
    Calls Try.prog 102 #[v] w fun e w' => e = .returned (.slice (some ⟨w.heap.size, 0, none⟩) l.length l.length) ∧ RowsAt w' w.heap.size 0 l ∧ w.heap.size < w'.heap.size ∧ Below w.heap.size w w' := by
  rcases h with ⟨rfl, a, cap, rfl⟩ | ⟨b, off, cap, rfl, k2, k3, k4, k5⟩
  · refine (to_nil a cap w).mono ?_
    rintro e w' ⟨rfl, h1, h2⟩
    exact ⟨rfl, fun k r h => by simp at h, h1, h2⟩
  · refine (toAskS b off cap l w k4 k3 hl).mono ?_
    rintro e w' ⟨rfl, h1, -, h2, h3⟩
    exact ⟨rfl, h1, h2, h3⟩
end Go.Proofs.Ytkebokkckmgloaa.A
/- Names, holds and numbers within bounds: both sides. -/
namespace Go.Proofs.Ytkebokkckmgloaa
open Go.RowKit
set_option linter.unusedVariables false

/-- A number within bounds. -/
def inB (n low high : Int) : Bool := decide (low ≤ n) && decide (n ≤ high)
/-- A byte that a name may hold. -/
def okc (c : UInt8) : Bool := decide (33 ≤ (c.toNat : Int)) && decide ((c.toNat : Int) ≤ 126)
def nameB (s : ByteArray) : Bool := inB s.size 1 20 && s.data.toList.all okc

theorem specIn_any (n low high : Int) (w : World) : Calls Try.prog 66 #[.int .i64 n, .int .i64 low, .int .i64 high] w fun e w' => e = .returned (.bool (inB n low high)) ∧ w' = w := by
  unfold inB
  by_cases h1 : low ≤ n
  · rw [decide_eq_true h1, Bool.true_and]
    go_enter Try.func66, Try.ntmps66
    go_wp2
    go_ret
    exact ⟨rfl, rfl⟩
  · rw [decide_eq_false h1, Bool.false_and]
    go_enter Try.func66, Try.ntmps66
    go_wp2
    go_ret
    exact ⟨rfl, rfl⟩

theorem within_any (n low high : Int) (w : World) : Calls Try.prog 130 #[.int .i64 n, .int .i64 low, .int .i64 high] w fun e w' => e = .returned (.bool (inB n low high)) ∧ w' = w := by
  unfold inB
  by_cases h1 : low ≤ n
  · rw [decide_eq_true h1, Bool.true_and]
    go_enter Try.func130, Try.ntmps130
    go_wp2
    go_ret
    exact ⟨rfl, rfl⟩
  · rw [decide_eq_false h1, Bool.false_and]
    go_enter Try.func130, Try.ntmps130
    go_wp2
    go_ret
    exact ⟨rfl, rfl⟩

theorem ret_b {a b : Bool} (h : a = b) : Ending.returned (.bool a) = .returned (.bool b) := by rw [h]
theorem take_snoc (s : ByteArray) (k : Nat) (h : k < s.size) : s.data.toList.take (k + 1) = s.data.toList.take k ++ [s[k]] := by
  rw [List.take_succ_eq_append_getElem (by simpa using h)]; rfl
theorem all_snoc (s : ByteArray) (k : Nat) (h : k < s.size) (ha : (s.data.toList.take k).all okc = true) (hc : okc s[k] = true) : (s.data.toList.take (k + 1)).all okc = true := by
  rw [take_snoc s k h, List.all_append, ha]; simp [hc]
theorem all_bad (s : ByteArray) (k : Nat) (h : k < s.size) (hc : okc s[k] = false) : s.data.toList.all okc = false := by
  rw [List.all_eq_false]
  exact ⟨s.data.toList[k]'(by simpa using h), List.getElem_mem _, by show ¬ okc s[k] = true; simp [hc]⟩
theorem all_end (s : ByteArray) (k : Nat) (h : s.size ≤ k) (ha : (s.data.toList.take k).all okc = true) : s.data.toList.all okc = true := by
  rwa [List.take_of_length_le (by simpa using h)] at ha

set_option maxHeartbeats 400000 in
theorem specName_any (s : ByteArray) (w : World) (hs : s.size ≤ maxLen) :
    Calls Try.prog 65 #[.string s] w fun e w' => e = .returned (.bool (nameB s)) ∧ w' = w := by
  unfold maxLen at hs
  cases hin : inB s.size 1 20
  · rw [show nameB s = false from by simp [nameB, hin]]
    go_enter Try.func65, Try.ntmps65
    go_wp2_with (go_at_call 66; refine (specIn_any _ _ _ _).mono ?_; rintro e w' ⟨rfl, rfl⟩)
    go_ret
    exact ⟨rfl, rfl⟩
  · have hl : s.size ≤ 20 := by simp [inB] at hin; omega
    have Hn : Hid (nameB s = s.data.toList.all okc) := by show nameB s = _; simp [nameB, hin]
    go_enter Try.func65, Try.ntmps65
    go_wp2_with (go_at_call 66; refine (specIn_any _ _ _ _).mono ?_; rintro e w' ⟨rfl, rfl⟩)
    go_loop [3] (fun i => ∃ k : Nat, k ≤ s.size ∧ i = .int .i64 k ∧ (s.data.toList.take k).all okc = true) (fun i => s.size - (intOf i).toNat)
    case atStart => exact ⟨0, Nat.zero_le _, rfl, rfl⟩
    case round =>
      obtain ⟨k, hk, rfl, hall⟩ := hrel
      have Ha : Hid _ := hall
      clear hall
      by_cases hlt : k < s.size
      · by_cases b1 : (s[k].toNat : Int) < 33
        · go_wp2
          go_ret
          exact ⟨ret_b (by rw [Hn.out, all_bad s k hlt (by simp [okc]; omega)]), rfl⟩
        · by_cases b2 : 126 < (s[k].toNat : Int)
          · go_wp2
            go_ret
            exact ⟨ret_b (by rw [Hn.out, all_bad s k hlt (by simp [okc]; omega)]), rfl⟩
          · have Hc : Hid (okc s[k] = true) := by show okc s[k] = true; simp [okc]; omega
            go_wp2
            exact ⟨⟨k + 1, by omega, by go_num, all_snoc s k hlt Ha.out Hc.out⟩, by simp [intOf]; omega⟩
      · go_wp2
        go_ret
        exact ⟨ret_b (by rw [Hn.out, all_end s k (by omega) Ha.out]), rfl⟩

set_option maxHeartbeats 400000 in
theorem implName_any (s : ByteArray) (w : World) (hs : s.size ≤ maxLen) :
    Calls Try.prog 129 #[.string s] w fun e w' => e = .returned (.bool (nameB s)) ∧ w' = w := by
  unfold maxLen at hs
  cases hin : inB s.size 1 20
  · rw [show nameB s = false from by simp [nameB, hin]]
    go_enter Try.func129, Try.ntmps129
    go_wp2_with (go_at_call 130; refine (within_any _ _ _ _).mono ?_; rintro e w' ⟨rfl, rfl⟩)
    go_ret
    exact ⟨rfl, rfl⟩
  · have hl : s.size ≤ 20 := by simp [inB] at hin; omega
    have Hn : Hid (nameB s = s.data.toList.all okc) := by show nameB s = _; simp [nameB, hin]
    go_enter Try.func129, Try.ntmps129
    go_wp2_with (go_at_call 130; refine (within_any _ _ _ _).mono ?_; rintro e w' ⟨rfl, rfl⟩)
    go_loop [10] (fun i => ∃ k : Nat, k ≤ s.size ∧ i = .int .i64 k ∧ (s.data.toList.take k).all okc = true) (fun i => s.size - (intOf i).toNat)
    case atStart => exact ⟨0, Nat.zero_le _, rfl, rfl⟩
    case round =>
      obtain ⟨k, hk, rfl, hall⟩ := hrel
      have Ha : Hid _ := hall
      clear hall
      by_cases hlt : k < s.size
      · by_cases b1 : (s[k].toNat : Int) < 33
        · go_wp2
          go_ret
          exact ⟨ret_b (by rw [Hn.out, all_bad s k hlt (by simp [okc]; omega)]), rfl⟩
        · by_cases b2 : 126 < (s[k].toNat : Int)
          · go_wp2
            go_ret
            exact ⟨ret_b (by rw [Hn.out, all_bad s k hlt (by simp [okc]; omega)]), rfl⟩
          · have Hc : Hid (okc s[k] = true) := by show okc s[k] = true; simp [okc]; omega
            go_wp2
            exact ⟨⟨k + 1, by omega, by go_num, all_snoc s k hlt Ha.out Hc.out⟩, by simp [intOf]; omega⟩
      · go_wp2
        go_ret
        exact ⟨ret_b (by rw [Hn.out, all_end s k (by omega) Ha.out]), rfl⟩

/-- A hold: a name other than a star. -/
def holdB (s : ByteArray) : Bool := nameB s && !(s.toList == [42])

theorem specHold_any (s : ByteArray) (w : World) (hs : s.size ≤ maxLen) :
    Calls Try.prog 110 #[.string s] w fun e w' => e = .returned (.bool (holdB s)) ∧ w' = w := by
  unfold holdB
  cases hn : nameB s
  · go_enter Try.func110, Try.ntmps110
    go_wp2_with (go_at_call 65; refine (specName_any s _ hs).mono ?_; rintro e w' ⟨rfl, rfl⟩)
    go_ret
    exact ⟨rfl, rfl⟩
  · go_enter Try.func110, Try.ntmps110
    go_wp2_with (go_at_call 65; refine (specName_any s _ hs).mono ?_; rintro e w' ⟨rfl, rfl⟩)
    go_ret
    exact ⟨rfl, rfl⟩
theorem implHold_any (s : ByteArray) (w : World) (hs : s.size ≤ maxLen) :
    Calls Try.prog 182 #[.string s] w fun e w' => e = .returned (.bool (holdB s)) ∧ w' = w := by
  unfold holdB
  cases hn : nameB s
  · go_enter Try.func182, Try.ntmps182
    go_wp2_with (go_at_call 129; refine (implName_any s _ hs).mono ?_; rintro e w' ⟨rfl, rfl⟩)
    go_ret
    exact ⟨rfl, rfl⟩
  · go_enter Try.func182, Try.ntmps182
    go_wp2_with (go_at_call 129; refine (implName_any s _ hs).mono ?_; rintro e w' ⟨rfl, rfl⟩)
    go_ret
    exact ⟨rfl, rfl⟩
end Go.Proofs.Ytkebokkckmgloaa
/- Is a want alone such? Both sides. -/
namespace Go.Proofs.Ytkebokkckmgloaa
open Go.RowKit
set_option linter.unusedVariables false

def ticksB (p s d g : Int) : Bool := inB p 0 100 && (inB s 0 100 && (inB d 0 100 && inB g 0 100))
def wantB (c h : ByteArray) (v p s d g : Int) : Bool := nameB c && (inB v 1 1000000 && ((h.toList.isEmpty || holdB h) && ticksB p s d g))

set_option maxHeartbeats 1000000 in
theorem specWant_any (c h : ByteArray) (v p s d g : Int) (w : World) (hc : c.size ≤ maxLen) (hh : h.size ≤ maxLen) :
    Calls Try.prog 85 #[.agg #[.string c, .int .i64 v, .string h, .int .i64 p, .int .i64 s, .int .i64 d, .int .i64 g]] w fun e w' => e = .returned (.bool (wantB c h v p s d g)) ∧ w' = w.alloc (.cells #[.string c, .int .i64 v, .string h, .int .i64 p, .int .i64 s, .int .i64 d, .int .i64 g] 36) := by
  cases h0 : nameB c
  · go_enter Try.func85, Try.ntmps85
    go_wp2_with (first | (go_at_call 65; refine (specName_any c _ hc).mono ?_; rintro e w' ⟨rfl, rfl⟩) | (go_at_call 110; refine (specHold_any h _ hh).mono ?_; rintro e w' ⟨rfl, rfl⟩) | (go_at_call 66; refine (specIn_any _ _ _ _).mono ?_; rintro e w' ⟨rfl, rfl⟩))
    go_ret
    exact ⟨ret_b (by simp [wantB, ticksB, *]), rfl⟩
  · skip
    cases h1 : inB v 1 1000000
    · go_enter Try.func85, Try.ntmps85
      go_wp2_with (first | (go_at_call 65; refine (specName_any c _ hc).mono ?_; rintro e w' ⟨rfl, rfl⟩) | (go_at_call 110; refine (specHold_any h _ hh).mono ?_; rintro e w' ⟨rfl, rfl⟩) | (go_at_call 66; refine (specIn_any _ _ _ _).mono ?_; rintro e w' ⟨rfl, rfl⟩))
      go_ret
      exact ⟨ret_b (by simp [wantB, ticksB, *]), rfl⟩
    · skip
      have he : (h.toList.isEmpty || holdB h) = false ∨ (h.toList.isEmpty = true) ∨ (h.toList.isEmpty = false ∧ holdB h = true) := by cases h.toList.isEmpty <;> cases holdB h <;> simp
      rcases he with he | he | he
      · obtain ⟨e1, e2⟩ : h.toList.isEmpty = false ∧ holdB h = false := by simpa using he
        clear he
        go_enter Try.func85, Try.ntmps85
        go_wp2_with (first | (go_at_call 65; refine (specName_any c _ hc).mono ?_; rintro e w' ⟨rfl, rfl⟩) | (go_at_call 110; refine (specHold_any h _ hh).mono ?_; rintro e w' ⟨rfl, rfl⟩) | (go_at_call 66; refine (specIn_any _ _ _ _).mono ?_; rintro e w' ⟨rfl, rfl⟩))
        go_ret
        exact ⟨ret_b (by simp [wantB, ticksB, *]), rfl⟩
      · skip
        cases q0 : inB p 0 100
        · go_enter Try.func85, Try.ntmps85
          go_wp2_with (first | (go_at_call 65; refine (specName_any c _ hc).mono ?_; rintro e w' ⟨rfl, rfl⟩) | (go_at_call 110; refine (specHold_any h _ hh).mono ?_; rintro e w' ⟨rfl, rfl⟩) | (go_at_call 66; refine (specIn_any _ _ _ _).mono ?_; rintro e w' ⟨rfl, rfl⟩))
          go_ret
          exact ⟨ret_b (by simp [wantB, ticksB, *]), rfl⟩
        · skip
          cases q1 : inB s 0 100
          · go_enter Try.func85, Try.ntmps85
            go_wp2_with (first | (go_at_call 65; refine (specName_any c _ hc).mono ?_; rintro e w' ⟨rfl, rfl⟩) | (go_at_call 110; refine (specHold_any h _ hh).mono ?_; rintro e w' ⟨rfl, rfl⟩) | (go_at_call 66; refine (specIn_any _ _ _ _).mono ?_; rintro e w' ⟨rfl, rfl⟩))
            go_ret
            exact ⟨ret_b (by simp [wantB, ticksB, *]), rfl⟩
          · skip
            cases q2 : inB d 0 100
            · go_enter Try.func85, Try.ntmps85
              go_wp2_with (first | (go_at_call 65; refine (specName_any c _ hc).mono ?_; rintro e w' ⟨rfl, rfl⟩) | (go_at_call 110; refine (specHold_any h _ hh).mono ?_; rintro e w' ⟨rfl, rfl⟩) | (go_at_call 66; refine (specIn_any _ _ _ _).mono ?_; rintro e w' ⟨rfl, rfl⟩))
              go_ret
              exact ⟨ret_b (by simp [wantB, ticksB, *]), rfl⟩
            · skip
              cases q3 : inB g 0 100
              · go_enter Try.func85, Try.ntmps85
                go_wp2_with (first | (go_at_call 65; refine (specName_any c _ hc).mono ?_; rintro e w' ⟨rfl, rfl⟩) | (go_at_call 110; refine (specHold_any h _ hh).mono ?_; rintro e w' ⟨rfl, rfl⟩) | (go_at_call 66; refine (specIn_any _ _ _ _).mono ?_; rintro e w' ⟨rfl, rfl⟩))
                go_ret
                exact ⟨ret_b (by simp [wantB, ticksB, *]), rfl⟩
              · go_enter Try.func85, Try.ntmps85
                go_wp2_with (first | (go_at_call 65; refine (specName_any c _ hc).mono ?_; rintro e w' ⟨rfl, rfl⟩) | (go_at_call 110; refine (specHold_any h _ hh).mono ?_; rintro e w' ⟨rfl, rfl⟩) | (go_at_call 66; refine (specIn_any _ _ _ _).mono ?_; rintro e w' ⟨rfl, rfl⟩))
                go_ret
                exact ⟨ret_b (by simp [wantB, ticksB, *]), rfl⟩
      · obtain ⟨e1, e2⟩ := he
        cases q0 : inB p 0 100
        · go_enter Try.func85, Try.ntmps85
          go_wp2_with (first | (go_at_call 65; refine (specName_any c _ hc).mono ?_; rintro e w' ⟨rfl, rfl⟩) | (go_at_call 110; refine (specHold_any h _ hh).mono ?_; rintro e w' ⟨rfl, rfl⟩) | (go_at_call 66; refine (specIn_any _ _ _ _).mono ?_; rintro e w' ⟨rfl, rfl⟩))
          go_ret
          exact ⟨ret_b (by simp [wantB, ticksB, *]), rfl⟩
        · skip
          cases q1 : inB s 0 100
          · go_enter Try.func85, Try.ntmps85
            go_wp2_with (first | (go_at_call 65; refine (specName_any c _ hc).mono ?_; rintro e w' ⟨rfl, rfl⟩) | (go_at_call 110; refine (specHold_any h _ hh).mono ?_; rintro e w' ⟨rfl, rfl⟩) | (go_at_call 66; refine (specIn_any _ _ _ _).mono ?_; rintro e w' ⟨rfl, rfl⟩))
            go_ret
            exact ⟨ret_b (by simp [wantB, ticksB, *]), rfl⟩
          · skip
            cases q2 : inB d 0 100
            · go_enter Try.func85, Try.ntmps85
              go_wp2_with (first | (go_at_call 65; refine (specName_any c _ hc).mono ?_; rintro e w' ⟨rfl, rfl⟩) | (go_at_call 110; refine (specHold_any h _ hh).mono ?_; rintro e w' ⟨rfl, rfl⟩) | (go_at_call 66; refine (specIn_any _ _ _ _).mono ?_; rintro e w' ⟨rfl, rfl⟩))
              go_ret
              exact ⟨ret_b (by simp [wantB, ticksB, *]), rfl⟩
            · skip
              cases q3 : inB g 0 100
              · go_enter Try.func85, Try.ntmps85
                go_wp2_with (first | (go_at_call 65; refine (specName_any c _ hc).mono ?_; rintro e w' ⟨rfl, rfl⟩) | (go_at_call 110; refine (specHold_any h _ hh).mono ?_; rintro e w' ⟨rfl, rfl⟩) | (go_at_call 66; refine (specIn_any _ _ _ _).mono ?_; rintro e w' ⟨rfl, rfl⟩))
                go_ret
                exact ⟨ret_b (by simp [wantB, ticksB, *]), rfl⟩
              · go_enter Try.func85, Try.ntmps85
                go_wp2_with (first | (go_at_call 65; refine (specName_any c _ hc).mono ?_; rintro e w' ⟨rfl, rfl⟩) | (go_at_call 110; refine (specHold_any h _ hh).mono ?_; rintro e w' ⟨rfl, rfl⟩) | (go_at_call 66; refine (specIn_any _ _ _ _).mono ?_; rintro e w' ⟨rfl, rfl⟩))
                go_ret
                exact ⟨ret_b (by simp [wantB, ticksB, *]), rfl⟩

theorem copyOk_any (c h : ByteArray) (v p s d g : Int) (w : World) (hc : c.size ≤ maxLen) (hh : h.size ≤ maxLen) :
    Calls Try.prog 178 #[.agg #[.string c, .int .i64 v, .string h, .int .i64 p, .int .i64 s, .int .i64 d, .int .i64 g]] w fun e w' => e = .returned (.bool (nameB c)) ∧ w' = w.alloc (.cells #[.string c, .int .i64 v, .string h, .int .i64 p, .int .i64 s, .int .i64 d, .int .i64 g] 36) := by
  go_enter Try.func178, Try.ntmps178
  go_wp2_with (go_at_call 129; refine (implName_any c _ hc).mono ?_; rintro e w' ⟨rfl, rfl⟩)
  go_ret
  exact ⟨rfl, rfl⟩

theorem versionOk_any (c h : ByteArray) (v p s d g : Int) (w : World) (hc : c.size ≤ maxLen) (hh : h.size ≤ maxLen) :
    Calls Try.prog 179 #[.agg #[.string c, .int .i64 v, .string h, .int .i64 p, .int .i64 s, .int .i64 d, .int .i64 g]] w fun e w' => e = .returned (.bool (inB v 1 1000000)) ∧ w' = w.alloc (.cells #[.string c, .int .i64 v, .string h, .int .i64 p, .int .i64 s, .int .i64 d, .int .i64 g] 36) := by
  go_enter Try.func179, Try.ntmps179
  go_wp2_with (go_at_call 130; refine (within_any _ _ _ _).mono ?_; rintro e w' ⟨rfl, rfl⟩)
  go_ret
  exact ⟨rfl, rfl⟩

theorem holdOk_any (c h : ByteArray) (v p s d g : Int) (w : World) (hc : c.size ≤ maxLen) (hh : h.size ≤ maxLen) :
    Calls Try.prog 180 #[.agg #[.string c, .int .i64 v, .string h, .int .i64 p, .int .i64 s, .int .i64 d, .int .i64 g]] w fun e w' => e = .returned (.bool (h.toList.isEmpty || holdB h)) ∧ w' = w.alloc (.cells #[.string c, .int .i64 v, .string h, .int .i64 p, .int .i64 s, .int .i64 d, .int .i64 g] 36) := by
  cases he : h.toList.isEmpty
  · go_enter Try.func180, Try.ntmps180
    go_wp2_with (go_at_call 182; refine (implHold_any h _ hh).mono ?_; rintro e w' ⟨rfl, rfl⟩)
    go_ret
    exact ⟨rfl, rfl⟩
  · go_enter Try.func180, Try.ntmps180
    go_wp2
    go_ret
    exact ⟨rfl, rfl⟩

theorem build4 (p s d g : Int) (w : World) : Sem.run Try.prog (Instr.build 201 #[(0, .int .i64 p), (1, .int .i64 s), (2, .int .i64 d), (3, .int .i64 g)]) w = .ok (.agg #[.int .i64 p, .int .i64 s, .int .i64 d, .int .i64 g]) w := by kernel_rfl
set_option maxHeartbeats 1000000 in
theorem ticksOk_any (c h : ByteArray) (v p s d g : Int) (w : World) (hc : c.size ≤ maxLen) (hh : h.size ≤ maxLen) :
    Calls Try.prog 181 #[.agg #[.string c, .int .i64 v, .string h, .int .i64 p, .int .i64 s, .int .i64 d, .int .i64 g]] w fun e w' => e = .returned (.bool (ticksB p s d g)) ∧ w' = w.alloc (.cells #[.string c, .int .i64 v, .string h, .int .i64 p, .int .i64 s, .int .i64 d, .int .i64 g] 36) := by
  have hb4 := build4
  have i0 : ∀ w, Sem.run Try.prog (Instr.index 201 (.agg #[.int .i64 p, .int .i64 s, .int .i64 d, .int .i64 g]) (.int .i64 0)) w = .ok (.int .i64 p) w := fun _ => by kernel_rfl
  have i1 : ∀ w, Sem.run Try.prog (Instr.index 201 (.agg #[.int .i64 p, .int .i64 s, .int .i64 d, .int .i64 g]) (.int .i64 1)) w = .ok (.int .i64 s) w := fun _ => by kernel_rfl
  have i2 : ∀ w, Sem.run Try.prog (Instr.index 201 (.agg #[.int .i64 p, .int .i64 s, .int .i64 d, .int .i64 g]) (.int .i64 2)) w = .ok (.int .i64 d) w := fun _ => by kernel_rfl
  have i3 : ∀ w, Sem.run Try.prog (Instr.index 201 (.agg #[.int .i64 p, .int .i64 s, .int .i64 d, .int .i64 g]) (.int .i64 3)) w = .ok (.int .i64 g) w := fun _ => by kernel_rfl
  cases q0 : inB p 0 100
  · go_enter Try.func181, Try.ntmps181
    go_wp2
    refine wp_loop_rounds 1 ?_
    rw [rounds_succ]
    go_wp2_with (go_at_call 130; refine (within_any _ _ _ _).mono ?_; rintro e w' ⟨rfl, rfl⟩)
    go_ret
    exact ⟨ret_b (by simp [ticksB, *]), rfl⟩
  · skip
    cases q1 : inB s 0 100
    · go_enter Try.func181, Try.ntmps181
      go_wp2
      refine wp_loop_rounds 2 ?_
      rw [rounds_succ]
      go_wp2_with (go_at_call 130; refine (within_any _ _ _ _).mono ?_; rintro e w' ⟨rfl, rfl⟩)
      rw [rounds_succ]
      go_wp2_with (go_at_call 130; refine (within_any _ _ _ _).mono ?_; rintro e w' ⟨rfl, rfl⟩)
      go_ret
      exact ⟨ret_b (by simp [ticksB, *]), rfl⟩
    · skip
      cases q2 : inB d 0 100
      · go_enter Try.func181, Try.ntmps181
        go_wp2
        refine wp_loop_rounds 3 ?_
        rw [rounds_succ]
        go_wp2_with (go_at_call 130; refine (within_any _ _ _ _).mono ?_; rintro e w' ⟨rfl, rfl⟩)
        rw [rounds_succ]
        go_wp2_with (go_at_call 130; refine (within_any _ _ _ _).mono ?_; rintro e w' ⟨rfl, rfl⟩)
        rw [rounds_succ]
        go_wp2_with (go_at_call 130; refine (within_any _ _ _ _).mono ?_; rintro e w' ⟨rfl, rfl⟩)
        go_ret
        exact ⟨ret_b (by simp [ticksB, *]), rfl⟩
      · skip
        cases q3 : inB g 0 100
        · go_enter Try.func181, Try.ntmps181
          go_wp2
          refine wp_loop_rounds 4 ?_
          rw [rounds_succ]
          go_wp2_with (go_at_call 130; refine (within_any _ _ _ _).mono ?_; rintro e w' ⟨rfl, rfl⟩)
          rw [rounds_succ]
          go_wp2_with (go_at_call 130; refine (within_any _ _ _ _).mono ?_; rintro e w' ⟨rfl, rfl⟩)
          rw [rounds_succ]
          go_wp2_with (go_at_call 130; refine (within_any _ _ _ _).mono ?_; rintro e w' ⟨rfl, rfl⟩)
          rw [rounds_succ]
          go_wp2_with (go_at_call 130; refine (within_any _ _ _ _).mono ?_; rintro e w' ⟨rfl, rfl⟩)
          go_ret
          exact ⟨ret_b (by simp [ticksB, *]), rfl⟩
        · go_enter Try.func181, Try.ntmps181
          go_wp2
          refine wp_loop_rounds 5 ?_
          rw [rounds_succ]
          go_wp2_with (go_at_call 130; refine (within_any _ _ _ _).mono ?_; rintro e w' ⟨rfl, rfl⟩)
          rw [rounds_succ]
          go_wp2_with (go_at_call 130; refine (within_any _ _ _ _).mono ?_; rintro e w' ⟨rfl, rfl⟩)
          rw [rounds_succ]
          go_wp2_with (go_at_call 130; refine (within_any _ _ _ _).mono ?_; rintro e w' ⟨rfl, rfl⟩)
          rw [rounds_succ]
          go_wp2_with (go_at_call 130; refine (within_any _ _ _ _).mono ?_; rintro e w' ⟨rfl, rfl⟩)
          rw [rounds_succ]
          go_wp2_with (go_at_call 130; refine (within_any _ _ _ _).mono ?_; rintro e w' ⟨rfl, rfl⟩)
          go_ret
          exact ⟨ret_b (by simp [ticksB, *]), rfl⟩

theorem build_checks (w : World) : Sem.run Try.prog (Instr.buildSlice 200 4 #[(0, .func (.func 178) #[] #[]), (1, .func (.func 179) #[] #[]), (2, .func (.func 180) #[] #[]), (3, .func (.func 181) #[] #[])]) w = .ok (.slice (some ⟨w.heap.size, 0, none⟩) 4 4) (w.alloc (.cells #[.func (.func 178) #[] #[], .func (.func 179) #[] #[], .func (.func 180) #[] #[], .func (.func 181) #[] #[]] 119)) := by kernel_rfl
set_option maxHeartbeats 2000000 in
theorem implWant_any (c h : ByteArray) (v p s d g : Int) (w : World) (hc : c.size ≤ maxLen) (hh : h.size ≤ maxLen) :
    Calls Try.prog 142 #[.agg #[.string c, .int .i64 v, .string h, .int .i64 p, .int .i64 s, .int .i64 d, .int .i64 g]] w fun e w' => e = .returned (.bool (wantB c h v p s d g)) ∧ Below w.heap.size w w' := by
  have hbc := build_checks
  cases q0 : nameB c
  · go_enter Try.func142, Try.ntmps142
    go_wp2_with go_in
    refine wp_loop_rounds 1 ?_
    rw [rounds_succ]
    go_wp2_with (first | (go_at_call 178; refine (copyOk_any c h v p s d g _ hc hh).mono ?_; rintro e w' ⟨rfl, rfl⟩) | (go_at_call 179; refine (versionOk_any c h v p s d g _ hc hh).mono ?_; rintro e w' ⟨rfl, rfl⟩) | (go_at_call 180; refine (holdOk_any c h v p s d g _ hc hh).mono ?_; rintro e w' ⟨rfl, rfl⟩) | (go_at_call 181; refine (ticksOk_any c h v p s d g _ hc hh).mono ?_; rintro e w' ⟨rfl, rfl⟩) | go_in)
    go_ret
    exact ⟨ret_b (by simp [wantB, *]), by repeat (first | exact Below.refl _ _ | refine bl_alloc ?_ _ | refine bl_drew ?_)⟩
  · skip
    cases q1 : inB v 1 1000000
    · go_enter Try.func142, Try.ntmps142
      go_wp2_with go_in
      refine wp_loop_rounds 2 ?_
      rw [rounds_succ]
      go_wp2_with (first | (go_at_call 178; refine (copyOk_any c h v p s d g _ hc hh).mono ?_; rintro e w' ⟨rfl, rfl⟩) | (go_at_call 179; refine (versionOk_any c h v p s d g _ hc hh).mono ?_; rintro e w' ⟨rfl, rfl⟩) | (go_at_call 180; refine (holdOk_any c h v p s d g _ hc hh).mono ?_; rintro e w' ⟨rfl, rfl⟩) | (go_at_call 181; refine (ticksOk_any c h v p s d g _ hc hh).mono ?_; rintro e w' ⟨rfl, rfl⟩) | go_in)
      rw [rounds_succ]
      go_wp2_with (first | (go_at_call 178; refine (copyOk_any c h v p s d g _ hc hh).mono ?_; rintro e w' ⟨rfl, rfl⟩) | (go_at_call 179; refine (versionOk_any c h v p s d g _ hc hh).mono ?_; rintro e w' ⟨rfl, rfl⟩) | (go_at_call 180; refine (holdOk_any c h v p s d g _ hc hh).mono ?_; rintro e w' ⟨rfl, rfl⟩) | (go_at_call 181; refine (ticksOk_any c h v p s d g _ hc hh).mono ?_; rintro e w' ⟨rfl, rfl⟩) | go_in)
      go_ret
      exact ⟨ret_b (by simp [wantB, *]), by repeat (first | exact Below.refl _ _ | refine bl_alloc ?_ _ | refine bl_drew ?_)⟩
    · skip
      cases q2 : (h.toList.isEmpty || holdB h)
      · go_enter Try.func142, Try.ntmps142
        go_wp2_with go_in
        refine wp_loop_rounds 3 ?_
        rw [rounds_succ]
        go_wp2_with (first | (go_at_call 178; refine (copyOk_any c h v p s d g _ hc hh).mono ?_; rintro e w' ⟨rfl, rfl⟩) | (go_at_call 179; refine (versionOk_any c h v p s d g _ hc hh).mono ?_; rintro e w' ⟨rfl, rfl⟩) | (go_at_call 180; refine (holdOk_any c h v p s d g _ hc hh).mono ?_; rintro e w' ⟨rfl, rfl⟩) | (go_at_call 181; refine (ticksOk_any c h v p s d g _ hc hh).mono ?_; rintro e w' ⟨rfl, rfl⟩) | go_in)
        rw [rounds_succ]
        go_wp2_with (first | (go_at_call 178; refine (copyOk_any c h v p s d g _ hc hh).mono ?_; rintro e w' ⟨rfl, rfl⟩) | (go_at_call 179; refine (versionOk_any c h v p s d g _ hc hh).mono ?_; rintro e w' ⟨rfl, rfl⟩) | (go_at_call 180; refine (holdOk_any c h v p s d g _ hc hh).mono ?_; rintro e w' ⟨rfl, rfl⟩) | (go_at_call 181; refine (ticksOk_any c h v p s d g _ hc hh).mono ?_; rintro e w' ⟨rfl, rfl⟩) | go_in)
        rw [rounds_succ]
        go_wp2_with (first | (go_at_call 178; refine (copyOk_any c h v p s d g _ hc hh).mono ?_; rintro e w' ⟨rfl, rfl⟩) | (go_at_call 179; refine (versionOk_any c h v p s d g _ hc hh).mono ?_; rintro e w' ⟨rfl, rfl⟩) | (go_at_call 180; refine (holdOk_any c h v p s d g _ hc hh).mono ?_; rintro e w' ⟨rfl, rfl⟩) | (go_at_call 181; refine (ticksOk_any c h v p s d g _ hc hh).mono ?_; rintro e w' ⟨rfl, rfl⟩) | go_in)
        go_ret
        exact ⟨ret_b (by simp [wantB, *]), by repeat (first | exact Below.refl _ _ | refine bl_alloc ?_ _ | refine bl_drew ?_)⟩
      · skip
        cases q3 : ticksB p s d g
        · go_enter Try.func142, Try.ntmps142
          go_wp2_with go_in
          refine wp_loop_rounds 4 ?_
          rw [rounds_succ]
          go_wp2_with (first | (go_at_call 178; refine (copyOk_any c h v p s d g _ hc hh).mono ?_; rintro e w' ⟨rfl, rfl⟩) | (go_at_call 179; refine (versionOk_any c h v p s d g _ hc hh).mono ?_; rintro e w' ⟨rfl, rfl⟩) | (go_at_call 180; refine (holdOk_any c h v p s d g _ hc hh).mono ?_; rintro e w' ⟨rfl, rfl⟩) | (go_at_call 181; refine (ticksOk_any c h v p s d g _ hc hh).mono ?_; rintro e w' ⟨rfl, rfl⟩) | go_in)
          rw [rounds_succ]
          go_wp2_with (first | (go_at_call 178; refine (copyOk_any c h v p s d g _ hc hh).mono ?_; rintro e w' ⟨rfl, rfl⟩) | (go_at_call 179; refine (versionOk_any c h v p s d g _ hc hh).mono ?_; rintro e w' ⟨rfl, rfl⟩) | (go_at_call 180; refine (holdOk_any c h v p s d g _ hc hh).mono ?_; rintro e w' ⟨rfl, rfl⟩) | (go_at_call 181; refine (ticksOk_any c h v p s d g _ hc hh).mono ?_; rintro e w' ⟨rfl, rfl⟩) | go_in)
          rw [rounds_succ]
          go_wp2_with (first | (go_at_call 178; refine (copyOk_any c h v p s d g _ hc hh).mono ?_; rintro e w' ⟨rfl, rfl⟩) | (go_at_call 179; refine (versionOk_any c h v p s d g _ hc hh).mono ?_; rintro e w' ⟨rfl, rfl⟩) | (go_at_call 180; refine (holdOk_any c h v p s d g _ hc hh).mono ?_; rintro e w' ⟨rfl, rfl⟩) | (go_at_call 181; refine (ticksOk_any c h v p s d g _ hc hh).mono ?_; rintro e w' ⟨rfl, rfl⟩) | go_in)
          rw [rounds_succ]
          go_wp2_with (first | (go_at_call 178; refine (copyOk_any c h v p s d g _ hc hh).mono ?_; rintro e w' ⟨rfl, rfl⟩) | (go_at_call 179; refine (versionOk_any c h v p s d g _ hc hh).mono ?_; rintro e w' ⟨rfl, rfl⟩) | (go_at_call 180; refine (holdOk_any c h v p s d g _ hc hh).mono ?_; rintro e w' ⟨rfl, rfl⟩) | (go_at_call 181; refine (ticksOk_any c h v p s d g _ hc hh).mono ?_; rintro e w' ⟨rfl, rfl⟩) | go_in)
          go_ret
          exact ⟨ret_b (by simp [wantB, *]), by repeat (first | exact Below.refl _ _ | refine bl_alloc ?_ _ | refine bl_drew ?_)⟩
        · go_enter Try.func142, Try.ntmps142
          go_wp2_with go_in
          refine wp_loop_rounds 5 ?_
          rw [rounds_succ]
          go_wp2_with (first | (go_at_call 178; refine (copyOk_any c h v p s d g _ hc hh).mono ?_; rintro e w' ⟨rfl, rfl⟩) | (go_at_call 179; refine (versionOk_any c h v p s d g _ hc hh).mono ?_; rintro e w' ⟨rfl, rfl⟩) | (go_at_call 180; refine (holdOk_any c h v p s d g _ hc hh).mono ?_; rintro e w' ⟨rfl, rfl⟩) | (go_at_call 181; refine (ticksOk_any c h v p s d g _ hc hh).mono ?_; rintro e w' ⟨rfl, rfl⟩) | go_in)
          rw [rounds_succ]
          go_wp2_with (first | (go_at_call 178; refine (copyOk_any c h v p s d g _ hc hh).mono ?_; rintro e w' ⟨rfl, rfl⟩) | (go_at_call 179; refine (versionOk_any c h v p s d g _ hc hh).mono ?_; rintro e w' ⟨rfl, rfl⟩) | (go_at_call 180; refine (holdOk_any c h v p s d g _ hc hh).mono ?_; rintro e w' ⟨rfl, rfl⟩) | (go_at_call 181; refine (ticksOk_any c h v p s d g _ hc hh).mono ?_; rintro e w' ⟨rfl, rfl⟩) | go_in)
          rw [rounds_succ]
          go_wp2_with (first | (go_at_call 178; refine (copyOk_any c h v p s d g _ hc hh).mono ?_; rintro e w' ⟨rfl, rfl⟩) | (go_at_call 179; refine (versionOk_any c h v p s d g _ hc hh).mono ?_; rintro e w' ⟨rfl, rfl⟩) | (go_at_call 180; refine (holdOk_any c h v p s d g _ hc hh).mono ?_; rintro e w' ⟨rfl, rfl⟩) | (go_at_call 181; refine (ticksOk_any c h v p s d g _ hc hh).mono ?_; rintro e w' ⟨rfl, rfl⟩) | go_in)
          rw [rounds_succ]
          go_wp2_with (first | (go_at_call 178; refine (copyOk_any c h v p s d g _ hc hh).mono ?_; rintro e w' ⟨rfl, rfl⟩) | (go_at_call 179; refine (versionOk_any c h v p s d g _ hc hh).mono ?_; rintro e w' ⟨rfl, rfl⟩) | (go_at_call 180; refine (holdOk_any c h v p s d g _ hc hh).mono ?_; rintro e w' ⟨rfl, rfl⟩) | (go_at_call 181; refine (ticksOk_any c h v p s d g _ hc hh).mono ?_; rintro e w' ⟨rfl, rfl⟩) | go_in)
          rw [rounds_succ]
          go_wp2_with (first | (go_at_call 178; refine (copyOk_any c h v p s d g _ hc hh).mono ?_; rintro e w' ⟨rfl, rfl⟩) | (go_at_call 179; refine (versionOk_any c h v p s d g _ hc hh).mono ?_; rintro e w' ⟨rfl, rfl⟩) | (go_at_call 180; refine (holdOk_any c h v p s d g _ hc hh).mono ?_; rintro e w' ⟨rfl, rfl⟩) | (go_at_call 181; refine (ticksOk_any c h v p s d g _ hc hh).mono ?_; rintro e w' ⟨rfl, rfl⟩) | go_in)
          go_ret
          exact ⟨ret_b (by simp [wantB, *]), by repeat (first | exact Below.refl _ _ | refine bl_alloc ?_ _ | refine bl_drew ?_)⟩
end Go.Proofs.Ytkebokkckmgloaa
/- MateWantsOk: what is asked. -/
namespace Go.Proofs.Ytkebokkckmgloaa.W
open Go.RowKit
set_option linter.unusedVariables false

def WantD.ok (r : WantD) : Bool := wantB r.c r.h r.v r.p r.s r.d r.g
def ascB (q r : WantD) : Bool := Op.bytesLess q.c.toList r.c.toList
/-- Two that would hold one thing. -/
def clash (q r : WantD) : Bool := !r.h.toList.isEmpty && (q.h.toList == r.h.toList)
def Each (ws : List WantD) (n : Nat) : Prop := ∀ j r, j < n → ws[j]? = some r → r.ok = true
def Asc (ws : List WantD) (n : Nat) : Prop := ∀ j q r, j + 1 < n → ws[j]? = some q → ws[j + 1]? = some r → ascB q r = true
def NoneOf (ws : List WantD) (r : WantD) (m : Nat) : Prop := ∀ i q, i < m → ws[i]? = some q → clash q r = false
def Diff (ws : List WantD) (n : Nat) : Prop := ∀ j r, j < n → ws[j]? = some r → NoneOf ws r j
def AllW (ws : List WantD) (n : Nat) : Prop := Each ws n ∧ Asc ws n ∧ Diff ws n
/-- What the answer says. -/
def Says (q : Bool) (ws : List WantD) : Prop := q = true ↔ ws.length ≤ 10 ∧ AllW ws ws.length

theorem Each.step {ws : List WantD} {k : Nat} {r : WantD} (h : Each ws k) (hr : ws[k]? = some r) (hs : r.ok = true) : Each ws (k + 1) := by
  intro j q hj hq
  by_cases e : j = k
  · subst e; rw [hr] at hq; cases hq; exact hs
  · exact h j q (by omega) hq
theorem Asc.step {ws : List WantD} {k : Nat} {q r : WantD} (h : Asc ws (k + 1)) (hq : ws[k]? = some q) (hr : ws[k + 1]? = some r) (hs : ascB q r = true) : Asc ws (k + 1 + 1) := by
  intro j q' r' hj hq' hr'
  by_cases e : j = k
  · subst e; rw [hq] at hq'; rw [hr] at hr'; cases hq'; cases hr'; exact hs
  · exact h j q' r' (by omega) hq' hr'
theorem Asc.one {ws : List WantD} : Asc ws 1 := fun j q r hj _ _ => by omega
theorem NoneOf.step {ws : List WantD} {m : Nat} {q r : WantD} (h : NoneOf ws r m) (hq : ws[m]? = some q) (hs : clash q r = false) : NoneOf ws r (m + 1) := by
  intro i q' hi hq'
  by_cases e : i = m
  · subst e; rw [hq] at hq'; cases hq'; exact hs
  · exact h i q' (by omega) hq'
theorem Diff.step {ws : List WantD} {k : Nat} {r : WantD} (h : Diff ws k) (hr : ws[k]? = some r) (hs : NoneOf ws r k) : Diff ws (k + 1) := by
  intro j q hj hq
  by_cases e : j = k
  · subst e; rw [hr] at hq; cases hq; exact hs
  · exact h j q (by omega) hq
theorem says_no {ws : List WantD} (h : ws.length ≤ 10 → AllW ws ws.length → False) : Says false ws := ⟨fun h' => (by cases h'), fun h' => (h h'.1 h'.2).elim⟩
theorem says_yes {ws : List WantD} {k : Nat} (h : AllW ws k) (hk : ws.length ≤ k) (h10 : ws.length ≤ 10) : Says true ws :=
  ⟨fun _ => ⟨h10, fun j r hj hr => h.1 j r (by omega) hr, fun j q r hj hq hr => h.2.1 j q r (by omega) hq hr, fun j r hj hr => h.2.2 j r (by omega) hr⟩, fun _ => rfl⟩

theorem keep1 {x w' : World} {b off k : Nat} {rs : List WantD} {r : WantD} (hk : rs[k]? = some r) (h1 : RowsAt x b off rs) (l1 : b < x.heap.size) (hb : Below x.heap.size x w') :
    Below x.heap.size x w' ∧ (w'.cell? ⟨b, off + k * 7, none⟩ = some (.string r.c) ∧ w'.cell? ⟨b, off + k * 7 + 1, none⟩ = some (.int .i64 r.v) ∧ w'.cell? ⟨b, off + k * 7 + 2, none⟩ = some (.string r.h) ∧ w'.cell? ⟨b, off + k * 7 + 3, none⟩ = some (.int .i64 r.p) ∧ w'.cell? ⟨b, off + k * 7 + 4, none⟩ = some (.int .i64 r.s) ∧ w'.cell? ⟨b, off + k * 7 + 5, none⟩ = some (.int .i64 r.d) ∧ w'.cell? ⟨b, off + k * 7 + 6, none⟩ = some (.int .i64 r.g)) := ⟨hb, (h1.keep l1 hb).at hk⟩
theorem keep2 {x w' : World} {b off k : Nat} {rs : List WantD} {r q : WantD} (hk : rs[k + 1]? = some r) (hq : rs[k]? = some q) (h1 : RowsAt x b off rs) (l1 : b < x.heap.size) (hb : Below x.heap.size x w') :
    Below x.heap.size x w' ∧ (w'.cell? ⟨b, off + (k + 1) * 7, none⟩ = some (.string r.c) ∧ w'.cell? ⟨b, off + (k + 1) * 7 + 1, none⟩ = some (.int .i64 r.v) ∧ w'.cell? ⟨b, off + (k + 1) * 7 + 2, none⟩ = some (.string r.h) ∧ w'.cell? ⟨b, off + (k + 1) * 7 + 3, none⟩ = some (.int .i64 r.p) ∧ w'.cell? ⟨b, off + (k + 1) * 7 + 4, none⟩ = some (.int .i64 r.s) ∧ w'.cell? ⟨b, off + (k + 1) * 7 + 5, none⟩ = some (.int .i64 r.d) ∧ w'.cell? ⟨b, off + (k + 1) * 7 + 6, none⟩ = some (.int .i64 r.g)) ∧ w'.cell? ⟨b, off + k * 7, none⟩ = some (.string q.c) := ⟨hb, (h1.keep l1 hb).at hk, ((h1.keep l1 hb).at hq).1⟩
theorem keep0 {x w' : World} {b off : Nat} {rs : List WantD} {r : WantD} (hk : rs[0]? = some r) (h1 : RowsAt x b off rs) (l1 : b < x.heap.size) (hb : Below x.heap.size x w') :
    Below x.heap.size x w' ∧ (w'.cell? ⟨b, off, none⟩ = some (.string r.c) ∧ w'.cell? ⟨b, off + 1, none⟩ = some (.int .i64 r.v) ∧ w'.cell? ⟨b, off + 2, none⟩ = some (.string r.h) ∧ w'.cell? ⟨b, off + 3, none⟩ = some (.int .i64 r.p) ∧ w'.cell? ⟨b, off + 4, none⟩ = some (.int .i64 r.s) ∧ w'.cell? ⟨b, off + 5, none⟩ = some (.int .i64 r.d) ∧ w'.cell? ⟨b, off + 6, none⟩ = some (.int .i64 r.g)) := by
  have := keep1 (k := 0) hk h1 l1 hb
  simpa using this
theorem hold_at {x : World} {b off k : Nat} {rs : List WantD} {r : WantD} (hk : rs[k]? = some r) (h1 : RowsAt x b off rs) : x.cell? ⟨b, off + k * 7 + 2, none⟩ = some (.string r.h) := (h1.at hk).2.2.1
end Go.Proofs.Ytkebokkckmgloaa.W
/- Is a state alive? -/
namespace Go.Proofs.Ytkebokkckmgloaa
open Go.RowKit

def aliveB (a : Int) : Bool := a == 3 || a == 4 || a == 6

theorem alive_any (a : Int) (w : World) :
    Calls Try.prog 76 #[.int .i64 a] w fun e w' => e = .returned (.bool (aliveB a)) ∧ w' = w := by
  by_cases h3 : a = 3
  · subst h3
    go_enter Try.func76, Try.ntmps76
    go_wp2
    go_ret
    exact ⟨rfl, rfl⟩
  · by_cases h4 : a = 4
    · subst h4
      go_enter Try.func76, Try.ntmps76
      go_wp2
      go_ret
      exact ⟨rfl, rfl⟩
    · have e3 : (a == 3) = false := by simpa using h3
      have e4 : (a == 4) = false := by simpa using h4
      have ea : aliveB a = (a == 6) := by simp [aliveB, e3, e4]
      rw [ea]
      clear ea h3 h4
      go_enter Try.func76, Try.ntmps76
      go_wp2
      go_ret
      exact ⟨rfl, rfl⟩

end Go.Proofs.Ytkebokkckmgloaa
/- A run as the program has it, and what it may. -/
namespace Go.Proofs.Ytkebokkckmgloaa
open Go.RowKit
set_option linter.unusedVariables false

theorem runOf_any (c h : ByteArray) (v p s d g a b i u : Int) (w : World) :
    Calls Try.prog 80 #[.agg #[.string c, .int .i64 v, .string h, .int .i64 p, .int .i64 s, .int .i64 d, .int .i64 g, .int .i64 a, .int .i64 b, .int .i64 i, .int .i64 u]] w fun e w' => e = .returned (.agg #[.string c, .int .i64 v, .string h, .int .i64 p, .int .i64 s, .int .i64 d, .int .i64 g, .int .i64 a, .int .i64 b, .int .i64 i, .int .i64 u]) ∧ w' = (w.alloc (.cells #[.string c, .int .i64 v, .string h, .int .i64 p, .int .i64 s, .int .i64 d, .int .i64 g, .int .i64 a, .int .i64 b, .int .i64 i, .int .i64 u] 38)).alloc (.cells #[.string c, .int .i64 v, .string h, .int .i64 p, .int .i64 s, .int .i64 d, .int .i64 g, .int .i64 a, .int .i64 b, .int .i64 i, .int .i64 u] 108) := by
  go_enter Try.func80, Try.ntmps80
  go_wp2
  exact bodyPost_ret (v := .agg #[.string c, .int .i64 v, .string h, .int .i64 p, .int .i64 s, .int .i64 d, .int .i64 g, .int .i64 a, .int .i64 b, .int .i64 i, .int .i64 u]) (by simp [results, Try.results80, go_sem]) rfl ⟨rfl, rfl⟩

/-- Has a run its hold for long enough, or none? -/
def leasedB (h : ByteArray) (u clock : Int) : Bool := h.toList.isEmpty || decide (wrap64 (clock + 4) ≤ u)

theorem mayLive_any (c h : ByteArray) (v p s d g a b i u clock : Int) (w : World) :
    Calls Try.prog 148 #[.agg #[.string c, .int .i64 v, .string h, .int .i64 p, .int .i64 s, .int .i64 d, .int .i64 g, .int .i64 a, .int .i64 b, .int .i64 i, .int .i64 u], .int .i64 clock] w fun e w' => e = .returned (.bool (leasedB h u clock)) ∧ w' = w.alloc (.cells #[.string c, .int .i64 v, .string h, .int .i64 p, .int .i64 s, .int .i64 d, .int .i64 g, .int .i64 a, .int .i64 b, .int .i64 i, .int .i64 u] 108) := by
  unfold leasedB
  cases hh : h.toList.isEmpty
  · go_enter Try.func148, Try.ntmps148
    go_wp2
    go_ret
    exact ⟨by simp, rfl⟩
  · go_enter Try.func148, Try.ntmps148
    go_wp2
    go_ret
    exact ⟨by simp, rfl⟩

theorem leased_any (c h : ByteArray) (v p s d g a b i u clock : Int) (w : World) :
    Calls Try.prog 98 #[.agg #[.string c, .int .i64 v, .string h, .int .i64 p, .int .i64 s, .int .i64 d, .int .i64 g, .int .i64 a, .int .i64 b, .int .i64 i, .int .i64 u], .int .i64 clock] w fun e w' => e = .returned (.bool (leasedB h u clock)) ∧ w' = w.alloc (.cells #[.string c, .int .i64 v, .string h, .int .i64 p, .int .i64 s, .int .i64 d, .int .i64 g, .int .i64 a, .int .i64 b, .int .i64 i, .int .i64 u] 38) := by
  unfold leasedB
  cases hh : h.toList.isEmpty
  · go_enter Try.func98, Try.ntmps98
    go_wp2
    go_ret
    exact ⟨by simp, rfl⟩
  · go_enter Try.func98, Try.ntmps98
    go_wp2
    go_ret
    exact ⟨by simp, rfl⟩

theorem specAlive_x (c h : ByteArray) (v p s d g a b i u : Int) (w : World) :
    Calls Try.prog 22 #[.agg #[.string c, .int .i64 v, .string h, .int .i64 p, .int .i64 s, .int .i64 d, .int .i64 g, .int .i64 a, .int .i64 b, .int .i64 i, .int .i64 u]] w fun e w' => e = .returned (.bool (aliveB a)) ∧ w' = w.alloc (.cells #[.string c, .int .i64 v, .string h, .int .i64 p, .int .i64 s, .int .i64 d, .int .i64 g, .int .i64 a, .int .i64 b, .int .i64 i, .int .i64 u] 38) := by
  by_cases h3 : a = 3
  · subst h3
    go_enter Try.func22, Try.ntmps22
    go_wp2
    go_ret
    exact ⟨rfl, rfl⟩
  · by_cases h4 : a = 4
    · subst h4
      go_enter Try.func22, Try.ntmps22
      go_wp2
      go_ret
      exact ⟨rfl, rfl⟩
    · have e3 : (a == 3) = false := by simpa using h3
      have e4 : (a == 4) = false := by simpa using h4
      have ea : aliveB a = (a == 6) := by simp [aliveB, e3, e4]
      rw [ea]
      clear ea h3 h4
      go_enter Try.func22, Try.ntmps22
      go_wp2
      go_ret
      exact ⟨rfl, rfl⟩

end Go.Proofs.Ytkebokkckmgloaa
