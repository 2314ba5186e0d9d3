import Derived.Test.YtiogkdafmgdbgaaGreatJ01
import Derived.Laws.EntriesVeiled
import Derived.Deep.RegionHeld3
import Derived.Laws.StructEq
import Derived.Laws.Pointers
import Derived.StillTactics
/- Sizes of lists, and what is left. -/
namespace Go.Proofs.YtiogkdafmgdbgaaGreat
open Go.RowKit
set_option linter.unusedVariables false

set_option maxHeartbeats 1000000 in
theorem szRunS_m (b off cap : Nat) (rs : List RunD) (left : Int) (w : World) (hR : RowsAt w b off rs) (hb : b < w.heap.size) (hf : ∀ r ∈ rs, r.fits) (h0 : 0 ≤ left) (h1 : left ≤ 1048576) (hl : rs.length ≤ maxLen) :
    Calls Tryz.prog 16 #[.slice (some ⟨b, off, none⟩) rs.length cap, .int .i64 left] w fun e w' => (e = .returned (.int .i64 (-1)) ∨ ∃ m : Int, e = .returned (.int .i64 m) ∧ 0 ≤ m ∧ m ≤ 1048576 ∧ (rs.length : Int) ≤ left) ∧ Below w.heap.size w w' := by
  unfold maxLen at hl
  by_cases hn : (rs.length : Int) ≤ left
  · go_enter Tryz.func16, Tryz.ntmps16
    go_wp2
    go_loopw [1, 5] (fun l i wx => ∃ (k : Nat) (lv : Int), k ≤ rs.length ∧ i = .int .i64 k ∧ l = .int .i64 lv ∧ 0 ≤ lv ∧ lv ≤ 1048576 ∧ Below w.heap.size w wx) (fun _ i _ => rs.length - (intOf i).toNat)
    case atStart => exact ⟨0, _, Nat.zero_le _, rfl, rfl, by omega, by omega, Below.refl _ _⟩
    case round =>
      obtain ⟨k, lv, hk, rfl, rfl, l0, l1, hB⟩ := hrel
      by_cases hlt : k < rs.length
      · obtain ⟨r, hr⟩ : ∃ r, rs[k]? = some r := ⟨rs[k], List.getElem?_eq_getElem hlt⟩
        obtain ⟨c0, c1, c2, c3, c4, c5, c6, c7, c8, c9, c10⟩ := (hR.keep hb hB).at hr
        have hfr : r.fits := hf r (List.mem_of_getElem? hr)
        clear hr
        by_cases hsz : (r.c.size : Int) + r.h.size ≤ lv
        · go_wp2_with fail
          refine (szRun_yes r.c r.h r.v r.p r.s r.d r.g r.a r.b r.i r.u lv l0 l1 hsz _).mono ?_
          rintro e w1 ⟨rfl, hb1⟩
          go_wp2
          exact ⟨⟨k + 1, _, by omega, by go_num, rfl, by omega, by omega, bl_trans hB hb1⟩, by simp [intOf]; omega⟩
        · go_wp2_with fail
          refine (szRun_no r.c r.h r.v r.p r.s r.d r.g r.a r.b r.i r.u lv l0 l1 hfr.1 hfr.2.1 (by omega) _).mono ?_
          rintro e w1 ⟨rfl, hb1⟩
          go_wp2
          go_ret
          exact ⟨Or.inl rfl, bl_trans hB hb1⟩
      · go_wp2
        go_ret
        exact ⟨Or.inr ⟨_, rfl, l0, l1, hn⟩, hB⟩
  · go_enter Tryz.func16, Tryz.ntmps16
    go_wp2
    go_ret
    exact ⟨Or.inl rfl, Below.refl _ _⟩
theorem sz_nil (a : Option Addr) (cap : Nat) (left : Int) (w : World) (h0 : 0 ≤ left) (h1 : left ≤ 1048576) :
    Calls Tryz.prog 16 #[.slice a 0 cap, .int .i64 left] w fun e w' => e = .returned (.int .i64 left) ∧ w' = w := by
  go_enter Tryz.func16, Tryz.ntmps16
  go_wp2
  refine wp_loop_rounds 1 ?_
  rw [rounds_succ]
  go_wp2
  go_ret
  exact ⟨rfl, rfl⟩
theorem to_nil (a : Option Addr) (cap : Nat) (w : World) :
    Calls Tryz.prog 25 #[.slice a 0 cap] w fun e w' => e = .returned (.slice (some ⟨w.heap.size, 0, none⟩) 0 0) ∧ w.heap.size < w'.heap.size ∧ Below w.heap.size w w' := by
  obtain ⟨C, hC, hmk0⟩ := make_runs 0 (by omega)
  have hmk : ∀ w : World, Sem.run Tryz.prog (Instr.makeSlice 32 (.int .i64 0) (.int .i64 0)) w = .ok (.slice (some ⟨w.heap.size, 0, none⟩) 0 0) (w.alloc (.cells C 59)) := fun w => hmk0 w
  clear hmk0 hC
  go_enter Tryz.func25, Tryz.ntmps25
  go_wp2
  refine wp_loop_rounds 1 ?_
  rw [rounds_succ]
  go_wp2
  go_ret
  exact ⟨rfl, by simp, bl_alloc (Below.refl _ _) _⟩
/-- A list that came in. -/
def In (w : World) (v : Value) (l : List RunD) : Prop := (l = [] ∧ ∃ a cap, v = .slice a 0 cap) ∨ ∃ b off cap, v = .slice (some ⟨b, off, none⟩) l.length cap ∧ l.length ≤ maxLen ∧ b < w.heap.size ∧ RowsAt w b off l ∧ ∀ r ∈ l, r.fits
theorem In.keep {w w' : World} {v : Value} {l : List RunD} (h : In w v l) (hb : Below w.heap.size w w') : In w' v l := by
  rcases h with h | ⟨b, off, cap, h1, h2, h3, h4, h5⟩
  · exact Or.inl h
  · exact Or.inr ⟨b, off, cap, h1, h2, Nat.lt_of_lt_of_le h3 hb.size, h4.keep h3 hb, h5⟩
theorem In.fits {w : World} {v : Value} {l : List RunD} (h : In w v l) : ∀ r ∈ l, r.fits := by
  rcases h with ⟨rfl, -⟩ | ⟨b, off, cap, h1, h2, h3, h4, h5⟩
  · intro r hr; cases hr
  · exact h5
theorem sz_in {w : World} {v : Value} {l : List RunD} (h : In w v l) (left : Int) (h0 : 0 ≤ left) (h1 : left ≤ 1048576) :
    Calls Tryz.prog 16 #[v, .int .i64 left] w fun e w' => (e = .returned (.int .i64 (-1)) ∨ ∃ m : Int, e = .returned (.int .i64 m) ∧ 0 ≤ m ∧ m ≤ 1048576 ∧ l.length ≤ 1048576) ∧ Below w.heap.size w w' := by
  rcases h with ⟨rfl, a, cap, rfl⟩ | ⟨b, off, cap, rfl, k2, k3, k4, k5⟩
  · refine (sz_nil a cap left w h0 h1).mono ?_
    rintro e w' ⟨rfl, rfl⟩
    exact ⟨Or.inr ⟨left, rfl, h0, h1, by simp⟩, Below.refl _ _⟩
  · refine (szRunS_m b off cap l left w k4 k3 k5 h0 h1 k2).mono ?_
    rintro e w' ⟨rfl | ⟨m, rfl, m0, m1, hn⟩, hb⟩
    · exact ⟨Or.inl rfl, hb⟩
    · exact ⟨Or.inr ⟨m, rfl, m0, m1, by omega⟩, hb⟩
theorem to_in {w : World} {v : Value} {l : List RunD} (h : In w v l) (hl : l.length ≤ 1048576) :
    Calls Tryz.prog 25 #[v] w fun e w' => e = .returned (.slice (some ⟨w.heap.size, 0, none⟩) l.length l.length) ∧ RowsAt w' w.heap.size 0 l ∧ w.heap.size < w'.heap.size ∧ Below w.heap.size w w' := by
  rcases h with ⟨rfl, a, cap, rfl⟩ | ⟨b, off, cap, rfl, k2, k3, k4, k5⟩
  · refine (to_nil a cap w).mono ?_
    rintro e w' ⟨rfl, h1, h2⟩
    exact ⟨rfl, fun k r h => by simp at h, h1, h2⟩
  · refine (toRunS b off cap l w k4 k3 hl).mono ?_
    rintro e w' ⟨rfl, h1, -, h2, h3⟩
    exact ⟨rfl, h1, h2, h3⟩
end Go.Proofs.YtiogkdafmgdbgaaGreat
namespace Go.Proofs.YtiogkdafmgdbgaaGreat.W
open Go.RowKit
set_option linter.unusedVariables false

set_option maxHeartbeats 1000000 in
theorem szWantS_m (b off cap : Nat) (rs : List WantD) (left : Int) (w : World) (hR : RowsAt w b off rs) (hb : b < w.heap.size) (hf : ∀ r ∈ rs, r.fits) (h0 : 0 ≤ left) (h1 : left ≤ 1048576) (hl : rs.length ≤ maxLen) :
    Calls Tryz.prog 15 #[.slice (some ⟨b, off, none⟩) rs.length cap, .int .i64 left] w fun e w' => (e = .returned (.int .i64 (-1)) ∨ ∃ m : Int, e = .returned (.int .i64 m) ∧ 0 ≤ m ∧ m ≤ 1048576 ∧ (rs.length : Int) ≤ left) ∧ Below w.heap.size w w' := by
  unfold maxLen at hl
  by_cases hn : (rs.length : Int) ≤ left
  · go_enter Tryz.func15, Tryz.ntmps15
    go_wp2
    go_loopw [1, 5] (fun l i wx => ∃ (k : Nat) (lv : Int), k ≤ rs.length ∧ i = .int .i64 k ∧ l = .int .i64 lv ∧ 0 ≤ lv ∧ lv ≤ 1048576 ∧ Below w.heap.size w wx) (fun _ i _ => rs.length - (intOf i).toNat)
    case atStart => exact ⟨0, _, Nat.zero_le _, rfl, rfl, by omega, by omega, Below.refl _ _⟩
    case round =>
      obtain ⟨k, lv, hk, rfl, rfl, l0, l1, hB⟩ := hrel
      by_cases hlt : k < rs.length
      · obtain ⟨r, hr⟩ : ∃ r, rs[k]? = some r := ⟨rs[k], List.getElem?_eq_getElem hlt⟩
        obtain ⟨c0, c1, c2, c3, c4, c5, c6⟩ := (hR.keep hb hB).at hr
        have hfr : r.fits := hf r (List.mem_of_getElem? hr)
        clear hr
        by_cases hsz : (r.c.size : Int) + r.h.size ≤ lv
        · go_wp2_with fail
          refine (szWant_yes r.c r.h r.v r.p r.s r.d r.g lv l0 l1 hsz _).mono ?_
          rintro e w1 ⟨rfl, hb1⟩
          go_wp2
          exact ⟨⟨k + 1, _, by omega, by go_num, rfl, by omega, by omega, bl_trans hB hb1⟩, by simp [intOf]; omega⟩
        · go_wp2_with fail
          refine (szWant_no r.c r.h r.v r.p r.s r.d r.g lv l0 l1 hfr.1 hfr.2 (by omega) _).mono ?_
          rintro e w1 ⟨rfl, hb1⟩
          go_wp2
          go_ret
          exact ⟨Or.inl rfl, bl_trans hB hb1⟩
      · go_wp2
        go_ret
        exact ⟨Or.inr ⟨_, rfl, l0, l1, hn⟩, hB⟩
  · go_enter Tryz.func15, Tryz.ntmps15
    go_wp2
    go_ret
    exact ⟨Or.inl rfl, Below.refl _ _⟩
theorem sz_nil (a : Option Addr) (cap : Nat) (left : Int) (w : World) (h0 : 0 ≤ left) (h1 : left ≤ 1048576) :
    Calls Tryz.prog 15 #[.slice a 0 cap, .int .i64 left] w fun e w' => e = .returned (.int .i64 left) ∧ w' = w := by
  go_enter Tryz.func15, Tryz.ntmps15
  go_wp2
  refine wp_loop_rounds 1 ?_
  rw [rounds_succ]
  go_wp2
  go_ret
  exact ⟨rfl, rfl⟩
theorem to_nil (a : Option Addr) (cap : Nat) (w : World) :
    Calls Tryz.prog 24 #[.slice a 0 cap] w fun e w' => e = .returned (.slice (some ⟨w.heap.size, 0, none⟩) 0 0) ∧ w.heap.size < w'.heap.size ∧ Below w.heap.size w w' := by
  obtain ⟨C, hC, hmk0⟩ := make_wants 0 (by omega)
  have hmk : ∀ w : World, Sem.run Tryz.prog (Instr.makeSlice 31 (.int .i64 0) (.int .i64 0)) w = .ok (.slice (some ⟨w.heap.size, 0, none⟩) 0 0) (w.alloc (.cells C 57)) := fun w => hmk0 w
  clear hmk0 hC
  go_enter Tryz.func24, Tryz.ntmps24
  go_wp2
  refine wp_loop_rounds 1 ?_
  rw [rounds_succ]
  go_wp2
  go_ret
  exact ⟨rfl, by simp, bl_alloc (Below.refl _ _) _⟩
/-- A list that came in. -/
def In (w : World) (v : Value) (l : List WantD) : Prop := (l = [] ∧ ∃ a cap, v = .slice a 0 cap) ∨ ∃ b off cap, v = .slice (some ⟨b, off, none⟩) l.length cap ∧ l.length ≤ maxLen ∧ b < w.heap.size ∧ RowsAt w b off l ∧ ∀ r ∈ l, r.fits
theorem In.keep {w w' : World} {v : Value} {l : List WantD} (h : In w v l) (hb : Below w.heap.size w w') : In w' v l := by
  rcases h with h | ⟨b, off, cap, h1, h2, h3, h4, h5⟩
  · exact Or.inl h
  · exact Or.inr ⟨b, off, cap, h1, h2, Nat.lt_of_lt_of_le h3 hb.size, h4.keep h3 hb, h5⟩
theorem In.fits {w : World} {v : Value} {l : List WantD} (h : In w v l) : ∀ r ∈ l, r.fits := by
  rcases h with ⟨rfl, -⟩ | ⟨b, off, cap, h1, h2, h3, h4, h5⟩
  · intro r hr; cases hr
  · exact h5
theorem sz_in {w : World} {v : Value} {l : List WantD} (h : In w v l) (left : Int) (h0 : 0 ≤ left) (h1 : left ≤ 1048576) :
    Calls Tryz.prog 15 #[v, .int .i64 left] w fun e w' => (e = .returned (.int .i64 (-1)) ∨ ∃ m : Int, e = .returned (.int .i64 m) ∧ 0 ≤ m ∧ m ≤ 1048576 ∧ l.length ≤ 1048576) ∧ Below w.heap.size w w' := by
  rcases h with ⟨rfl, a, cap, rfl⟩ | ⟨b, off, cap, rfl, k2, k3, k4, k5⟩
  · refine (sz_nil a cap left w h0 h1).mono ?_
    rintro e w' ⟨rfl, rfl⟩
    exact ⟨Or.inr ⟨left, rfl, h0, h1, by simp⟩, Below.refl _ _⟩
  · refine (szWantS_m b off cap l left w k4 k3 k5 h0 h1 k2).mono ?_
    rintro e w' ⟨rfl | ⟨m, rfl, m0, m1, hn⟩, hb⟩
    · exact ⟨Or.inl rfl, hb⟩
    · exact ⟨Or.inr ⟨m, rfl, m0, m1, by omega⟩, hb⟩
theorem to_in {w : World} {v : Value} {l : List WantD} (h : In w v l) (hl : l.length ≤ 1048576) :
    Calls Tryz.prog 24 #[v] w fun e w' => e = .returned (.slice (some ⟨w.heap.size, 0, none⟩) l.length l.length) ∧ RowsAt w' w.heap.size 0 l ∧ w.heap.size < w'.heap.size ∧ Below w.heap.size w w' := by
  rcases h with ⟨rfl, a, cap, rfl⟩ | ⟨b, off, cap, rfl, k2, k3, k4, k5⟩
  · refine (to_nil a cap w).mono ?_
    rintro e w' ⟨rfl, h1, h2⟩
    exact ⟨rfl, fun k r h => by simp at h, h1, h2⟩
  · refine (toWantS b off cap l w k4 k3 hl).mono ?_
    rintro e w' ⟨rfl, h1, -, h2, h3⟩
    exact ⟨rfl, h1, h2, h3⟩
end Go.Proofs.YtiogkdafmgdbgaaGreat.W
namespace Go.Proofs.YtiogkdafmgdbgaaGreat.A
open Go.RowKit
set_option linter.unusedVariables false

set_option maxHeartbeats 1000000 in
theorem szAskS_m (b off cap : Nat) (rs : List AskD) (left : Int) (w : World) (hR : RowsAt w b off rs) (hb : b < w.heap.size) (hf : ∀ r ∈ rs, r.fits) (h0 : 0 ≤ left) (h1 : left ≤ 1048576) (hl : rs.length ≤ maxLen) :
    Calls Tryz.prog 17 #[.slice (some ⟨b, off, none⟩) rs.length cap, .int .i64 left] w fun e w' => (e = .returned (.int .i64 (-1)) ∨ ∃ m : Int, e = .returned (.int .i64 m) ∧ 0 ≤ m ∧ m ≤ 1048576 ∧ (rs.length : Int) ≤ left) ∧ Below w.heap.size w w' := by
  unfold maxLen at hl
  by_cases hn : (rs.length : Int) ≤ left
  · go_enter Tryz.func17, Tryz.ntmps17
    go_wp2
    go_loopw [1, 5] (fun l i wx => ∃ (k : Nat) (lv : Int), k ≤ rs.length ∧ i = .int .i64 k ∧ l = .int .i64 lv ∧ 0 ≤ lv ∧ lv ≤ 1048576 ∧ Below w.heap.size w wx) (fun _ i _ => rs.length - (intOf i).toNat)
    case atStart => exact ⟨0, _, Nat.zero_le _, rfl, rfl, by omega, by omega, Below.refl _ _⟩
    case round =>
      obtain ⟨k, lv, hk, rfl, rfl, l0, l1, hB⟩ := hrel
      by_cases hlt : k < rs.length
      · obtain ⟨r, hr⟩ : ∃ r, rs[k]? = some r := ⟨rs[k], List.getElem?_eq_getElem hlt⟩
        obtain ⟨c0, c1, c2, c3⟩ := (hR.keep hb hB).at hr
        have hfr : r.fits := hf r (List.mem_of_getElem? hr)
        clear hr
        by_cases hsz : (r.h.size : Int) + r.c.size ≤ lv
        · go_wp2_with fail
          refine (szAsk_yes r.h r.c r.f r.t lv l0 l1 hsz _).mono ?_
          rintro e w1 ⟨rfl, hb1⟩
          go_wp2
          exact ⟨⟨k + 1, _, by omega, by go_num, rfl, by omega, by omega, bl_trans hB hb1⟩, by simp [intOf]; omega⟩
        · go_wp2_with fail
          refine (szAsk_no r.h r.c r.f r.t lv l0 l1 hfr.1 hfr.2 (by omega) _).mono ?_
          rintro e w1 ⟨rfl, hb1⟩
          go_wp2
          go_ret
          exact ⟨Or.inl rfl, bl_trans hB hb1⟩
      · go_wp2
        go_ret
        exact ⟨Or.inr ⟨_, rfl, l0, l1, hn⟩, hB⟩
  · go_enter Tryz.func17, Tryz.ntmps17
    go_wp2
    go_ret
    exact ⟨Or.inl rfl, Below.refl _ _⟩
theorem sz_nil (a : Option Addr) (cap : Nat) (left : Int) (w : World) (h0 : 0 ≤ left) (h1 : left ≤ 1048576) :
    Calls Tryz.prog 17 #[.slice a 0 cap, .int .i64 left] w fun e w' => e = .returned (.int .i64 left) ∧ w' = w := by
  go_enter Tryz.func17, Tryz.ntmps17
  go_wp2
  refine wp_loop_rounds 1 ?_
  rw [rounds_succ]
  go_wp2
  go_ret
  exact ⟨rfl, rfl⟩
theorem to_nil (a : Option Addr) (cap : Nat) (w : World) :
    Calls Tryz.prog 26 #[.slice a 0 cap] w fun e w' => e = .returned (.slice (some ⟨w.heap.size, 0, none⟩) 0 0) ∧ w.heap.size < w'.heap.size ∧ Below w.heap.size w w' := by
  obtain ⟨C, hC, hmk0⟩ := make_asks 0 (by omega)
  have hmk : ∀ w : World, Sem.run Tryz.prog (Instr.makeSlice 33 (.int .i64 0) (.int .i64 0)) w = .ok (.slice (some ⟨w.heap.size, 0, none⟩) 0 0) (w.alloc (.cells C 55)) := fun w => hmk0 w
  clear hmk0 hC
  go_enter Tryz.func26, Tryz.ntmps26
  go_wp2
  refine wp_loop_rounds 1 ?_
  rw [rounds_succ]
  go_wp2
  go_ret
  exact ⟨rfl, by simp, bl_alloc (Below.refl _ _) _⟩
/-- A list that came in. -/
def In (w : World) (v : Value) (l : List AskD) : Prop := (l = [] ∧ ∃ a cap, v = .slice a 0 cap) ∨ ∃ b off cap, v = .slice (some ⟨b, off, none⟩) l.length cap ∧ l.length ≤ maxLen ∧ b < w.heap.size ∧ RowsAt w b off l ∧ ∀ r ∈ l, r.fits
theorem In.keep {w w' : World} {v : Value} {l : List AskD} (h : In w v l) (hb : Below w.heap.size w w') : In w' v l := by
  rcases h with h | ⟨b, off, cap, h1, h2, h3, h4, h5⟩
  · exact Or.inl h
  · exact Or.inr ⟨b, off, cap, h1, h2, Nat.lt_of_lt_of_le h3 hb.size, h4.keep h3 hb, h5⟩
theorem In.fits {w : World} {v : Value} {l : List AskD} (h : In w v l) : ∀ r ∈ l, r.fits := by
  rcases h with ⟨rfl, -⟩ | ⟨b, off, cap, h1, h2, h3, h4, h5⟩
  · intro r hr; cases hr
  · exact h5
theorem sz_in {w : World} {v : Value} {l : List AskD} (h : In w v l) (left : Int) (h0 : 0 ≤ left) (h1 : left ≤ 1048576) :
    Calls Tryz.prog 17 #[v, .int .i64 left] w fun e w' => (e = .returned (.int .i64 (-1)) ∨ ∃ m : Int, e = .returned (.int .i64 m) ∧ 0 ≤ m ∧ m ≤ 1048576 ∧ l.length ≤ 1048576) ∧ Below w.heap.size w w' := by
  rcases h with ⟨rfl, a, cap, rfl⟩ | ⟨b, off, cap, rfl, k2, k3, k4, k5⟩
  · refine (sz_nil a cap left w h0 h1).mono ?_
    rintro e w' ⟨rfl, rfl⟩
    exact ⟨Or.inr ⟨left, rfl, h0, h1, by simp⟩, Below.refl _ _⟩
  · refine (szAskS_m b off cap l left w k4 k3 k5 h0 h1 k2).mono ?_
    rintro e w' ⟨rfl | ⟨m, rfl, m0, m1, hn⟩, hb⟩
    · exact ⟨Or.inl rfl, hb⟩
    · exact ⟨Or.inr ⟨m, rfl, m0, m1, by omega⟩, hb⟩
theorem to_in {w : World} {v : Value} {l : List AskD} (h : In w v l) (hl : l.length ≤ 1048576) :
    Calls Tryz.prog 26 #[v] w fun e w' => e = .returned (.slice (some ⟨w.heap.size, 0, none⟩) l.length l.length) ∧ RowsAt w' w.heap.size 0 l ∧ w.heap.size < w'.heap.size ∧ Below w.heap.size w w' := by
  rcases h with ⟨rfl, a, cap, rfl⟩ | ⟨b, off, cap, rfl, k2, k3, k4, k5⟩
  · refine (to_nil a cap w).mono ?_
    rintro e w' ⟨rfl, h1, h2⟩
    exact ⟨rfl, fun k r h => by simp at h, h1, h2⟩
  · refine (toAskS b off cap l w k4 k3 hl).mono ?_
    rintro e w' ⟨rfl, h1, -, h2, h3⟩
    exact ⟨rfl, h1, h2, h3⟩
end Go.Proofs.YtiogkdafmgdbgaaGreat.A
/- Names, holds and numbers within bounds: both sides. -/
namespace Go.Proofs.YtiogkdafmgdbgaaGreat
open Go.RowKit
set_option linter.unusedVariables false

/-- A number within bounds. -/
def inB (n low high : Int) : Bool := decide (low ≤ n) && decide (n ≤ high)
/-- A byte that a name may hold. -/
def okc (c : UInt8) : Bool := decide (33 ≤ (c.toNat : Int)) && decide ((c.toNat : Int) ≤ 126)
def nameB (s : ByteArray) : Bool := inB s.size 1 20 && s.data.toList.all okc

theorem specIn_any (n low high : Int) (w : World) : Calls Tryz.prog 21 #[.int .i64 n, .int .i64 low, .int .i64 high] w fun e w' => e = .returned (.bool (inB n low high)) ∧ w' = w := by
  unfold inB
  by_cases h1 : low ≤ n
  · rw [decide_eq_true h1, Bool.true_and]
    go_enter Tryz.func21, Tryz.ntmps21
    go_wp2
    go_ret
    exact ⟨rfl, rfl⟩
  · rw [decide_eq_false h1, Bool.false_and]
    go_enter Tryz.func21, Tryz.ntmps21
    go_wp2
    go_ret
    exact ⟨rfl, rfl⟩

theorem within_any (n low high : Int) (w : World) : Calls Tryz.prog 70 #[.int .i64 n, .int .i64 low, .int .i64 high] w fun e w' => e = .returned (.bool (inB n low high)) ∧ w' = w := by
  unfold inB
  by_cases h1 : low ≤ n
  · rw [decide_eq_true h1, Bool.true_and]
    go_enter Tryz.func70, Tryz.ntmps70
    go_wp2
    go_ret
    exact ⟨rfl, rfl⟩
  · rw [decide_eq_false h1, Bool.false_and]
    go_enter Tryz.func70, Tryz.ntmps70
    go_wp2
    go_ret
    exact ⟨rfl, rfl⟩

theorem ret_b {a b : Bool} (h : a = b) : Ending.returned (.bool a) = .returned (.bool b) := by rw [h]
theorem take_snoc (s : ByteArray) (k : Nat) (h : k < s.size) : s.data.toList.take (k + 1) = s.data.toList.take k ++ [s[k]] := by
  rw [List.take_succ_eq_append_getElem (by simpa using h)]; rfl
theorem all_snoc (s : ByteArray) (k : Nat) (h : k < s.size) (ha : (s.data.toList.take k).all okc = true) (hc : okc s[k] = true) : (s.data.toList.take (k + 1)).all okc = true := by
  rw [take_snoc s k h, List.all_append, ha]; simp [hc]
theorem all_bad (s : ByteArray) (k : Nat) (h : k < s.size) (hc : okc s[k] = false) : s.data.toList.all okc = false := by
  rw [List.all_eq_false]
  exact ⟨s.data.toList[k]'(by simpa using h), List.getElem_mem _, by show ¬ okc s[k] = true; simp [hc]⟩
theorem all_end (s : ByteArray) (k : Nat) (h : s.size ≤ k) (ha : (s.data.toList.take k).all okc = true) : s.data.toList.all okc = true := by
  rwa [List.take_of_length_le (by simpa using h)] at ha

set_option maxHeartbeats 400000 in
theorem specName_any (s : ByteArray) (w : World) (hs : s.size ≤ maxLen) :
    Calls Tryz.prog 46 #[.string s] w fun e w' => e = .returned (.bool (nameB s)) ∧ w' = w := by
  unfold maxLen at hs
  cases hin : inB s.size 1 20
  · rw [show nameB s = false from by simp [nameB, hin]]
    go_enter Tryz.func46, Tryz.ntmps46
    go_wp2_with (go_at_call 21; refine (specIn_any _ _ _ _).mono ?_; rintro e w' ⟨rfl, rfl⟩)
    go_ret
    exact ⟨rfl, rfl⟩
  · have hl : s.size ≤ 20 := by simp [inB] at hin; omega
    have Hn : Hid (nameB s = s.data.toList.all okc) := by show nameB s = _; simp [nameB, hin]
    go_enter Tryz.func46, Tryz.ntmps46
    go_wp2_with (go_at_call 21; refine (specIn_any _ _ _ _).mono ?_; rintro e w' ⟨rfl, rfl⟩)
    go_loop [3] (fun i => ∃ k : Nat, k ≤ s.size ∧ i = .int .i64 k ∧ (s.data.toList.take k).all okc = true) (fun i => s.size - (intOf i).toNat)
    case atStart => exact ⟨0, Nat.zero_le _, rfl, rfl⟩
    case round =>
      obtain ⟨k, hk, rfl, hall⟩ := hrel
      have Ha : Hid _ := hall
      clear hall
      by_cases hlt : k < s.size
      · by_cases b1 : (s[k].toNat : Int) < 33
        · go_wp2
          go_ret
          exact ⟨ret_b (by rw [Hn.out, all_bad s k hlt (by simp [okc]; omega)]), rfl⟩
        · by_cases b2 : 126 < (s[k].toNat : Int)
          · go_wp2
            go_ret
            exact ⟨ret_b (by rw [Hn.out, all_bad s k hlt (by simp [okc]; omega)]), rfl⟩
          · have Hc : Hid (okc s[k] = true) := by show okc s[k] = true; simp [okc]; omega
            go_wp2
            exact ⟨⟨k + 1, by omega, by go_num, all_snoc s k hlt Ha.out Hc.out⟩, by simp [intOf]; omega⟩
      · go_wp2
        go_ret
        exact ⟨ret_b (by rw [Hn.out, all_end s k (by omega) Ha.out]), rfl⟩

set_option maxHeartbeats 400000 in
theorem implName_any (s : ByteArray) (w : World) (hs : s.size ≤ maxLen) :
    Calls Tryz.prog 81 #[.string s] w fun e w' => e = .returned (.bool (nameB s)) ∧ w' = w := by
  unfold maxLen at hs
  cases hin : inB s.size 1 20
  · rw [show nameB s = false from by simp [nameB, hin]]
    go_enter Tryz.func81, Tryz.ntmps81
    go_wp2_with (go_at_call 70; refine (within_any _ _ _ _).mono ?_; rintro e w' ⟨rfl, rfl⟩)
    go_ret
    exact ⟨rfl, rfl⟩
  · have hl : s.size ≤ 20 := by simp [inB] at hin; omega
    have Hn : Hid (nameB s = s.data.toList.all okc) := by show nameB s = _; simp [nameB, hin]
    go_enter Tryz.func81, Tryz.ntmps81
    go_wp2_with (go_at_call 70; refine (within_any _ _ _ _).mono ?_; rintro e w' ⟨rfl, rfl⟩)
    go_loop [10] (fun i => ∃ k : Nat, k ≤ s.size ∧ i = .int .i64 k ∧ (s.data.toList.take k).all okc = true) (fun i => s.size - (intOf i).toNat)
    case atStart => exact ⟨0, Nat.zero_le _, rfl, rfl⟩
    case round =>
      obtain ⟨k, hk, rfl, hall⟩ := hrel
      have Ha : Hid _ := hall
      clear hall
      by_cases hlt : k < s.size
      · by_cases b1 : (s[k].toNat : Int) < 33
        · go_wp2
          go_ret
          exact ⟨ret_b (by rw [Hn.out, all_bad s k hlt (by simp [okc]; omega)]), rfl⟩
        · by_cases b2 : 126 < (s[k].toNat : Int)
          · go_wp2
            go_ret
            exact ⟨ret_b (by rw [Hn.out, all_bad s k hlt (by simp [okc]; omega)]), rfl⟩
          · have Hc : Hid (okc s[k] = true) := by show okc s[k] = true; simp [okc]; omega
            go_wp2
            exact ⟨⟨k + 1, by omega, by go_num, all_snoc s k hlt Ha.out Hc.out⟩, by simp [intOf]; omega⟩
      · go_wp2
        go_ret
        exact ⟨ret_b (by rw [Hn.out, all_end s k (by omega) Ha.out]), rfl⟩

/-- A hold: a name other than a star. -/
def holdB (s : ByteArray) : Bool := nameB s && !(s.toList == [42])

theorem specHold_any (s : ByteArray) (w : World) (hs : s.size ≤ maxLen) :
    Calls Tryz.prog 80 #[.string s] w fun e w' => e = .returned (.bool (holdB s)) ∧ w' = w := by
  unfold holdB
  cases hn : nameB s
  · go_enter Tryz.func80, Tryz.ntmps80
    go_wp2_with (go_at_call 46; refine (specName_any s _ hs).mono ?_; rintro e w' ⟨rfl, rfl⟩)
    go_ret
    exact ⟨rfl, rfl⟩
  · go_enter Tryz.func80, Tryz.ntmps80
    go_wp2_with (go_at_call 46; refine (specName_any s _ hs).mono ?_; rintro e w' ⟨rfl, rfl⟩)
    go_ret
    exact ⟨rfl, rfl⟩
theorem implHold_any (s : ByteArray) (w : World) (hs : s.size ≤ maxLen) :
    Calls Tryz.prog 120 #[.string s] w fun e w' => e = .returned (.bool (holdB s)) ∧ w' = w := by
  unfold holdB
  cases hn : nameB s
  · go_enter Tryz.func120, Tryz.ntmps120
    go_wp2_with (go_at_call 81; refine (implName_any s _ hs).mono ?_; rintro e w' ⟨rfl, rfl⟩)
    go_ret
    exact ⟨rfl, rfl⟩
  · go_enter Tryz.func120, Tryz.ntmps120
    go_wp2_with (go_at_call 81; refine (implName_any s _ hs).mono ?_; rintro e w' ⟨rfl, rfl⟩)
    go_ret
    exact ⟨rfl, rfl⟩
end Go.Proofs.YtiogkdafmgdbgaaGreat
/- Is a want alone such? Both sides. -/
namespace Go.Proofs.YtiogkdafmgdbgaaGreat
open Go.RowKit
set_option linter.unusedVariables false

def ticksB (p s d g : Int) : Bool := inB p 0 100 && (inB s 0 100 && (inB d 0 100 && inB g 0 100))
def wantB (c h : ByteArray) (v p s d g : Int) : Bool := nameB c && (inB v 1 1000000 && ((h.toList.isEmpty || holdB h) && ticksB p s d g))

set_option maxHeartbeats 1000000 in
theorem specWant_any (c h : ByteArray) (v p s d g : Int) (w : World) (hc : c.size ≤ maxLen) (hh : h.size ≤ maxLen) :
    Calls Tryz.prog 50 #[.agg #[.string c, .int .i64 v, .string h, .int .i64 p, .int .i64 s, .int .i64 d, .int .i64 g]] w fun e w' => e = .returned (.bool (wantB c h v p s d g)) ∧ w' = w.alloc (.cells #[.string c, .int .i64 v, .string h, .int .i64 p, .int .i64 s, .int .i64 d, .int .i64 g] 57) := by
  cases h0 : nameB c
  · go_enter Tryz.func50, Tryz.ntmps50
    go_wp2_with (first | (go_at_call 46; refine (specName_any c _ hc).mono ?_; rintro e w' ⟨rfl, rfl⟩) | (go_at_call 80; refine (specHold_any h _ hh).mono ?_; rintro e w' ⟨rfl, rfl⟩) | (go_at_call 21; refine (specIn_any _ _ _ _).mono ?_; rintro e w' ⟨rfl, rfl⟩))
    go_ret
    exact ⟨ret_b (by simp [wantB, ticksB, *]), rfl⟩
  · skip
    cases h1 : inB v 1 1000000
    · go_enter Tryz.func50, Tryz.ntmps50
      go_wp2_with (first | (go_at_call 46; refine (specName_any c _ hc).mono ?_; rintro e w' ⟨rfl, rfl⟩) | (go_at_call 80; refine (specHold_any h _ hh).mono ?_; rintro e w' ⟨rfl, rfl⟩) | (go_at_call 21; refine (specIn_any _ _ _ _).mono ?_; rintro e w' ⟨rfl, rfl⟩))
      go_ret
      exact ⟨ret_b (by simp [wantB, ticksB, *]), rfl⟩
    · skip
      have he : (h.toList.isEmpty || holdB h) = false ∨ (h.toList.isEmpty = true) ∨ (h.toList.isEmpty = false ∧ holdB h = true) := by cases h.toList.isEmpty <;> cases holdB h <;> simp
      rcases he with he | he | he
      · obtain ⟨e1, e2⟩ : h.toList.isEmpty = false ∧ holdB h = false := by simpa using he
        clear he
        go_enter Tryz.func50, Tryz.ntmps50
        go_wp2_with (first | (go_at_call 46; refine (specName_any c _ hc).mono ?_; rintro e w' ⟨rfl, rfl⟩) | (go_at_call 80; refine (specHold_any h _ hh).mono ?_; rintro e w' ⟨rfl, rfl⟩) | (go_at_call 21; refine (specIn_any _ _ _ _).mono ?_; rintro e w' ⟨rfl, rfl⟩))
        go_ret
        exact ⟨ret_b (by simp [wantB, ticksB, *]), rfl⟩
      · skip
        cases q0 : inB p 0 100
        · go_enter Tryz.func50, Tryz.ntmps50
          go_wp2_with (first | (go_at_call 46; refine (specName_any c _ hc).mono ?_; rintro e w' ⟨rfl, rfl⟩) | (go_at_call 80; refine (specHold_any h _ hh).mono ?_; rintro e w' ⟨rfl, rfl⟩) | (go_at_call 21; refine (specIn_any _ _ _ _).mono ?_; rintro e w' ⟨rfl, rfl⟩))
          go_ret
          exact ⟨ret_b (by simp [wantB, ticksB, *]), rfl⟩
        · skip
          cases q1 : inB s 0 100
          · go_enter Tryz.func50, Tryz.ntmps50
            go_wp2_with (first | (go_at_call 46; refine (specName_any c _ hc).mono ?_; rintro e w' ⟨rfl, rfl⟩) | (go_at_call 80; refine (specHold_any h _ hh).mono ?_; rintro e w' ⟨rfl, rfl⟩) | (go_at_call 21; refine (specIn_any _ _ _ _).mono ?_; rintro e w' ⟨rfl, rfl⟩))
            go_ret
            exact ⟨ret_b (by simp [wantB, ticksB, *]), rfl⟩
          · skip
            cases q2 : inB d 0 100
            · go_enter Tryz.func50, Tryz.ntmps50
              go_wp2_with (first | (go_at_call 46; refine (specName_any c _ hc).mono ?_; rintro e w' ⟨rfl, rfl⟩) | (go_at_call 80; refine (specHold_any h _ hh).mono ?_; rintro e w' ⟨rfl, rfl⟩) | (go_at_call 21; refine (specIn_any _ _ _ _).mono ?_; rintro e w' ⟨rfl, rfl⟩))
              go_ret
              exact ⟨ret_b (by simp [wantB, ticksB, *]), rfl⟩
            · skip
              cases q3 : inB g 0 100
              · go_enter Tryz.func50, Tryz.ntmps50
                go_wp2_with (first | (go_at_call 46; refine (specName_any c _ hc).mono ?_; rintro e w' ⟨rfl, rfl⟩) | (go_at_call 80; refine (specHold_any h _ hh).mono ?_; rintro e w' ⟨rfl, rfl⟩) | (go_at_call 21; refine (specIn_any _ _ _ _).mono ?_; rintro e w' ⟨rfl, rfl⟩))
                go_ret
                exact ⟨ret_b (by simp [wantB, ticksB, *]), rfl⟩
              · go_enter Tryz.func50, Tryz.ntmps50
                go_wp2_with (first | (go_at_call 46; refine (specName_any c _ hc).mono ?_; rintro e w' ⟨rfl, rfl⟩) | (go_at_call 80; refine (specHold_any h _ hh).mono ?_; rintro e w' ⟨rfl, rfl⟩) | (go_at_call 21; refine (specIn_any _ _ _ _).mono ?_; rintro e w' ⟨rfl, rfl⟩))
                go_ret
                exact ⟨ret_b (by simp [wantB, ticksB, *]), rfl⟩
      · obtain ⟨e1, e2⟩ := he
        cases q0 : inB p 0 100
        · go_enter Tryz.func50, Tryz.ntmps50
          go_wp2_with (first | (go_at_call 46; refine (specName_any c _ hc).mono ?_; rintro e w' ⟨rfl, rfl⟩) | (go_at_call 80; refine (specHold_any h _ hh).mono ?_; rintro e w' ⟨rfl, rfl⟩) | (go_at_call 21; refine (specIn_any _ _ _ _).mono ?_; rintro e w' ⟨rfl, rfl⟩))
          go_ret
          exact ⟨ret_b (by simp [wantB, ticksB, *]), rfl⟩
        · skip
          cases q1 : inB s 0 100
          · go_enter Tryz.func50, Tryz.ntmps50
            go_wp2_with (first | (go_at_call 46; refine (specName_any c _ hc).mono ?_; rintro e w' ⟨rfl, rfl⟩) | (go_at_call 80; refine (specHold_any h _ hh).mono ?_; rintro e w' ⟨rfl, rfl⟩) | (go_at_call 21; refine (specIn_any _ _ _ _).mono ?_; rintro e w' ⟨rfl, rfl⟩))
            go_ret
            exact ⟨ret_b (by simp [wantB, ticksB, *]), rfl⟩
          · skip
            cases q2 : inB d 0 100
            · go_enter Tryz.func50, Tryz.ntmps50
              go_wp2_with (first | (go_at_call 46; refine (specName_any c _ hc).mono ?_; rintro e w' ⟨rfl, rfl⟩) | (go_at_call 80; refine (specHold_any h _ hh).mono ?_; rintro e w' ⟨rfl, rfl⟩) | (go_at_call 21; refine (specIn_any _ _ _ _).mono ?_; rintro e w' ⟨rfl, rfl⟩))
              go_ret
              exact ⟨ret_b (by simp [wantB, ticksB, *]), rfl⟩
            · skip
              cases q3 : inB g 0 100
              · go_enter Tryz.func50, Tryz.ntmps50
                go_wp2_with (first | (go_at_call 46; refine (specName_any c _ hc).mono ?_; rintro e w' ⟨rfl, rfl⟩) | (go_at_call 80; refine (specHold_any h _ hh).mono ?_; rintro e w' ⟨rfl, rfl⟩) | (go_at_call 21; refine (specIn_any _ _ _ _).mono ?_; rintro e w' ⟨rfl, rfl⟩))
                go_ret
                exact ⟨ret_b (by simp [wantB, ticksB, *]), rfl⟩
              · go_enter Tryz.func50, Tryz.ntmps50
                go_wp2_with (first | (go_at_call 46; refine (specName_any c _ hc).mono ?_; rintro e w' ⟨rfl, rfl⟩) | (go_at_call 80; refine (specHold_any h _ hh).mono ?_; rintro e w' ⟨rfl, rfl⟩) | (go_at_call 21; refine (specIn_any _ _ _ _).mono ?_; rintro e w' ⟨rfl, rfl⟩))
                go_ret
                exact ⟨ret_b (by simp [wantB, ticksB, *]), rfl⟩

theorem copyOk_any (c h : ByteArray) (v p s d g : Int) (w : World) (hc : c.size ≤ maxLen) (hh : h.size ≤ maxLen) :
    Calls Tryz.prog 122 #[.agg #[.string c, .int .i64 v, .string h, .int .i64 p, .int .i64 s, .int .i64 d, .int .i64 g]] w fun e w' => e = .returned (.bool (nameB c)) ∧ w' = w.alloc (.cells #[.string c, .int .i64 v, .string h, .int .i64 p, .int .i64 s, .int .i64 d, .int .i64 g] 57) := by
  go_enter Tryz.func122, Tryz.ntmps122
  go_wp2_with (go_at_call 81; refine (implName_any c _ hc).mono ?_; rintro e w' ⟨rfl, rfl⟩)
  go_ret
  exact ⟨rfl, rfl⟩

theorem versionOk_any (c h : ByteArray) (v p s d g : Int) (w : World) (hc : c.size ≤ maxLen) (hh : h.size ≤ maxLen) :
    Calls Tryz.prog 123 #[.agg #[.string c, .int .i64 v, .string h, .int .i64 p, .int .i64 s, .int .i64 d, .int .i64 g]] w fun e w' => e = .returned (.bool (inB v 1 1000000)) ∧ w' = w.alloc (.cells #[.string c, .int .i64 v, .string h, .int .i64 p, .int .i64 s, .int .i64 d, .int .i64 g] 57) := by
  go_enter Tryz.func123, Tryz.ntmps123
  go_wp2_with (go_at_call 70; refine (within_any _ _ _ _).mono ?_; rintro e w' ⟨rfl, rfl⟩)
  go_ret
  exact ⟨rfl, rfl⟩

theorem holdOk_any (c h : ByteArray) (v p s d g : Int) (w : World) (hc : c.size ≤ maxLen) (hh : h.size ≤ maxLen) :
    Calls Tryz.prog 124 #[.agg #[.string c, .int .i64 v, .string h, .int .i64 p, .int .i64 s, .int .i64 d, .int .i64 g]] w fun e w' => e = .returned (.bool (h.toList.isEmpty || holdB h)) ∧ w' = w.alloc (.cells #[.string c, .int .i64 v, .string h, .int .i64 p, .int .i64 s, .int .i64 d, .int .i64 g] 57) := by
  cases he : h.toList.isEmpty
  · go_enter Tryz.func124, Tryz.ntmps124
    go_wp2_with (go_at_call 120; refine (implHold_any h _ hh).mono ?_; rintro e w' ⟨rfl, rfl⟩)
    go_ret
    exact ⟨rfl, rfl⟩
  · go_enter Tryz.func124, Tryz.ntmps124
    go_wp2
    go_ret
    exact ⟨rfl, rfl⟩

theorem build4 (p s d g : Int) (w : World) : Sem.run Tryz.prog (Instr.build 146 #[(0, .int .i64 p), (1, .int .i64 s), (2, .int .i64 d), (3, .int .i64 g)]) w = .ok (.agg #[.int .i64 p, .int .i64 s, .int .i64 d, .int .i64 g]) w := by kernel_rfl
set_option maxHeartbeats 1000000 in
theorem ticksOk_any (c h : ByteArray) (v p s d g : Int) (w : World) (hc : c.size ≤ maxLen) (hh : h.size ≤ maxLen) :
    Calls Tryz.prog 125 #[.agg #[.string c, .int .i64 v, .string h, .int .i64 p, .int .i64 s, .int .i64 d, .int .i64 g]] w fun e w' => e = .returned (.bool (ticksB p s d g)) ∧ w' = w.alloc (.cells #[.string c, .int .i64 v, .string h, .int .i64 p, .int .i64 s, .int .i64 d, .int .i64 g] 57) := by
  have hb4 := build4
  have i0 : ∀ w, Sem.run Tryz.prog (Instr.index 146 (.agg #[.int .i64 p, .int .i64 s, .int .i64 d, .int .i64 g]) (.int .i64 0)) w = .ok (.int .i64 p) w := fun _ => by kernel_rfl
  have i1 : ∀ w, Sem.run Tryz.prog (Instr.index 146 (.agg #[.int .i64 p, .int .i64 s, .int .i64 d, .int .i64 g]) (.int .i64 1)) w = .ok (.int .i64 s) w := fun _ => by kernel_rfl
  have i2 : ∀ w, Sem.run Tryz.prog (Instr.index 146 (.agg #[.int .i64 p, .int .i64 s, .int .i64 d, .int .i64 g]) (.int .i64 2)) w = .ok (.int .i64 d) w := fun _ => by kernel_rfl
  have i3 : ∀ w, Sem.run Tryz.prog (Instr.index 146 (.agg #[.int .i64 p, .int .i64 s, .int .i64 d, .int .i64 g]) (.int .i64 3)) w = .ok (.int .i64 g) w := fun _ => by kernel_rfl
  cases q0 : inB p 0 100
  · go_enter Tryz.func125, Tryz.ntmps125
    go_wp2
    refine wp_loop_rounds 1 ?_
    rw [rounds_succ]
    go_wp2_with (go_at_call 70; refine (within_any _ _ _ _).mono ?_; rintro e w' ⟨rfl, rfl⟩)
    go_ret
    exact ⟨ret_b (by simp [ticksB, *]), rfl⟩
  · skip
    cases q1 : inB s 0 100
    · go_enter Tryz.func125, Tryz.ntmps125
      go_wp2
      refine wp_loop_rounds 2 ?_
      rw [rounds_succ]
      go_wp2_with (go_at_call 70; refine (within_any _ _ _ _).mono ?_; rintro e w' ⟨rfl, rfl⟩)
      rw [rounds_succ]
      go_wp2_with (go_at_call 70; refine (within_any _ _ _ _).mono ?_; rintro e w' ⟨rfl, rfl⟩)
      go_ret
      exact ⟨ret_b (by simp [ticksB, *]), rfl⟩
    · skip
      cases q2 : inB d 0 100
      · go_enter Tryz.func125, Tryz.ntmps125
        go_wp2
        refine wp_loop_rounds 3 ?_
        rw [rounds_succ]
        go_wp2_with (go_at_call 70; refine (within_any _ _ _ _).mono ?_; rintro e w' ⟨rfl, rfl⟩)
        rw [rounds_succ]
        go_wp2_with (go_at_call 70; refine (within_any _ _ _ _).mono ?_; rintro e w' ⟨rfl, rfl⟩)
        rw [rounds_succ]
        go_wp2_with (go_at_call 70; refine (within_any _ _ _ _).mono ?_; rintro e w' ⟨rfl, rfl⟩)
        go_ret
        exact ⟨ret_b (by simp [ticksB, *]), rfl⟩
      · skip
        cases q3 : inB g 0 100
        · go_enter Tryz.func125, Tryz.ntmps125
          go_wp2
          refine wp_loop_rounds 4 ?_
          rw [rounds_succ]
          go_wp2_with (go_at_call 70; refine (within_any _ _ _ _).mono ?_; rintro e w' ⟨rfl, rfl⟩)
          rw [rounds_succ]
          go_wp2_with (go_at_call 70; refine (within_any _ _ _ _).mono ?_; rintro e w' ⟨rfl, rfl⟩)
          rw [rounds_succ]
          go_wp2_with (go_at_call 70; refine (within_any _ _ _ _).mono ?_; rintro e w' ⟨rfl, rfl⟩)
          rw [rounds_succ]
          go_wp2_with (go_at_call 70; refine (within_any _ _ _ _).mono ?_; rintro e w' ⟨rfl, rfl⟩)
          go_ret
          exact ⟨ret_b (by simp [ticksB, *]), rfl⟩
        · go_enter Tryz.func125, Tryz.ntmps125
          go_wp2
          refine wp_loop_rounds 5 ?_
          rw [rounds_succ]
          go_wp2_with (go_at_call 70; refine (within_any _ _ _ _).mono ?_; rintro e w' ⟨rfl, rfl⟩)
          rw [rounds_succ]
          go_wp2_with (go_at_call 70; refine (within_any _ _ _ _).mono ?_; rintro e w' ⟨rfl, rfl⟩)
          rw [rounds_succ]
          go_wp2_with (go_at_call 70; refine (within_any _ _ _ _).mono ?_; rintro e w' ⟨rfl, rfl⟩)
          rw [rounds_succ]
          go_wp2_with (go_at_call 70; refine (within_any _ _ _ _).mono ?_; rintro e w' ⟨rfl, rfl⟩)
          rw [rounds_succ]
          go_wp2_with (go_at_call 70; refine (within_any _ _ _ _).mono ?_; rintro e w' ⟨rfl, rfl⟩)
          go_ret
          exact ⟨ret_b (by simp [ticksB, *]), rfl⟩

theorem build_checks (w : World) : Sem.run Tryz.prog (Instr.buildSlice 141 4 #[(0, .func (.func 122) #[] #[]), (1, .func (.func 123) #[] #[]), (2, .func (.func 124) #[] #[]), (3, .func (.func 125) #[] #[])]) w = .ok (.slice (some ⟨w.heap.size, 0, none⟩) 4 4) (w.alloc (.cells #[.func (.func 122) #[] #[], .func (.func 123) #[] #[], .func (.func 124) #[] #[], .func (.func 125) #[] #[]] 85)) := by kernel_rfl
set_option maxHeartbeats 2000000 in
theorem implWant_any (c h : ByteArray) (v p s d g : Int) (w : World) (hc : c.size ≤ maxLen) (hh : h.size ≤ maxLen) :
    Calls Tryz.prog 109 #[.agg #[.string c, .int .i64 v, .string h, .int .i64 p, .int .i64 s, .int .i64 d, .int .i64 g]] w fun e w' => e = .returned (.bool (wantB c h v p s d g)) ∧ Below w.heap.size w w' := by
  have hbc := build_checks
  cases q0 : nameB c
  · go_enter Tryz.func109, Tryz.ntmps109
    go_wp2_with go_in
    refine wp_loop_rounds 1 ?_
    rw [rounds_succ]
    go_wp2_with (first | (go_at_call 122; refine (copyOk_any c h v p s d g _ hc hh).mono ?_; rintro e w' ⟨rfl, rfl⟩) | (go_at_call 123; refine (versionOk_any c h v p s d g _ hc hh).mono ?_; rintro e w' ⟨rfl, rfl⟩) | (go_at_call 124; refine (holdOk_any c h v p s d g _ hc hh).mono ?_; rintro e w' ⟨rfl, rfl⟩) | (go_at_call 125; refine (ticksOk_any c h v p s d g _ hc hh).mono ?_; rintro e w' ⟨rfl, rfl⟩) | go_in)
    go_ret
    exact ⟨ret_b (by simp [wantB, *]), by repeat (first | exact Below.refl _ _ | refine bl_alloc ?_ _ | refine bl_drew ?_)⟩
  · skip
    cases q1 : inB v 1 1000000
    · go_enter Tryz.func109, Tryz.ntmps109
      go_wp2_with go_in
      refine wp_loop_rounds 2 ?_
      rw [rounds_succ]
      go_wp2_with (first | (go_at_call 122; refine (copyOk_any c h v p s d g _ hc hh).mono ?_; rintro e w' ⟨rfl, rfl⟩) | (go_at_call 123; refine (versionOk_any c h v p s d g _ hc hh).mono ?_; rintro e w' ⟨rfl, rfl⟩) | (go_at_call 124; refine (holdOk_any c h v p s d g _ hc hh).mono ?_; rintro e w' ⟨rfl, rfl⟩) | (go_at_call 125; refine (ticksOk_any c h v p s d g _ hc hh).mono ?_; rintro e w' ⟨rfl, rfl⟩) | go_in)
      rw [rounds_succ]
      go_wp2_with (first | (go_at_call 122; refine (copyOk_any c h v p s d g _ hc hh).mono ?_; rintro e w' ⟨rfl, rfl⟩) | (go_at_call 123; refine (versionOk_any c h v p s d g _ hc hh).mono ?_; rintro e w' ⟨rfl, rfl⟩) | (go_at_call 124; refine (holdOk_any c h v p s d g _ hc hh).mono ?_; rintro e w' ⟨rfl, rfl⟩) | (go_at_call 125; refine (ticksOk_any c h v p s d g _ hc hh).mono ?_; rintro e w' ⟨rfl, rfl⟩) | go_in)
      go_ret
      exact ⟨ret_b (by simp [wantB, *]), by repeat (first | exact Below.refl _ _ | refine bl_alloc ?_ _ | refine bl_drew ?_)⟩
    · skip
      cases q2 : (h.toList.isEmpty || holdB h)
      · go_enter Tryz.func109, Tryz.ntmps109
        go_wp2_with go_in
        refine wp_loop_rounds 3 ?_
        rw [rounds_succ]
        go_wp2_with (first | (go_at_call 122; refine (copyOk_any c h v p s d g _ hc hh).mono ?_; rintro e w' ⟨rfl, rfl⟩) | (go_at_call 123; refine (versionOk_any c h v p s d g _ hc hh).mono ?_; rintro e w' ⟨rfl, rfl⟩) | (go_at_call 124; refine (holdOk_any c h v p s d g _ hc hh).mono ?_; rintro e w' ⟨rfl, rfl⟩) | (go_at_call 125; refine (ticksOk_any c h v p s d g _ hc hh).mono ?_; rintro e w' ⟨rfl, rfl⟩) | go_in)
        rw [rounds_succ]
        go_wp2_with (first | (go_at_call 122; refine (copyOk_any c h v p s d g _ hc hh).mono ?_; rintro e w' ⟨rfl, rfl⟩) | (go_at_call 123; refine (versionOk_any c h v p s d g _ hc hh).mono ?_; rintro e w' ⟨rfl, rfl⟩) | (go_at_call 124; refine (holdOk_any c h v p s d g _ hc hh).mono ?_; rintro e w' ⟨rfl, rfl⟩) | (go_at_call 125; refine (ticksOk_any c h v p s d g _ hc hh).mono ?_; rintro e w' ⟨rfl, rfl⟩) | go_in)
        rw [rounds_succ]
        go_wp2_with (first | (go_at_call 122; refine (copyOk_any c h v p s d g _ hc hh).mono ?_; rintro e w' ⟨rfl, rfl⟩) | (go_at_call 123; refine (versionOk_any c h v p s d g _ hc hh).mono ?_; rintro e w' ⟨rfl, rfl⟩) | (go_at_call 124; refine (holdOk_any c h v p s d g _ hc hh).mono ?_; rintro e w' ⟨rfl, rfl⟩) | (go_at_call 125; refine (ticksOk_any c h v p s d g _ hc hh).mono ?_; rintro e w' ⟨rfl, rfl⟩) | go_in)
        go_ret
        exact ⟨ret_b (by simp [wantB, *]), by repeat (first | exact Below.refl _ _ | refine bl_alloc ?_ _ | refine bl_drew ?_)⟩
      · skip
        cases q3 : ticksB p s d g
        · go_enter Tryz.func109, Tryz.ntmps109
          go_wp2_with go_in
          refine wp_loop_rounds 4 ?_
          rw [rounds_succ]
          go_wp2_with (first | (go_at_call 122; refine (copyOk_any c h v p s d g _ hc hh).mono ?_; rintro e w' ⟨rfl, rfl⟩) | (go_at_call 123; refine (versionOk_any c h v p s d g _ hc hh).mono ?_; rintro e w' ⟨rfl, rfl⟩) | (go_at_call 124; refine (holdOk_any c h v p s d g _ hc hh).mono ?_; rintro e w' ⟨rfl, rfl⟩) | (go_at_call 125; refine (ticksOk_any c h v p s d g _ hc hh).mono ?_; rintro e w' ⟨rfl, rfl⟩) | go_in)
          rw [rounds_succ]
          go_wp2_with (first | (go_at_call 122; refine (copyOk_any c h v p s d g _ hc hh).mono ?_; rintro e w' ⟨rfl, rfl⟩) | (go_at_call 123; refine (versionOk_any c h v p s d g _ hc hh).mono ?_; rintro e w' ⟨rfl, rfl⟩) | (go_at_call 124; refine (holdOk_any c h v p s d g _ hc hh).mono ?_; rintro e w' ⟨rfl, rfl⟩) | (go_at_call 125; refine (ticksOk_any c h v p s d g _ hc hh).mono ?_; rintro e w' ⟨rfl, rfl⟩) | go_in)
          rw [rounds_succ]
          go_wp2_with (first | (go_at_call 122; refine (copyOk_any c h v p s d g _ hc hh).mono ?_; rintro e w' ⟨rfl, rfl⟩) | (go_at_call 123; refine (versionOk_any c h v p s d g _ hc hh).mono ?_; rintro e w' ⟨rfl, rfl⟩) | (go_at_call 124; refine (holdOk_any c h v p s d g _ hc hh).mono ?_; rintro e w' ⟨rfl, rfl⟩) | (go_at_call 125; refine (ticksOk_any c h v p s d g _ hc hh).mono ?_; rintro e w' ⟨rfl, rfl⟩) | go_in)
          rw [rounds_succ]
          go_wp2_with (first | (go_at_call 122; refine (copyOk_any c h v p s d g _ hc hh).mono ?_; rintro e w' ⟨rfl, rfl⟩) | (go_at_call 123; refine (versionOk_any c h v p s d g _ hc hh).mono ?_; rintro e w' ⟨rfl, rfl⟩) | (go_at_call 124; refine (holdOk_any c h v p s d g _ hc hh).mono ?_; rintro e w' ⟨rfl, rfl⟩) | (go_at_call 125; refine (ticksOk_any c h v p s d g _ hc hh).mono ?_; rintro e w' ⟨rfl, rfl⟩) | go_in)
          go_ret
          exact ⟨ret_b (by simp [wantB, *]), by repeat (first | exact Below.refl _ _ | refine bl_alloc ?_ _ | refine bl_drew ?_)⟩
        · go_enter Tryz.func109, Tryz.ntmps109
          go_wp2_with go_in
          refine wp_loop_rounds 5 ?_
          rw [rounds_succ]
          go_wp2_with (first | (go_at_call 122; refine (copyOk_any c h v p s d g _ hc hh).mono ?_; rintro e w' ⟨rfl, rfl⟩) | (go_at_call 123; refine (versionOk_any c h v p s d g _ hc hh).mono ?_; rintro e w' ⟨rfl, rfl⟩) | (go_at_call 124; refine (holdOk_any c h v p s d g _ hc hh).mono ?_; rintro e w' ⟨rfl, rfl⟩) | (go_at_call 125; refine (ticksOk_any c h v p s d g _ hc hh).mono ?_; rintro e w' ⟨rfl, rfl⟩) | go_in)
          rw [rounds_succ]
          go_wp2_with (first | (go_at_call 122; refine (copyOk_any c h v p s d g _ hc hh).mono ?_; rintro e w' ⟨rfl, rfl⟩) | (go_at_call 123; refine (versionOk_any c h v p s d g _ hc hh).mono ?_; rintro e w' ⟨rfl, rfl⟩) | (go_at_call 124; refine (holdOk_any c h v p s d g _ hc hh).mono ?_; rintro e w' ⟨rfl, rfl⟩) | (go_at_call 125; refine (ticksOk_any c h v p s d g _ hc hh).mono ?_; rintro e w' ⟨rfl, rfl⟩) | go_in)
          rw [rounds_succ]
          go_wp2_with (first | (go_at_call 122; refine (copyOk_any c h v p s d g _ hc hh).mono ?_; rintro e w' ⟨rfl, rfl⟩) | (go_at_call 123; refine (versionOk_any c h v p s d g _ hc hh).mono ?_; rintro e w' ⟨rfl, rfl⟩) | (go_at_call 124; refine (holdOk_any c h v p s d g _ hc hh).mono ?_; rintro e w' ⟨rfl, rfl⟩) | (go_at_call 125; refine (ticksOk_any c h v p s d g _ hc hh).mono ?_; rintro e w' ⟨rfl, rfl⟩) | go_in)
          rw [rounds_succ]
          go_wp2_with (first | (go_at_call 122; refine (copyOk_any c h v p s d g _ hc hh).mono ?_; rintro e w' ⟨rfl, rfl⟩) | (go_at_call 123; refine (versionOk_any c h v p s d g _ hc hh).mono ?_; rintro e w' ⟨rfl, rfl⟩) | (go_at_call 124; refine (holdOk_any c h v p s d g _ hc hh).mono ?_; rintro e w' ⟨rfl, rfl⟩) | (go_at_call 125; refine (ticksOk_any c h v p s d g _ hc hh).mono ?_; rintro e w' ⟨rfl, rfl⟩) | go_in)
          rw [rounds_succ]
          go_wp2_with (first | (go_at_call 122; refine (copyOk_any c h v p s d g _ hc hh).mono ?_; rintro e w' ⟨rfl, rfl⟩) | (go_at_call 123; refine (versionOk_any c h v p s d g _ hc hh).mono ?_; rintro e w' ⟨rfl, rfl⟩) | (go_at_call 124; refine (holdOk_any c h v p s d g _ hc hh).mono ?_; rintro e w' ⟨rfl, rfl⟩) | (go_at_call 125; refine (ticksOk_any c h v p s d g _ hc hh).mono ?_; rintro e w' ⟨rfl, rfl⟩) | go_in)
          go_ret
          exact ⟨ret_b (by simp [wantB, *]), by repeat (first | exact Below.refl _ _ | refine bl_alloc ?_ _ | refine bl_drew ?_)⟩
end Go.Proofs.YtiogkdafmgdbgaaGreat
/- MateWantsOk: what is asked. -/
namespace Go.Proofs.YtiogkdafmgdbgaaGreat.W
open Go.RowKit
set_option linter.unusedVariables false

def WantD.ok (r : WantD) : Bool := wantB r.c r.h r.v r.p r.s r.d r.g
def ascB (q r : WantD) : Bool := Op.bytesLess q.c.toList r.c.toList
/-- Two that would hold one thing. -/
def clash (q r : WantD) : Bool := !r.h.toList.isEmpty && (q.h.toList == r.h.toList)
def Each (ws : List WantD) (n : Nat) : Prop := ∀ j r, j < n → ws[j]? = some r → r.ok = true
def Asc (ws : List WantD) (n : Nat) : Prop := ∀ j q r, j + 1 < n → ws[j]? = some q → ws[j + 1]? = some r → ascB q r = true
def NoneOf (ws : List WantD) (r : WantD) (m : Nat) : Prop := ∀ i q, i < m → ws[i]? = some q → clash q r = false
def Diff (ws : List WantD) (n : Nat) : Prop := ∀ j r, j < n → ws[j]? = some r → NoneOf ws r j
def AllW (ws : List WantD) (n : Nat) : Prop := Each ws n ∧ Asc ws n ∧ Diff ws n
/-- What the answer says. -/
def Says (q : Bool) (ws : List WantD) : Prop := q = true ↔ ws.length ≤ 10 ∧ AllW ws ws.length

theorem Each.step {ws : List WantD} {k : Nat} {r : WantD} (h : Each ws k) (hr : ws[k]? = some r) (hs : r.ok = true) : Each ws (k + 1) := by
  intro j q hj hq
  by_cases e : j = k
  · subst e; rw [hr] at hq; cases hq; exact hs
  · exact h j q (by omega) hq
theorem Asc.step {ws : List WantD} {k : Nat} {q r : WantD} (h : Asc ws (k + 1)) (hq : ws[k]? = some q) (hr : ws[k + 1]? = some r) (hs : ascB q r = true) : Asc ws (k + 1 + 1) := by
  intro j q' r' hj hq' hr'
  by_cases e : j = k
  · subst e; rw [hq] at hq'; rw [hr] at hr'; cases hq'; cases hr'; exact hs
  · exact h j q' r' (by omega) hq' hr'
theorem Asc.one {ws : List WantD} : Asc ws 1 := fun j q r hj _ _ => by omega
theorem NoneOf.step {ws : List WantD} {m : Nat} {q r : WantD} (h : NoneOf ws r m) (hq : ws[m]? = some q) (hs : clash q r = false) : NoneOf ws r (m + 1) := by
  intro i q' hi hq'
  by_cases e : i = m
  · subst e; rw [hq] at hq'; cases hq'; exact hs
  · exact h i q' (by omega) hq'
theorem Diff.step {ws : List WantD} {k : Nat} {r : WantD} (h : Diff ws k) (hr : ws[k]? = some r) (hs : NoneOf ws r k) : Diff ws (k + 1) := by
  intro j q hj hq
  by_cases e : j = k
  · subst e; rw [hr] at hq; cases hq; exact hs
  · exact h j q (by omega) hq
theorem says_no {ws : List WantD} (h : ws.length ≤ 10 → AllW ws ws.length → False) : Says false ws := ⟨fun h' => (by cases h'), fun h' => (h h'.1 h'.2).elim⟩
theorem says_yes {ws : List WantD} {k : Nat} (h : AllW ws k) (hk : ws.length ≤ k) (h10 : ws.length ≤ 10) : Says true ws :=
  ⟨fun _ => ⟨h10, fun j r hj hr => h.1 j r (by omega) hr, fun j q r hj hq hr => h.2.1 j q r (by omega) hq hr, fun j r hj hr => h.2.2 j r (by omega) hr⟩, fun _ => rfl⟩

theorem keep1 {x w' : World} {b off k : Nat} {rs : List WantD} {r : WantD} (hk : rs[k]? = some r) (h1 : RowsAt x b off rs) (l1 : b < x.heap.size) (hb : Below x.heap.size x w') :
    Below x.heap.size x w' ∧ (w'.cell? ⟨b, off + k * 7, none⟩ = some (.string r.c) ∧ w'.cell? ⟨b, off + k * 7 + 1, none⟩ = some (.int .i64 r.v) ∧ w'.cell? ⟨b, off + k * 7 + 2, none⟩ = some (.string r.h) ∧ w'.cell? ⟨b, off + k * 7 + 3, none⟩ = some (.int .i64 r.p) ∧ w'.cell? ⟨b, off + k * 7 + 4, none⟩ = some (.int .i64 r.s) ∧ w'.cell? ⟨b, off + k * 7 + 5, none⟩ = some (.int .i64 r.d) ∧ w'.cell? ⟨b, off + k * 7 + 6, none⟩ = some (.int .i64 r.g)) := ⟨hb, (h1.keep l1 hb).at hk⟩
theorem keep2 {x w' : World} {b off k : Nat} {rs : List WantD} {r q : WantD} (hk : rs[k + 1]? = some r) (hq : rs[k]? = some q) (h1 : RowsAt x b off rs) (l1 : b < x.heap.size) (hb : Below x.heap.size x w') :
    Below x.heap.size x w' ∧ (w'.cell? ⟨b, off + (k + 1) * 7, none⟩ = some (.string r.c) ∧ w'.cell? ⟨b, off + (k + 1) * 7 + 1, none⟩ = some (.int .i64 r.v) ∧ w'.cell? ⟨b, off + (k + 1) * 7 + 2, none⟩ = some (.string r.h) ∧ w'.cell? ⟨b, off + (k + 1) * 7 + 3, none⟩ = some (.int .i64 r.p) ∧ w'.cell? ⟨b, off + (k + 1) * 7 + 4, none⟩ = some (.int .i64 r.s) ∧ w'.cell? ⟨b, off + (k + 1) * 7 + 5, none⟩ = some (.int .i64 r.d) ∧ w'.cell? ⟨b, off + (k + 1) * 7 + 6, none⟩ = some (.int .i64 r.g)) ∧ w'.cell? ⟨b, off + k * 7, none⟩ = some (.string q.c) := ⟨hb, (h1.keep l1 hb).at hk, ((h1.keep l1 hb).at hq).1⟩
theorem keep0 {x w' : World} {b off : Nat} {rs : List WantD} {r : WantD} (hk : rs[0]? = some r) (h1 : RowsAt x b off rs) (l1 : b < x.heap.size) (hb : Below x.heap.size x w') :
    Below x.heap.size x w' ∧ (w'.cell? ⟨b, off, none⟩ = some (.string r.c) ∧ w'.cell? ⟨b, off + 1, none⟩ = some (.int .i64 r.v) ∧ w'.cell? ⟨b, off + 2, none⟩ = some (.string r.h) ∧ w'.cell? ⟨b, off + 3, none⟩ = some (.int .i64 r.p) ∧ w'.cell? ⟨b, off + 4, none⟩ = some (.int .i64 r.s) ∧ w'.cell? ⟨b, off + 5, none⟩ = some (.int .i64 r.d) ∧ w'.cell? ⟨b, off + 6, none⟩ = some (.int .i64 r.g)) := by
  have := keep1 (k := 0) hk h1 l1 hb
  simpa using this
theorem hold_at {x : World} {b off k : Nat} {rs : List WantD} {r : WantD} (hk : rs[k]? = some r) (h1 : RowsAt x b off rs) : x.cell? ⟨b, off + k * 7 + 2, none⟩ = some (.string r.h) := (h1.at hk).2.2.1
end Go.Proofs.YtiogkdafmgdbgaaGreat.W
/- Is a state alive? -/
namespace Go.Proofs.YtiogkdafmgdbgaaGreat
open Go.RowKit

def aliveB (a : Int) : Bool := a == 3 || a == 4 || a == 6

theorem alive_any (a : Int) (w : World) :
    Calls Tryz.prog 107 #[.int .i64 a] w fun e w' => e = .returned (.bool (aliveB a)) ∧ w' = w := by
  by_cases h3 : a = 3
  · subst h3
    go_enter Tryz.func107, Tryz.ntmps107
    go_wp2
    go_ret
    exact ⟨rfl, rfl⟩
  · by_cases h4 : a = 4
    · subst h4
      go_enter Tryz.func107, Tryz.ntmps107
      go_wp2
      go_ret
      exact ⟨rfl, rfl⟩
    · have e3 : (a == 3) = false := by simpa using h3
      have e4 : (a == 4) = false := by simpa using h4
      have ea : aliveB a = (a == 6) := by simp [aliveB, e3, e4]
      rw [ea]
      clear ea h3 h4
      go_enter Tryz.func107, Tryz.ntmps107
      go_wp2
      go_ret
      exact ⟨rfl, rfl⟩

end Go.Proofs.YtiogkdafmgdbgaaGreat
/- A run as the program has it, and what it may. -/
namespace Go.Proofs.YtiogkdafmgdbgaaGreat
open Go.RowKit
set_option linter.unusedVariables false

theorem runOf_any (c h : ByteArray) (v p s d g a b i u : Int) (w : World) :
    Calls Tryz.prog 102 #[.agg #[.string c, .int .i64 v, .string h, .int .i64 p, .int .i64 s, .int .i64 d, .int .i64 g, .int .i64 a, .int .i64 b, .int .i64 i, .int .i64 u]] w fun e w' => e = .returned (.agg #[.string c, .int .i64 v, .string h, .int .i64 p, .int .i64 s, .int .i64 d, .int .i64 g, .int .i64 a, .int .i64 b, .int .i64 i, .int .i64 u]) ∧ w' = (w.alloc (.cells #[.string c, .int .i64 v, .string h, .int .i64 p, .int .i64 s, .int .i64 d, .int .i64 g, .int .i64 a, .int .i64 b, .int .i64 i, .int .i64 u] 59)).alloc (.cells #[.string c, .int .i64 v, .string h, .int .i64 p, .int .i64 s, .int .i64 d, .int .i64 g, .int .i64 a, .int .i64 b, .int .i64 i, .int .i64 u] 131) := by
  go_enter Tryz.func102, Tryz.ntmps102
  go_wp2
  exact bodyPost_ret (v := .agg #[.string c, .int .i64 v, .string h, .int .i64 p, .int .i64 s, .int .i64 d, .int .i64 g, .int .i64 a, .int .i64 b, .int .i64 i, .int .i64 u]) (by simp [results, Tryz.results102, go_sem]) rfl ⟨rfl, rfl⟩

/-- Has a run its hold for long enough, or none? -/
def leasedB (h : ByteArray) (u clock : Int) : Bool := h.toList.isEmpty || decide (wrap64 (clock + 4) ≤ u)

theorem mayLive_any (c h : ByteArray) (v p s d g a b i u clock : Int) (w : World) :
    Calls Tryz.prog 119 #[.agg #[.string c, .int .i64 v, .string h, .int .i64 p, .int .i64 s, .int .i64 d, .int .i64 g, .int .i64 a, .int .i64 b, .int .i64 i, .int .i64 u], .int .i64 clock] w fun e w' => e = .returned (.bool (leasedB h u clock)) ∧ w' = w.alloc (.cells #[.string c, .int .i64 v, .string h, .int .i64 p, .int .i64 s, .int .i64 d, .int .i64 g, .int .i64 a, .int .i64 b, .int .i64 i, .int .i64 u] 131) := by
  unfold leasedB
  cases hh : h.toList.isEmpty
  · go_enter Tryz.func119, Tryz.ntmps119
    go_wp2
    go_ret
    exact ⟨by simp, rfl⟩
  · go_enter Tryz.func119, Tryz.ntmps119
    go_wp2
    go_ret
    exact ⟨by simp, rfl⟩

theorem leased_any (c h : ByteArray) (v p s d g a b i u clock : Int) (w : World) :
    Calls Tryz.prog 99 #[.agg #[.string c, .int .i64 v, .string h, .int .i64 p, .int .i64 s, .int .i64 d, .int .i64 g, .int .i64 a, .int .i64 b, .int .i64 i, .int .i64 u], .int .i64 clock] w fun e w' => e = .returned (.bool (leasedB h u clock)) ∧ w' = w.alloc (.cells #[.string c, .int .i64 v, .string h, .int .i64 p, .int .i64 s, .int .i64 d, .int .i64 g, .int .i64 a, .int .i64 b, .int .i64 i, .int .i64 u] 59) := by
  unfold leasedB
  cases hh : h.toList.isEmpty
  · go_enter Tryz.func99, Tryz.ntmps99
    go_wp2
    go_ret
    exact ⟨by simp, rfl⟩
  · go_enter Tryz.func99, Tryz.ntmps99
    go_wp2
    go_ret
    exact ⟨by simp, rfl⟩

theorem specAlive_x (c h : ByteArray) (v p s d g a b i u : Int) (w : World) :
    Calls Tryz.prog 49 #[.agg #[.string c, .int .i64 v, .string h, .int .i64 p, .int .i64 s, .int .i64 d, .int .i64 g, .int .i64 a, .int .i64 b, .int .i64 i, .int .i64 u]] w fun e w' => e = .returned (.bool (aliveB a)) ∧ w' = w.alloc (.cells #[.string c, .int .i64 v, .string h, .int .i64 p, .int .i64 s, .int .i64 d, .int .i64 g, .int .i64 a, .int .i64 b, .int .i64 i, .int .i64 u] 59) := by
  by_cases h3 : a = 3
  · subst h3
    go_enter Tryz.func49, Tryz.ntmps49
    go_wp2
    go_ret
    exact ⟨rfl, rfl⟩
  · by_cases h4 : a = 4
    · subst h4
      go_enter Tryz.func49, Tryz.ntmps49
      go_wp2
      go_ret
      exact ⟨rfl, rfl⟩
    · have e3 : (a == 3) = false := by simpa using h3
      have e4 : (a == 4) = false := by simpa using h4
      have ea : aliveB a = (a == 6) := by simp [aliveB, e3, e4]
      rw [ea]
      clear ea h3 h4
      go_enter Tryz.func49, Tryz.ntmps49
      go_wp2
      go_ret
      exact ⟨rfl, rfl⟩

end Go.Proofs.YtiogkdafmgdbgaaGreat
