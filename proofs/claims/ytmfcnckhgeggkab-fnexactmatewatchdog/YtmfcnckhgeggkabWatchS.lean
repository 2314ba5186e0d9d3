/- MateWatchdog: the specification's side. -/
import Derived.Test.YtmfcnckhgeggkabOwn
import Derived.Test.YtmfcnckhgeggkabLifeS
namespace Go.Proofs.Ytmfcnckhgeggkab
open Go.RowKit
set_option linter.unusedVariables false

/-- What the watchdog leaves of a run. -/
def watchD (clock : Int) (r : RunD) : RunD := if aliveB r.a = true ∧ leasedB r.h r.u clock = false then { r with a := 2, b := 0 } else r
theorem watch_yes {clock : Int} {r : RunD} (h1 : aliveB r.a = true) (h2 : leasedB r.h r.u clock = false) : watchD clock r = { r with a := 2, b := 0 } := if_pos ⟨h1, h2⟩
theorem watch_no1 {clock : Int} {r : RunD} (h1 : aliveB r.a = false) : watchD clock r = r := if_neg (fun h => by rw [h1] at h; cases h.1)
theorem watch_no2 {clock : Int} {r : RunD} (h2 : leasedB r.h r.u clock = true) : watchD clock r = r := if_neg (fun h => by rw [h2] at h; cases h.2)
theorem build_none (w : World) : Sem.run Try.prog (Instr.buildSlice 25 0 #[]) w = .ok (.slice (some ⟨w.heap.size, 0, none⟩) 0 0) (w.alloc (.cells #[] 39)) := by kernel_rfl
theorem not_none {g n c : Nat} : Value.slice (some ⟨g, 0, none⟩) n c ≠ .slice none 0 0 := by intro h; cases h

theorem owns_step {x' : World} {base k : Nat} {v' : Value} {f : RunD → RunD} {rs : List RunD} {r : RunD} (hr : rs[k]? = some r)
    (h : x'.ownsRow base 39 11 v' (k + 1) (flatR ((rs.take k).map f) ++ (f r).cells)) : x'.ownsRow base 39 11 v' (k + 1) (flatR ((rs.take (k + 1)).map f)) := by
  have hlt : k < rs.length := (List.getElem?_eq_some_iff.1 hr).1
  have he : rs[k] = r := by rw [List.getElem?_eq_getElem hlt] at hr; exact Option.some.inj hr
  rw [List.take_succ_eq_append_getElem hlt, List.map_append, List.map_singleton, he, flatR_snoc]
  exact h

set_option maxHeartbeats 1000000 in
theorem specWatch (b off cap : Nat) (rs : List RunD) (clock : Int) (w : World) (hR : RowsAt w b off rs) (hb : b < w.heap.size) (hl : rs.length ≤ 1048576) :
    Calls Try.prog 14 #[.slice (some ⟨b, off, none⟩) rs.length cap, .int .i64 clock] w fun e w' => (∃ g cap', e = .returned (.slice (some ⟨g, 0, none⟩) rs.length cap') ∧ w.heap.size ≤ g ∧ g < w'.heap.size ∧ RowsAt w' g 0 (rs.map (watchD clock)) ∧ w'.there g 0 (rs.length * 11)) ∧ Below w.heap.size w w' := by
  obtain ⟨i0, hi, hz0, hz1, hz2⟩ := info_parts infoR
  have hbn := build_none
  go_enter Try.func14, Try.ntmps14
  go_wp2
  clear hbn
  go_loopw [5, 6] (fun v i wx => ∃ (k : Nat), k ≤ rs.length ∧ i = .int .i64 k ∧ wx.ownsRow w.heap.size 39 11 v k (flatR ((rs.take k).map (watchD clock))) ∧ v ≠ .slice none 0 0 ∧ Below w.heap.size w wx) (fun _ i _ => rs.length - (intOf i).toNat)
  case atStart => exact ⟨0, Nat.zero_le _, rfl, World.ownsRow_made w #[] 0 (Nat.le_refl _) (Nat.zero_le _) rfl, not_none, bl_alloc (Below.refl _ _) _⟩
  case round =>
    obtain ⟨k, hk, rfl, hown, hnn, hB⟩ := hrel
    by_cases hlt : k < rs.length
    · obtain ⟨r, hr⟩ : ∃ r, rs[k]? = some r := ⟨rs[k], List.getElem?_eq_getElem hlt⟩
      have Hr : Hid _ := hr
      have Hn : Hid _ := hnn
      have Ho : Hid (wr.ownsRow w.heap.size 39 11 u5 k (flatR ((rs.take k).map (watchD clock)))) := hown
      obtain ⟨c0, c1, c2, c3, c4, c5, c6, c7, c8, c9, c10⟩ := (hR.keep hb hB).at hr
      clear hr hnn hown
      cases hal : aliveB r.a
      · go_wp2_with (first | (at_builtin; (refine wpList_append_own _ rfl _ _ 25 rfl w.heap.size 39 i0 _ 11 104 Try.underlying25 hi hz0 hz1 hz2 rfl (by decide) _ k _ rfl (by exact owns_below Ho.out (by repeat (first | exact Below.refl _ _ | refine bl_alloc ?_ _))) ⟨_, 0, none⟩ 1 1 r.cells rfl rfl (new_cells _ _ (by simp) _ _ _ rfl) (cellsR_one _) (by unfold maxLen; omega) (by omega) (by have := hB.size; simp; omega) ?_); intro v' w1 ho1 hg1 hn1) | (go_at_call 43; refine (specAlive_x r.c r.h r.v r.p r.s r.d r.g r.a r.b r.i r.u _).mono ?_; rintro e w' ⟨rfl, rfl⟩) | (go_at_call 44; refine (leased_any r.c r.h r.v r.p r.s r.d r.g r.a r.b r.i r.u clock _).mono ?_; rintro e w' ⟨rfl, rfl⟩))
        exact ⟨⟨k + 1, by omega, by go_num, owns_step (f := watchD clock) Hr.out (by rw [watch_no1 hal]; exact ho1), fun h => (by have := hn1.1 h; simp at this), Below.grown (by repeat (first | exact hB | refine bl_alloc ?_ _)) hg1 (by have := hB.size; simp; omega) (owns_ge Ho.out)⟩, by simp [intOf]; omega⟩
      · cases hle : leasedB r.h r.u clock
        · go_wp2_with (first | (at_builtin; (refine wpList_append_own _ rfl _ _ 25 rfl w.heap.size 39 i0 _ 11 104 Try.underlying25 hi hz0 hz1 hz2 rfl (by decide) _ k _ rfl (by exact owns_below Ho.out (by repeat (first | exact Below.refl _ _ | refine bl_alloc ?_ _))) ⟨_, 0, none⟩ 1 1 ({ r with a := 2, b := 0 } : RunD).cells rfl rfl (new_cells _ _ (by simp) _ _ _ rfl) (cellsR_one _) (by unfold maxLen; omega) (by omega) (by have := hB.size; simp; omega) ?_); intro v' w1 ho1 hg1 hn1) | (go_at_call 43; refine (specAlive_x r.c r.h r.v r.p r.s r.d r.g r.a r.b r.i r.u _).mono ?_; rintro e w' ⟨rfl, rfl⟩) | (go_at_call 44; refine (leased_any r.c r.h r.v r.p r.s r.d r.g r.a r.b r.i r.u clock _).mono ?_; rintro e w' ⟨rfl, rfl⟩))
          exact ⟨⟨k + 1, by omega, by go_num, owns_step (f := watchD clock) Hr.out (by rw [watch_yes hal hle]; exact ho1), fun h => (by have := hn1.1 h; simp at this), Below.grown (by repeat (first | exact hB | refine bl_alloc ?_ _)) hg1 (by have := hB.size; simp; omega) (owns_ge Ho.out)⟩, by simp [intOf]; omega⟩
        · go_wp2_with (first | (at_builtin; (refine wpList_append_own _ rfl _ _ 25 rfl w.heap.size 39 i0 _ 11 104 Try.underlying25 hi hz0 hz1 hz2 rfl (by decide) _ k _ rfl (by exact owns_below Ho.out (by repeat (first | exact Below.refl _ _ | refine bl_alloc ?_ _))) ⟨_, 0, none⟩ 1 1 r.cells rfl rfl (new_cells _ _ (by simp) _ _ _ rfl) (cellsR_one _) (by unfold maxLen; omega) (by omega) (by have := hB.size; simp; omega) ?_); intro v' w1 ho1 hg1 hn1) | (go_at_call 43; refine (specAlive_x r.c r.h r.v r.p r.s r.d r.g r.a r.b r.i r.u _).mono ?_; rintro e w' ⟨rfl, rfl⟩) | (go_at_call 44; refine (leased_any r.c r.h r.v r.p r.s r.d r.g r.a r.b r.i r.u clock _).mono ?_; rintro e w' ⟨rfl, rfl⟩))
          exact ⟨⟨k + 1, by omega, by go_num, owns_step (f := watchD clock) Hr.out (by rw [watch_no2 hle]; exact ho1), fun h => (by have := hn1.1 h; simp at this), Below.grown (by repeat (first | exact hB | refine bl_alloc ?_ _)) hg1 (by have := hB.size; simp; omega) (owns_ge Ho.out)⟩, by simp [intOf]; omega⟩
    · go_wp2
      go_ret
      have hk' : k = rs.length := by omega
      subst hk'
      rw [List.take_of_length_le (Nat.le_refl _)] at hown
      have hown' : wr.ownsRow w.heap.size 39 11 u5 (rs.map (watchD clock)).length (flatR (rs.map (watchD clock))) := by rw [List.length_map]; exact hown
      rcases rows_of_owns hown' with ⟨h, -⟩ | ⟨g, cap', rfl, hg0, hg1, hrows, hth⟩
      · exact absurd h hnn
      · rw [List.length_map] at hth ⊢
        exact ⟨⟨g, cap', rfl, hg0, hg1, hrows, hth⟩, hB⟩
end Go.Proofs.Ytmfcnckhgeggkab
