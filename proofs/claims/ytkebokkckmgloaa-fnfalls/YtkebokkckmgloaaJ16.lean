import Derived.Test.YtkebokkckmgloaaJ13
import Derived.Test.YtkebokkckmgloaaJ15
import Derived.Test.YtkebokkckmgloaaJ14
import Derived.Test.YtkebokkckmgloaaJ06
/- MateValid: the specification's side. -/
namespace Go.Proofs.Ytkebokkckmgloaa
open Go.RowKit
set_option linter.unusedVariables false

def SaysV (q : Bool) (m : MateD) : Prop := q = true ↔ Valid m
theorem saysV_no {m : MateD} (h : Valid m → False) : SaysV false m := ⟨fun h' => (by cases h'), fun h' => (h h').elim⟩
theorem kn_no {k : Bool} {n : Nat} (h1 : k = false) (h2 : 0 < n) (h : k = true ∨ n = 0) : False := by
  rcases h with h | h
  · rw [h1] at h; cases h
  · omega
theorem kn_yes {k : Bool} {n : Nat} (h : ¬ (k = false ∧ 0 < n)) : k = true ∨ n = 0 := by
  cases hk : k
  · exact Or.inr (Nat.eq_zero_of_not_pos (fun h' => h ⟨hk, h'⟩))
  · exact Or.inl rfl
theorem kn_part {k : Bool} {n : Nat} (h : k = true ∨ n = 0) : (k = true ∧ (0 : Int) < (n : Int)) ∨ n = 0 := by
  rcases Nat.eq_zero_or_pos n with h' | h'
  · exact Or.inr h'
  · rcases h with h | h
    · exact Or.inl ⟨h, by omega⟩
    · omega
theorem none_step {qs gs : List A.AskD} {k : Nat} {r : A.AskD} (h : ∀ j r, j < k → qs[j]? = some r → ¬ A.HasA gs r.h) (hr : qs[k]? = some r) (hn : ¬ A.HasA gs r.h) : ∀ j r, j < k + 1 → qs[j]? = some r → ¬ A.HasA gs r.h := by
  intro j q hj hq
  by_cases e : j = k
  · subst e; rw [hr] at hq; cases hq; exact hn
  · exact h j q (by omega) hq
theorem none_all {qs gs : List A.AskD} (h : ∀ j r, j < qs.length → qs[j]? = some r → ¬ A.HasA gs r.h) : ∀ r ∈ qs, ¬ A.HasA gs r.h := by
  intro r hr
  obtain ⟨j, hj⟩ := List.getElem?_of_mem hr
  exact h j r (List.getElem?_eq_some_iff.1 hj).1 hj
theorem each_step {rs : List RunD} {k : Nat} {r : RunD} (h : ∀ j r, j < k → rs[j]? = some r → heldB r = true) (hr : rs[k]? = some r) (hn : heldB r = true) : ∀ j r, j < k + 1 → rs[j]? = some r → heldB r = true := by
  intro j q hj hq
  by_cases e : j = k
  · subst e; rw [hr] at hq; cases hq; exact hn
  · exact h j q (by omega) hq
theorem each_all {rs : List RunD} (h : ∀ j r, j < rs.length → rs[j]? = some r → heldB r = true) : ∀ r ∈ rs, heldB r = true := by
  intro r hr
  obtain ⟨j, hj⟩ := List.getElem?_of_mem hr
  exact h j r (List.getElem?_eq_some_iff.1 hj).1 hj
theorem drewN_top {B : Nat} {w w' : World} (h : Below B w w') {n : Nat} : Below B w (w'.drewN n) := ⟨h.os, h.tape, h.output, h.size, h.block⟩
theorem down_of {m : MateD} (h : Valid m) (hu : m.up = false) : DownSay m := by
  rcases h.2.2.2.2.2 with h' | h'
  · rw [hu] at h'; cases h'
  · exact h'
theorem down_len {k : Bool} {a b c : Nat} (h : k = true ∨ a = 0) (hk : k = false) (hl : b + c = 0) : a + b + c = 0 := by
  rcases h with h | h
  · rw [hk] at h; cases h
  · omega
theorem held_at {m : MateD} {k : Nat} {r : RunD} (hr : m.rs[k]? = some r) (hh : heldB r = false) (h : Valid m) (hu : m.up = false) : False := by
  have := (down_of h hu).2.2.2 r (List.mem_of_getElem? hr); rw [hh] at this; cases this

end Go.Proofs.Ytkebokkckmgloaa
/- The specification's checks of lists that are given, or nil. -/
namespace Go.Proofs.Ytkebokkckmgloaa
open Go.RowKit
set_option linter.unusedVariables false

theorem W.specWants_zero (a : Option Addr) (cap : Nat) (w : World) :
    Calls Try.prog 29 #[.slice a 0 cap] w fun e w' => e = .returned (.bool true) ∧ w' = w := by
  go_enter Try.func29, Try.ntmps29
  go_wp2
  refine wp_loop_rounds 1 ?_
  rw [rounds_succ]
  go_wp2
  go_ret
  exact ⟨rfl, rfl⟩
theorem specRuns_zero (a : Option Addr) (cap : Nat) (clock : Int) (w : World) :
    Calls Try.prog 36 #[.slice a 0 cap, .int .i64 clock] w fun e w' => e = .returned (.bool true) ∧ w' = w := by
  go_enter Try.func36, Try.ntmps36
  go_wp2
  refine wp_loop_rounds 1 ?_
  rw [rounds_succ]
  go_wp2
  go_ret
  exact ⟨rfl, rfl⟩
theorem A.specAsks_zero (a : Option Addr) (cap : Nat) (clock : Int) (w : World) :
    Calls Try.prog 67 #[.slice a 0 cap, .int .i64 clock] w fun e w' => e = .returned (.bool true) ∧ w' = w := by
  go_enter Try.func67, Try.ntmps67
  go_wp2
  refine wp_loop_rounds 1 ?_
  rw [rounds_succ]
  go_wp2
  go_ret
  exact ⟨rfl, rfl⟩
theorem A.specAsk_zero (a : Option Addr) (cap : Nat) (x : ByteArray) (w : World) :
    Calls Try.prog 68 #[.slice a 0 cap, .string x] w fun e w' => e = .returned (.int .i64 (-1)) ∧ w' = w := by
  go_enter Try.func68, Try.ntmps68
  go_wp2
  refine wp_loop_rounds 1 ?_
  rw [rounds_succ]
  go_wp2
  go_ret
  exact ⟨rfl, rfl⟩
theorem W.specWantsOk_gv (a : Option Addr) (cap : Nat) (ws : List W.WantD) (w : World) (h : W.Gv w a ws) (hfit : ∀ r ∈ ws, r.fits) (hl : ws.length ≤ 1048576) :
    Calls Try.prog 29 #[.slice a ws.length cap] w fun e w' => (∃ q : Bool, e = .returned (.bool q) ∧ W.Says q ws) ∧ Below w.heap.size w w' := by
  rcases h with rfl | ⟨b, rfl, hb, hR⟩
  · refine (W.specWants_zero a cap w).mono ?_
    rintro e w' ⟨rfl, rfl⟩
    exact ⟨⟨true, rfl, ⟨fun _ => ⟨by simp, (fun j r hj hr => by simp at hr), (fun j q r hj hq hr => by simp at hq), (fun j r hj hr => by simp at hr)⟩, fun _ => rfl⟩⟩, Below.refl _ _⟩
  · exact W.specWantsOk b 0 cap ws w hR hb hfit hl
theorem specRunsOk_gv (a : Option Addr) (cap : Nat) (rs : List RunD) (clock : Int) (w : World) (h : Gv w a rs) (hfit : ∀ r ∈ rs, r.fits) (hl : rs.length ≤ 1048576) :
    Calls Try.prog 36 #[.slice a rs.length cap, .int .i64 clock] w fun e w' => (∃ q : Bool, e = .returned (.bool q) ∧ (q = true ↔ rs.length ≤ 20 ∧ AllOk clock rs rs.length)) ∧ Below w.heap.size w w' := by
  rcases h with rfl | ⟨b, rfl, hb, hR⟩
  · refine (specRuns_zero a cap clock w).mono ?_
    rintro e w' ⟨rfl, rfl⟩
    exact ⟨⟨true, rfl, ⟨fun _ => ⟨by simp, (fun j r hj hr => by simp at hr)⟩, fun _ => rfl⟩⟩, Below.refl _ _⟩
  · exact specRunsOk b 0 cap rs clock w hR hb hfit hl
theorem A.specAsksOk_gv (a : Option Addr) (cap : Nat) (rs : List A.AskD) (clock : Int) (w : World) (h : A.Gv w a rs) (hfit : ∀ r ∈ rs, r.fits) (hl : rs.length ≤ 1048576) :
    Calls Try.prog 67 #[.slice a rs.length cap, .int .i64 clock] w fun e w' => (∃ q : Bool, e = .returned (.bool q) ∧ A.SaysA q clock rs) ∧ Below w.heap.size w w' := by
  rcases h with rfl | ⟨b, rfl, hb, hR⟩
  · refine (A.specAsks_zero a cap clock w).mono ?_
    rintro e w' ⟨rfl, rfl⟩
    exact ⟨⟨true, rfl, ⟨fun _ => ⟨by simp, (fun j q r hj hq hr => by simp at hq), (fun r hr => by simp at hr)⟩, fun _ => rfl⟩⟩, Below.refl _ _⟩
  · exact A.specAsksOk b 0 cap rs clock w hR hb hfit hl
theorem A.specAsk_gv (a : Option Addr) (cap : Nat) (rs : List A.AskD) (x : ByteArray) (w : World) (h : A.Gv w a rs) (hl : rs.length ≤ 1048576) :
    Calls Try.prog 68 #[.slice a rs.length cap, .string x] w fun e w' => e = .returned (.int .i64 (A.askAt rs x)) ∧ w' = w := by
  rcases h with rfl | ⟨b, rfl, hb, hR⟩
  · refine (A.specAsk_zero a cap x w).mono ?_
    rintro e w' ⟨rfl, rfl⟩
    exact ⟨rfl, rfl⟩
  · exact A.specAsk_x b 0 cap rs x w hR hb hl
/-- A mate's lists, each given or nil. -/
structure ListsX (w : World) (m : MateD) (a1 a2 a3 a4 : Option Addr) : Prop where
  r1 : W.Gv w a1 m.ws
  r2 : Gv w a2 m.rs
  r3 : A.Gv w a3 m.qs
  r4 : A.Gv w a4 m.gs
theorem ListsX.keep {w w' : World} {m : MateD} {a1 a2 a3 a4 : Option Addr} (h : ListsX w m a1 a2 a3 a4) (hB : Below w.heap.size w w') : ListsX w' m a1 a2 a3 a4 := ⟨h.r1.keep hB, h.r2.keep hB, h.r3.keep hB, h.r4.keep hB⟩
end Go.Proofs.Ytkebokkckmgloaa
/- A list's cells, one behind the other. -/
namespace Go.Proofs.Ytkebokkckmgloaa
open Go.RowKit
set_option linter.unusedVariables false

theorem flat_cells {w : World} {g : Nat} {l : List RunD} (h : RowsAt w g 0 l) : ∀ j u, (flatR l)[j]? = some u → w.cell? ((⟨g, 0, none⟩ : Addr).add j) = some u := by
  intro j u hj
  have hlt : j < l.length * 11 := by rw [← flatR_len]; exact (List.getElem?_eq_some_iff.1 hj).1
  have hk : j / 11 < l.length := by omega
  have hr : j % 11 < 11 := Nat.mod_lt _ (by decide)
  have e : j / 11 * 11 + j % 11 = j := by omega
  have h1 := flatR_at l (j / 11) l[j / 11] (List.getElem?_eq_getElem hk) (j % 11) hr
  rw [e, hj] at h1
  have h2 := h (j / 11) l[j / 11] (List.getElem?_eq_getElem hk) (j % 11) u h1.symm
  rw [Addr.add_mid]
  rw [show 0 + j / 11 * 11 + j % 11 = 0 + j from by omega] at h2
  exact h2
end Go.Proofs.Ytkebokkckmgloaa
/- A list is copied by append. -/
namespace Go.Proofs.Ytkebokkckmgloaa
open Go.RowKit
set_option linter.unusedVariables false

set_option maxHeartbeats 1000000 in
theorem fresh (g cap : Nat) (l : List RunD) (w : World) (h : RowsAt w g 0 l) (hl : l.length ≤ 1048576) :
    Calls Try.prog 127 #[.slice (some ⟨g, 0, none⟩) l.length cap] w fun e w' => (∃ v, e = .returned v ∧ Sl w' v l w.heap.size) ∧ Below w.heap.size w w' := by
  obtain ⟨i0, hi, hz0, hz1, hz2⟩ := info_parts infoR
  go_enter Try.func127, Try.ntmps127
  go_wp2_with (at_builtin; refine wpList_append_own _ rfl _ _ 24 rfl w.heap.size 38 i0 _ 11 104 Try.underlying24 hi hz0 hz1 hz2 rfl (by decide) (.slice none 0 0) 0 [] rfl (World.ownsRow_nil _ _ _ _) ⟨g, 0, none⟩ l.length cap (flatR l) rfl (flatR_len l) (flat_cells h) (flatR_one l) (by unfold maxLen; omega) (by omega) (Nat.le_refl _) ?_; intro v' w1 ho1 hg1 hn1)
  go_ret
  have ho2 : w1.ownsRow w.heap.size 38 11 v' l.length (flatR l) := by simpa using ho1
  exact ⟨⟨v', rfl, Sl.of_owns ho2⟩, Below.grown (Below.refl _ _) hg1 (Nat.le_refl _) (fun j hj => by cases hj)⟩
end Go.Proofs.Ytkebokkckmgloaa
/- A list's cells, one behind the other. -/
namespace Go.Proofs.Ytkebokkckmgloaa.W
open Go.RowKit
set_option linter.unusedVariables false

theorem flat_cells {w : World} {g : Nat} {l : List WantD} (h : RowsAt w g 0 l) : ∀ j u, (flatR l)[j]? = some u → w.cell? ((⟨g, 0, none⟩ : Addr).add j) = some u := by
  intro j u hj
  have hlt : j < l.length * 7 := by rw [← flatR_len]; exact (List.getElem?_eq_some_iff.1 hj).1
  have hk : j / 7 < l.length := by omega
  have hr : j % 7 < 7 := Nat.mod_lt _ (by decide)
  have e : j / 7 * 7 + j % 7 = j := by omega
  have h1 := flatR_at l (j / 7) l[j / 7] (List.getElem?_eq_getElem hk) (j % 7) hr
  rw [e, hj] at h1
  have h2 := h (j / 7) l[j / 7] (List.getElem?_eq_getElem hk) (j % 7) u h1.symm
  rw [Addr.add_mid]
  rw [show 0 + j / 7 * 7 + j % 7 = 0 + j from by omega] at h2
  exact h2
end Go.Proofs.Ytkebokkckmgloaa.W
/- A list is copied by append. -/
namespace Go.Proofs.Ytkebokkckmgloaa.W
open Go.RowKit
set_option linter.unusedVariables false

set_option maxHeartbeats 1000000 in
theorem fresh (g cap : Nat) (l : List WantD) (w : World) (h : RowsAt w g 0 l) (hl : l.length ≤ 1048576) :
    Calls Try.prog 126 #[.slice (some ⟨g, 0, none⟩) l.length cap] w fun e w' => (∃ v, e = .returned v ∧ Sl w' v l w.heap.size) ∧ Below w.heap.size w w' := by
  obtain ⟨i0, hi, hz0, hz1, hz2⟩ := info_parts infoR
  go_enter Try.func126, Try.ntmps126
  go_wp2_with (at_builtin; refine wpList_append_own _ rfl _ _ 23 rfl w.heap.size 36 i0 _ 7 72 Try.underlying23 hi hz0 hz1 hz2 rfl (by decide) (.slice none 0 0) 0 [] rfl (World.ownsRow_nil _ _ _ _) ⟨g, 0, none⟩ l.length cap (flatR l) rfl (flatR_len l) (flat_cells h) (flatR_one l) (by unfold maxLen; omega) (by omega) (Nat.le_refl _) ?_; intro v' w1 ho1 hg1 hn1)
  go_ret
  have ho2 : w1.ownsRow w.heap.size 36 7 v' l.length (flatR l) := by simpa using ho1
  exact ⟨⟨v', rfl, Sl.of_owns ho2⟩, Below.grown (Below.refl _ _) hg1 (Nat.le_refl _) (fun j hj => by cases hj)⟩
end Go.Proofs.Ytkebokkckmgloaa.W
/- A list's cells, one behind the other. -/
namespace Go.Proofs.Ytkebokkckmgloaa.A
open Go.RowKit
set_option linter.unusedVariables false

theorem flat_cells {w : World} {g : Nat} {l : List AskD} (h : RowsAt w g 0 l) : ∀ j u, (flatR l)[j]? = some u → w.cell? ((⟨g, 0, none⟩ : Addr).add j) = some u := by
  intro j u hj
  have hlt : j < l.length * 4 := by rw [← flatR_len]; exact (List.getElem?_eq_some_iff.1 hj).1
  have hk : j / 4 < l.length := by omega
  have hr : j % 4 < 4 := Nat.mod_lt _ (by decide)
  have e : j / 4 * 4 + j % 4 = j := by omega
  have h1 := flatR_at l (j / 4) l[j / 4] (List.getElem?_eq_getElem hk) (j % 4) hr
  rw [e, hj] at h1
  have h2 := h (j / 4) l[j / 4] (List.getElem?_eq_getElem hk) (j % 4) u h1.symm
  rw [Addr.add_mid]
  rw [show 0 + j / 4 * 4 + j % 4 = 0 + j from by omega] at h2
  exact h2
end Go.Proofs.Ytkebokkckmgloaa.A
/- A list is copied by append. -/
namespace Go.Proofs.Ytkebokkckmgloaa.A
open Go.RowKit
set_option linter.unusedVariables false

set_option maxHeartbeats 1000000 in
theorem fresh (g cap : Nat) (l : List AskD) (w : World) (h : RowsAt w g 0 l) (hl : l.length ≤ 1048576) :
    Calls Try.prog 128 #[.slice (some ⟨g, 0, none⟩) l.length cap] w fun e w' => (∃ v, e = .returned v ∧ Sl w' v l w.heap.size) ∧ Below w.heap.size w w' := by
  obtain ⟨i0, hi, hz0, hz1, hz2⟩ := info_parts infoR
  go_enter Try.func128, Try.ntmps128
  go_wp2_with (at_builtin; refine wpList_append_own _ rfl _ _ 25 rfl w.heap.size 99 i0 _ 4 48 Try.underlying25 hi hz0 hz1 hz2 rfl (by decide) (.slice none 0 0) 0 [] rfl (World.ownsRow_nil _ _ _ _) ⟨g, 0, none⟩ l.length cap (flatR l) rfl (flatR_len l) (flat_cells h) (flatR_one l) (by unfold maxLen; omega) (by omega) (Nat.le_refl _) ?_; intro v' w1 ho1 hg1 hn1)
  go_ret
  have ho2 : w1.ownsRow w.heap.size 99 4 v' l.length (flatR l) := by simpa using ho1
  exact ⟨⟨v', rfl, Sl.of_owns ho2⟩, Below.grown (Below.refl _ _) hg1 (Nat.le_refl _) (fun j hj => by cases hj)⟩
end Go.Proofs.Ytkebokkckmgloaa.A
/- Lists of the call's own: their shapes, and that they lie apart. -/
namespace Go.Proofs.Ytkebokkckmgloaa
open Go.RowKit
set_option linter.unusedVariables false

theorem W.Sl.low {w : World} {v : Value} {l : List W.WantD} {B B' : Nat} (h : W.Sl w v l B) (hB : B' ≤ B) : W.Sl w v l B' := by
  rcases h with h | ⟨g, cap, h0, h1, h2, h3, h4⟩
  · exact Or.inl h
  · exact Or.inr ⟨g, cap, h0, Nat.le_trans hB h1, h2, h3, h4⟩
theorem W.Sl.shape {w : World} {v : Value} {l : List W.WantD} {B : Nat} (h : W.Sl w v l B) : ∃ a c, v = .slice a l.length c := by
  rcases h with ⟨rfl, rfl⟩ | ⟨g, cap, rfl, -⟩
  · exact ⟨none, 0, rfl⟩
  · exact ⟨_, _, rfl⟩
theorem W.Sl.one {w : World} {v : Value} {l : List W.WantD} {B : Nat} (h : W.Sl w v l B) : v.oneCell' = true := by
  rcases h with ⟨rfl, -⟩ | ⟨g, cap, rfl, -⟩ <;> rfl
theorem Sl.low {w : World} {v : Value} {l : List RunD} {B B' : Nat} (h : Sl w v l B) (hB : B' ≤ B) : Sl w v l B' := by
  rcases h with h | ⟨g, cap, h0, h1, h2, h3, h4⟩
  · exact Or.inl h
  · exact Or.inr ⟨g, cap, h0, Nat.le_trans hB h1, h2, h3, h4⟩
theorem Sl.shape {w : World} {v : Value} {l : List RunD} {B : Nat} (h : Sl w v l B) : ∃ a c, v = .slice a l.length c := by
  rcases h with ⟨rfl, rfl⟩ | ⟨g, cap, rfl, -⟩
  · exact ⟨none, 0, rfl⟩
  · exact ⟨_, _, rfl⟩
theorem Sl.one {w : World} {v : Value} {l : List RunD} {B : Nat} (h : Sl w v l B) : v.oneCell' = true := by
  rcases h with ⟨rfl, -⟩ | ⟨g, cap, rfl, -⟩ <;> rfl
theorem A.Sl.low {w : World} {v : Value} {l : List A.AskD} {B B' : Nat} (h : A.Sl w v l B) (hB : B' ≤ B) : A.Sl w v l B' := by
  rcases h with h | ⟨g, cap, h0, h1, h2, h3, h4⟩
  · exact Or.inl h
  · exact Or.inr ⟨g, cap, h0, Nat.le_trans hB h1, h2, h3, h4⟩
theorem A.Sl.shape {w : World} {v : Value} {l : List A.AskD} {B : Nat} (h : A.Sl w v l B) : ∃ a c, v = .slice a l.length c := by
  rcases h with ⟨rfl, rfl⟩ | ⟨g, cap, rfl, -⟩
  · exact ⟨none, 0, rfl⟩
  · exact ⟨_, _, rfl⟩
theorem A.Sl.one {w : World} {v : Value} {l : List A.AskD} {B : Nat} (h : A.Sl w v l B) : v.oneCell' = true := by
  rcases h with ⟨rfl, -⟩ | ⟨g, cap, rfl, -⟩ <;> rfl
theorem ones (m : MateD) {w1 w2 w3 w4 : World} {a1 a2 a3 a4 : Option Addr} {p1 p2 p3 p4 B1 B2 B3 B4 : Nat} (h1 : W.Sl w1 (.slice a1 m.ws.length p1) m.ws B1) (h2 : Sl w2 (.slice a2 m.rs.length p2) m.rs B2) (h3 : A.Sl w3 (.slice a3 m.qs.length p3) m.qs B3) (h4 : A.Sl w4 (.slice a4 m.gs.length p4) m.gs B4) : ∀ u ∈ ([.string m.nm, .bool m.up, .int .i64 m.ck, .bool m.kn, .int .i64 m.se, (.slice a1 m.ws.length p1), (.slice a2 m.rs.length p2), (.slice a3 m.qs.length p3), (.slice a4 m.gs.length p4)] : List Value), u.oneCell' = true := by
  intro u hu
  simp only [List.mem_cons, List.not_mem_nil, or_false] at hu
  rcases hu with rfl | rfl | rfl | rfl | rfl | rfl | rfl | rfl | rfl
  · rfl
  · rfl
  · rfl
  · rfl
  · rfl
  · exact W.Sl.one h1
  · exact Sl.one h2
  · exact A.Sl.one h3
  · exact A.Sl.one h4
theorem ob_ne {v : Value} {N k : Nat} (h : ∀ g, v.ownBlock = some g → N < g) (hk : k ≤ N) : v.ownBlock = none ∨ v.ownBlock ≠ some k := by
  cases hv : v.ownBlock with
  | none => exact Or.inl rfl
  | some g => exact Or.inr (fun e => by cases e; have := h k hv; omega)
theorem dif_lt {a b : Value} {N N' : Nat} (h1 : ∀ g, a.ownBlock = some g → g < N) (h2 : ∀ g, b.ownBlock = some g → N' ≤ g) (h : N ≤ N') : Dif a b := by
  cases ha : a.ownBlock with
  | none => exact Or.inl ha
  | some g => exact Or.inr (fun e => by rw [ha] at e; have := h1 g ha; have := h2 g e.symm; omega)
end Go.Proofs.Ytkebokkckmgloaa
/- A mate in memory of its own: the program's and the specification's. -/
namespace Go.Proofs.Ytkebokkckmgloaa
open Go.RowKit
set_option linter.unusedVariables false

theorem build0w (w : World) : Sem.run Try.prog (Instr.buildSlice 23 0 #[]) w = .ok (.slice (some ⟨w.heap.size, 0, none⟩) 0 0) (w.alloc (.cells #[] 36)) := by kernel_rfl
theorem build0r (w : World) : Sem.run Try.prog (Instr.buildSlice 24 0 #[]) w = .ok (.slice (some ⟨w.heap.size, 0, none⟩) 0 0) (w.alloc (.cells #[] 38)) := by kernel_rfl
theorem build0a (w : World) : Sem.run Try.prog (Instr.buildSlice 25 0 #[]) w = .ok (.slice (some ⟨w.heap.size, 0, none⟩) 0 0) (w.alloc (.cells #[] 99)) := by kernel_rfl
/-- While a mate's lists are copied: its own box, and room for the answer. -/
structure Sc (w : World) (O : Array Value) (x : World) : Prop where
  b : ∀ k, x.cell? ⟨w.heap.size, k, none⟩ = O[k]?
  c : ∀ k, x.frozen? ⟨w.heap.size, k, none⟩ = false
  d : x.there (w.heap.size + 1) 0 9
  e : Below w.heap.size w x
  f : w.heap.size + 1 < x.heap.size
theorem Sc.below {w x y : World} {O : Array Value} (h : Sc w O x) (hb : Below x.heap.size x y) : Sc w O y :=
  have hf := h.f
  ⟨fun k => (hb.cell (p := ⟨w.heap.size, k, none⟩) (by show w.heap.size < _; omega)).trans (h.b k), fun k => (hb.frozen (p := ⟨w.heap.size, k, none⟩) (by show w.heap.size < _; omega)).trans (h.c k), there_keep2 h.d (by omega) hb, bl_trans h.e hb, Nat.lt_of_lt_of_le hf hb.size⟩
theorem Sc.set {w x : World} {O : Array Value} (h : Sc w O x) (j : Nat) (hj : j < O.size) (u : Value) : Sc w (O.setIfInBounds j u) (x.setCell ⟨w.heap.size, j, none⟩ u) := by
  have he : Ex w.heap.size x (x.setCell ⟨w.heap.size, j, none⟩ u) := (Ex.refl _ _).set j u
  have hf := h.f
  refine ⟨fun k => ?_, fun k => ?_, there_ex h.d (by omega) he (by omega), bl_set (p := ⟨w.heap.size, j, none⟩) h.e (Nat.le_refl _) u, Nat.lt_of_lt_of_le hf he.size⟩
  · by_cases e : k = j
    · subst e
      have h1 := h.b k
      rw [Array.getElem?_eq_getElem hj] at h1
      rw [Array.getElem?_setIfInBounds_self_of_lt hj]
      exact World.cell?_setCell_same _ _ _ h1
    · rw [Array.getElem?_setIfInBounds_ne (fun h' => e h'.symm), ← h.b k]
      exact World.cell?_setCell_other _ _ _ _ (fun h' => e (by have := congrArg Addr.off h'; exact this.symm))
  · rw [World.frozen?_setCell]; exact h.c k
end Go.Proofs.Ytkebokkckmgloaa
