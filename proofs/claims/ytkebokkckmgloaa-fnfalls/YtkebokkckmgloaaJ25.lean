import Derived.Test.YtkebokkckmgloaaJ16
import Derived.Test.YtkebokkckmgloaaJ21
import Derived.Test.YtkebokkckmgloaaJ24
/- The program's checks of lists that are given, or nil. -/
namespace Go.Proofs.Ytkebokkckmgloaa
open Go.RowKit
set_option linter.unusedVariables false

theorem W.all_zero (a : Option Addr) (cap : Nat) (v : Value) (w : World) :
    Calls Try.prog 141 #[.slice a 0 cap, v] w fun e w' => e = .returned (.bool true) ∧ w' = w := by
  go_enter Try.func141, Try.ntmps141
  go_wp2
  refine wp_loop_rounds 1 ?_
  rw [rounds_succ]
  go_wp2
  go_ret
  exact ⟨rfl, rfl⟩
theorem W.asc_zero (a : Option Addr) (cap : Nat) (v : Value) (w : World) :
    Calls Try.prog 143 #[.slice a 0 cap, v] w fun e w' => e = .returned (.bool true) ∧ w' = w := by
  go_enter Try.func143, Try.ntmps143
  go_wp2
  refine wp_loop_rounds 1 ?_
  rw [rounds_succ]
  go_wp2
  go_ret
  exact ⟨rfl, rfl⟩
theorem all_zero (a : Option Addr) (cap : Nat) (v : Value) (w : World) :
    Calls Try.prog 95 #[.slice a 0 cap, v] w fun e w' => e = .returned (.bool true) ∧ w' = w := by
  go_enter Try.func95, Try.ntmps95
  go_wp2
  refine wp_loop_rounds 1 ?_
  rw [rounds_succ]
  go_wp2
  go_ret
  exact ⟨rfl, rfl⟩
theorem asc_zero (a : Option Addr) (cap : Nat) (v : Value) (w : World) :
    Calls Try.prog 93 #[.slice a 0 cap, v] w fun e w' => e = .returned (.bool true) ∧ w' = w := by
  go_enter Try.func93, Try.ntmps93
  go_wp2
  refine wp_loop_rounds 1 ?_
  rw [rounds_succ]
  go_wp2
  go_ret
  exact ⟨rfl, rfl⟩
theorem A.all_zero (a : Option Addr) (cap : Nat) (v : Value) (w : World) :
    Calls Try.prog 134 #[.slice a 0 cap, v] w fun e w' => e = .returned (.bool true) ∧ w' = w := by
  go_enter Try.func134, Try.ntmps134
  go_wp2
  refine wp_loop_rounds 1 ?_
  rw [rounds_succ]
  go_wp2
  go_ret
  exact ⟨rfl, rfl⟩
theorem A.asc_zero (a : Option Addr) (cap : Nat) (v : Value) (w : World) :
    Calls Try.prog 172 #[.slice a 0 cap, v] w fun e w' => e = .returned (.bool true) ∧ w' = w := by
  go_enter Try.func172, Try.ntmps172
  go_wp2
  refine wp_loop_rounds 1 ?_
  rw [rounds_succ]
  go_wp2
  go_ret
  exact ⟨rfl, rfl⟩
theorem allDown_gv (P : RunD → Bool) (a : Option Addr) (cap : Nat) (rs : List RunD) (w : World) (h : Gv w a rs) (hl : rs.length ≤ 1048576)
    (hF : ∀ r ∈ rs, ∀ x, Below w.heap.size w x → Calls Try.prog 136 #[.agg #[.string r.c, .int .i64 r.v, .string r.h, .int .i64 r.p, .int .i64 r.s, .int .i64 r.d, .int .i64 r.g, .int .i64 r.a, .int .i64 r.b, .int .i64 r.i, .int .i64 r.u]] x fun e x' => e = .returned (.bool (P r)) ∧ Below x.heap.size x x') :
    Calls Try.prog 95 #[.slice a rs.length cap, .func (.func 136) #[] #[]] w fun e w' => (∃ q : Bool, e = .returned (.bool q) ∧ (q = true ↔ ∀ r ∈ rs, P r = true)) ∧ Below w.heap.size w w' := by
  rcases h with rfl | ⟨b, rfl, hb, hR⟩
  · refine (all_zero a cap _ w).mono ?_
    rintro e w' ⟨rfl, rfl⟩
    exact ⟨⟨true, rfl, ⟨fun _ r hr => (by cases hr), fun _ => rfl⟩⟩, Below.refl _ _⟩
  · exact allDown P b 0 cap rs w hR hb hl hF
theorem A.allGiven_gv (bk : Nat) (P : A.AskD → Bool) (a : Option Addr) (cap : Nat) (rs : List A.AskD) (w : World) (h : A.Gv w a rs) (hl : rs.length ≤ 1048576)
    (hF : ∀ r ∈ rs, ∀ x, Below w.heap.size w x → Calls Try.prog 135 #[.agg #[.string r.h, .string r.c, .int .i64 r.f, .int .i64 r.t], .pointer (some ⟨bk, 0, none⟩)] x fun e x' => e = .returned (.bool (P r)) ∧ Below x.heap.size x x') :
    Calls Try.prog 134 #[.slice a rs.length cap, .func (.func 135) #[] #[.pointer (some ⟨bk, 0, none⟩)]] w fun e w' => (∃ q : Bool, e = .returned (.bool q) ∧ (q = true ↔ ∀ r ∈ rs, P r = true)) ∧ Below w.heap.size w w' := by
  rcases h with rfl | ⟨b, rfl, hb, hR⟩
  · refine (A.all_zero a cap _ w).mono ?_
    rintro e w' ⟨rfl, rfl⟩
    exact ⟨⟨true, rfl, ⟨fun _ r hr => (by cases hr), fun _ => rfl⟩⟩, Below.refl _ _⟩
  · exact A.allGiven bk P b 0 cap rs w hR hb hl hF
theorem implRunsOk_gv (a : Option Addr) (cap : Nat) (rs : List RunD) (clock : Int) (w : World) (h : Gv w a rs) (hfit : ∀ r ∈ rs, r.fits) (hl : rs.length ≤ 1048576) :
    Calls Try.prog 38 #[.slice a rs.length cap, .int .i64 clock] w fun e w' => (∃ q : Bool, e = .returned (.bool q) ∧ (q = true ↔ rs.length ≤ 20 ∧ AllOk clock rs rs.length)) ∧ Below w.heap.size w w' := by
  rcases h with rfl | ⟨b, rfl, hb, hR⟩
  · show Calls Try.prog _ #[.slice a 0 cap, .int .i64 clock] w _
    go_enter Try.func38, Try.ntmps38
    go_wp2_with (first | (go_at_call 93; refine (asc_zero _ _ _ _).mono ?_; rintro e w' ⟨rfl, rfl⟩) | (go_at_call 95; refine (all_zero _ _ _ _).mono ?_; rintro e w' ⟨rfl, rfl⟩))
    go_ret
    exact ⟨⟨true, rfl, ⟨fun _ => ⟨by simp, (fun j r hj hr => by simp at hr)⟩, fun _ => rfl⟩⟩, bl_alloc (Below.refl _ _) _⟩
  · exact implRunsOk b 0 cap rs clock w hR hb hfit hl
theorem A.implAsksOk_gv (a : Option Addr) (cap : Nat) (rs : List A.AskD) (clock : Int) (w : World) (h : A.Gv w a rs) (hfit : ∀ r ∈ rs, r.fits) (hl : rs.length ≤ 1048576) :
    Calls Try.prog 131 #[.slice a rs.length cap, .int .i64 clock] w fun e w' => (∃ q : Bool, e = .returned (.bool q) ∧ A.SaysA q clock rs) ∧ Below w.heap.size w w' := by
  rcases h with rfl | ⟨b, rfl, hb, hR⟩
  · show Calls Try.prog _ #[.slice a 0 cap, .int .i64 clock] w _
    go_enter Try.func131, Try.ntmps131
    go_wp2_with (first | (go_at_call 172; refine (A.asc_zero _ _ _ _).mono ?_; rintro e w' ⟨rfl, rfl⟩) | (go_at_call 134; refine (A.all_zero _ _ _ _).mono ?_; rintro e w' ⟨rfl, rfl⟩))
    go_ret
    exact ⟨⟨true, rfl, ⟨fun _ => ⟨by simp, (fun j q r hj hq hr => by simp at hq), (fun r hr => by cases hr)⟩, fun _ => rfl⟩⟩, bl_alloc (Below.refl _ _) _⟩
  · exact A.implAsksOk b 0 cap rs clock w hR hb hfit hl
theorem A.byName_gv (a : Option Addr) (cap : Nat) (rs : List A.AskD) (w : World) (h : A.Gv w a rs) (hfit : ∀ r ∈ rs, r.fits) (hl : rs.length ≤ 1048576) :
    Calls Try.prog 132 #[.slice a rs.length cap, .func (.func 133) #[] #[]] w fun e w' => e = .returned (.map (some w.heap.size)) ∧ w'.ownsMap Try.prog 9 A.RU w.heap.size rs.length (A.mapD rs) ∧ Below w.heap.size w w' := by
  rcases h with rfl | ⟨b, rfl, hb, hR⟩
  · have hmm : ∀ w : World, Sem.run Try.prog (Instr.makeMap 152 (some (.int .i64 0))) w = .ok (.map (some w.heap.size)) (w.alloc (.map #[] 0)) := fun w => A.make_map 0 w
    show Calls Try.prog _ #[.slice a 0 cap, .func (.func 133) #[] #[]] w _
    go_enter Try.func132, Try.ntmps132
    go_wp2
    refine wp_loop_rounds 1 ?_
    rw [rounds_succ]
    go_wp2
    go_ret
    exact ⟨rfl, World.ownsMap_made _ _ _ _, bl_alloc (Below.refl _ _) _⟩
  · exact A.byName b 0 cap rs w hR hb hfit hl
end Go.Proofs.Ytkebokkckmgloaa
namespace Go.Proofs.Ytkebokkckmgloaa.W
open Go.RowKit
theorem eachWant_gv (a : Option Addr) (cap : Nat) (ws : List WantD) (w : World) (h : Gv w a ws) (hfit : ∀ r ∈ ws, r.fits) (hl : ws.length ≤ 10) :
    Calls Try.prog 88 #[.slice a ws.length cap] w fun e w' => (∃ q : Bool, e = .returned (.bool q) ∧ (q = true ↔ Each ws ws.length)) ∧ Below w.heap.size w w' := by
  rcases h with rfl | ⟨b, rfl, hb, hR⟩
  · show Calls Try.prog _ #[.slice a 0 cap] w _
    go_enter Try.func88, Try.ntmps88
    go_wp2_with (go_at_call 141; refine (all_zero _ _ _ _).mono ?_; rintro e w' ⟨rfl, rfl⟩)
    go_ret
    exact ⟨⟨true, rfl, ⟨fun _ j r hj hr => (by simp at hr), fun _ => rfl⟩⟩, Below.refl _ _⟩
  · exact eachWant b 0 cap ws w hR hb hfit hl
theorem ascendWants_gv (a : Option Addr) (cap : Nat) (ws : List WantD) (w : World) (h : Gv w a ws) (hl : ws.length ≤ 10) :
    Calls Try.prog 89 #[.slice a ws.length cap] w fun e w' => (∃ q : Bool, e = .returned (.bool q) ∧ (q = true ↔ Asc ws ws.length)) ∧ Below w.heap.size w w' := by
  rcases h with rfl | ⟨b, rfl, hb, hR⟩
  · show Calls Try.prog _ #[.slice a 0 cap] w _
    go_enter Try.func89, Try.ntmps89
    go_wp2_with (go_at_call 143; refine (asc_zero _ _ _ _).mono ?_; rintro e w' ⟨rfl, rfl⟩)
    go_ret
    exact ⟨⟨true, rfl, ⟨fun _ j q r hj hq hr => (by simp at hq), fun _ => rfl⟩⟩, Below.refl _ _⟩
  · exact ascendWants b 0 cap ws w hR hb hl
set_option maxHeartbeats 1000000 in
theorem implWantsOk_gv (a : Option Addr) (cap : Nat) (ws : List WantD) (w : World) (hG : Gv w a ws) (hc : ws.length ≤ cap) (hfit : ∀ r ∈ ws, r.fits) (hl : ws.length ≤ 1048576) :
    Calls Try.prog 31 #[.slice a ws.length cap] w fun e w' => (∃ q : Bool, e = .returned (.bool q) ∧ Says q ws) ∧ Below w.heap.size w w' := by
  have hba := build_all
  by_cases h10 : ws.length ≤ 10
  · go_enter Try.func31, Try.ntmps31
    go_wp2_with go_in
    clear hba
    refine wp_loop_rounds 5 ?_
    rw [rounds_succ]
    go_wp2_with fail
    refine (fewWants_any _ _ _ _).mono ?_
    rintro e w1 ⟨rfl, rfl⟩
    have d10 : decide (ws.length ≤ 10) = true := by simpa using h10
    go_wp2_with fail
    rw [rounds_succ]
    go_wp2_with fail
    have R0 := hG.keep (bl_alloc (Below.refl _ _) (.cells #[.func (.func 87) #[] #[], .func (.func 88) #[] #[], .func (.func 89) #[] #[], .func (.func 90) #[] #[]] 47))
    refine (eachWant_gv a _ ws _ R0 hfit h10).mono ?_
    rintro e w2 ⟨⟨q2, rfl, h2⟩, b2⟩
    have k2 := box_keep b2
    cases q2
    · go_wp2
      go_ret
      exact ⟨⟨false, rfl, says_no (fun _ h => by have := h2.2 h.1; cases this)⟩, bl_trans (bl_alloc (Below.refl _ _) _) b2⟩
    have e2 : Hid _ := h2.1 rfl
    clear h2
    go_wp2_with fail
    rw [rounds_succ]
    go_wp2_with fail
    have R2 := R0.keep b2
    refine (ascendWants_gv a _ ws _ R2 h10).mono ?_
    rintro e w3 ⟨⟨q3, rfl, h3⟩, b3⟩
    have b3' := bl_trans b2 b3
    clear k2
    have k3 := box_keep b3'
    cases q3
    · go_wp2
      go_ret
      exact ⟨⟨false, rfl, says_no (fun _ h => by have := h3.2 h.2.1; cases this)⟩, bl_trans (bl_alloc (Below.refl _ _) _) b3'⟩
    have e3 : Hid _ := h3.1 rfl
    clear h3
    go_wp2_with fail
    rw [rounds_succ]
    go_wp2_with fail
    have R3 := R2.keep b3
    refine (holdsDiffer2 a cap ws _ R3 hc (by omega)).mono ?_
    rintro e w4 ⟨⟨q4, rfl, h4⟩, b4⟩
    have b4' := bl_trans b3' b4
    clear k3
    cases q4
    · go_wp2
      go_ret
      exact ⟨⟨false, rfl, says_no (fun _ h => by have := h4.2 h.2.2; cases this)⟩, bl_trans (bl_alloc (Below.refl _ _) _) b4'⟩
    have e4 : Hid _ := h4.1 rfl
    clear h4
    go_wp2_with fail
    rw [rounds_succ]
    go_wp2
    go_ret
    exact ⟨⟨true, rfl, says_yes ⟨e2.out, e3.out, e4.out⟩ (Nat.le_refl _) h10⟩, bl_trans (bl_alloc (Below.refl _ _) _) b4'⟩
  · go_enter Try.func31, Try.ntmps31
    go_wp2_with go_in
    clear hba
    refine wp_loop_rounds 1 ?_
    rw [rounds_succ]
    go_wp2_with fail
    refine (fewWants_any _ _ _ _).mono ?_
    rintro e w1 ⟨rfl, rfl⟩
    have d10 : decide (ws.length ≤ 10) = false := by simpa using h10
    go_wp2
    go_ret
    exact ⟨⟨false, rfl, says_no (fun h _ => h10 h)⟩, bl_alloc (Below.refl _ _) _⟩
end Go.Proofs.Ytkebokkckmgloaa.W
