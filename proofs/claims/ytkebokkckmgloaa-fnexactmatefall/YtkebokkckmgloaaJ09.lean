import Derived.Test.YtkebokkckmgloaaJ08
import Derived.Laws.EntriesVeiled
import Derived.Test.YtkebokkckmgloaaJ03
import Derived.Deep.RegionHeld3
import Derived.Laws.Pointers
import Derived.StillTactics
import Derived.Test.YtkebokkckmgloaaJ05
/- MateWantsOk: the program's side. -/
namespace Go.Proofs.Ytkebokkckmgloaa.W
open Go.RowKit
set_option linter.unusedVariables false

theorem boxlt {w w1 : World} {o : Obj} (h : Below (w.alloc o).heap.size (w.alloc o) w1) : w.heap.size < w1.heap.size := by have := h.size; simp at this; omega
theorem implWant_q (c h : ByteArray) (v p s d g : Int) (w : World) (hc : c.size ≤ maxLen) (hh : h.size ≤ maxLen) (q : Bool) (hq : wantB c h v p s d g = q) :
    Calls Try.prog 142 #[.agg #[.string c, .int .i64 v, .string h, .int .i64 p, .int .i64 s, .int .i64 d, .int .i64 g]] w fun e w' => e = .returned (.bool q) ∧ Below w.heap.size w w' := by
  rw [← hq]; exact implWant_any c h v p s d g w hc hh

theorem fewWants_any (a : Option Addr) (n cap : Nat) (w : World) :
    Calls Try.prog 87 #[.slice a n cap] w fun e w' => e = .returned (.bool (decide (n ≤ 10))) ∧ w' = w := by
  by_cases h : n ≤ 10
  · go_enter Try.func87, Try.ntmps87
    go_wp2
    go_ret
    exact ⟨ret_b (by simp; omega), rfl⟩
  · go_enter Try.func87, Try.ntmps87
    go_wp2
    go_ret
    exact ⟨ret_b (by simp; omega), rfl⟩

theorem each_iff (ws : List WantD) : Each ws ws.length ↔ ∀ r ∈ ws, r.ok = true := by
  constructor
  · intro h r hr
    obtain ⟨j, hj⟩ := List.getElem?_of_mem hr
    exact h j r (List.getElem?_eq_some_iff.1 hj).1 hj
  · intro h j r _ hr
    exact h r (List.mem_of_getElem? hr)

theorem eachWant (b off cap : Nat) (ws : List WantD) (w : World) (hR : RowsAt w b off ws) (l1 : b < w.heap.size) (hfit : ∀ r ∈ ws, r.fits) (hl : ws.length ≤ 10) :
    Calls Try.prog 88 #[.slice (some ⟨b, off, none⟩) ws.length cap] w fun e w' => (∃ q : Bool, e = .returned (.bool q) ∧ (q = true ↔ Each ws ws.length)) ∧ Below w.heap.size w w' := by
  go_enter Try.func88, Try.ntmps88
  go_wp2_with fail
  refine (allOk (fun r => r.ok) b off cap ws w hR l1 (by omega) (fun r hr x _ => implWant_any r.c r.h r.v r.p r.s r.d r.g x (hfit r hr).1 (hfit r hr).2)).mono ?_
  rintro e w1 ⟨⟨q, rfl, h⟩, hb⟩
  have H : Hid _ := h
  clear h
  go_wp2
  go_ret
  exact ⟨⟨q, rfl, by rw [each_iff]; exact H.out⟩, hb⟩

theorem ascendWants (b off cap : Nat) (ws : List WantD) (w : World) (hR : RowsAt w b off ws) (l1 : b < w.heap.size) (hl : ws.length ≤ 10) :
    Calls Try.prog 89 #[.slice (some ⟨b, off, none⟩) ws.length cap] w fun e w' => (∃ q : Bool, e = .returned (.bool q) ∧ (q = true ↔ Asc ws ws.length)) ∧ Below w.heap.size w w' := by
  go_enter Try.func89, Try.ntmps89
  go_wp2_with fail
  refine (ascends b off cap ws w hR l1 (by omega)).mono ?_
  rintro e w1 ⟨⟨q, rfl, h⟩, hb⟩
  have H : Hid _ := h
  clear h
  go_wp2
  go_ret
  exact ⟨⟨q, rfl, H.out⟩, hb⟩

set_option maxHeartbeats 1000000 in
theorem holdsDiffer (b off : Nat) (ws : List WantD) (w : World) (hR : RowsAt w b off ws) (l1 : b < w.heap.size) (hl : ws.length ≤ 10) :
    Calls Try.prog 90 #[.slice (some ⟨b, off, none⟩) ws.length ws.length] w fun e w' => (∃ q : Bool, e = .returned (.bool q) ∧ (q = true ↔ Diff ws ws.length)) ∧ Below w.heap.size w w' := by
  go_enter Try.func90, Try.ntmps90
  go_wp2
  go_loopw [9] (fun i wx => ∃ (k : Nat), k ≤ ws.length ∧ i = .int .i64 k ∧ Hid (Diff ws k) ∧ Below w.heap.size w wx) (fun i _ => ws.length - (intOf i).toNat)
  case atStart => exact ⟨0, Nat.zero_le _, rfl, fun j r h => by omega, Below.refl _ _⟩
  case round =>
    obtain ⟨k, hk, rfl, Ha, hB⟩ := hrel
    by_cases hlt : k < ws.length
    · obtain ⟨r, hr⟩ : ∃ r, ws[k]? = some r := ⟨ws[k], List.getElem?_eq_getElem hlt⟩
      have Hr : Hid _ := hr
      clear hr
      have i0 : (0 : Int) ≤ (k : Int) := by omega
      have i1 : (k : Int) ≤ (ws.length : Int) := by omega
      obtain ⟨c0, c1, c2, c3, c4, c5, c6⟩ := (hR.keep l1 hB).at Hr.out
      obtain ⟨wo, rfl⟩ : ∃ wo : World, wo = wr := ⟨_, rfl⟩
      go_wp2_with fail
      clear c0 c1 c2 c3 c4 c5 c6
      go_loopw [18] (fun j wx => ∃ (n : Nat), n ≤ k ∧ j = .int .i64 n ∧ Hid (NoneOf ws r n) ∧ Below (wo.alloc (.cells #[.string r.c, .int .i64 r.v, .string r.h, .int .i64 r.p, .int .i64 r.s, .int .i64 r.d, .int .i64 r.g] 36)).heap.size (wo.alloc (.cells #[.string r.c, .int .i64 r.v, .string r.h, .int .i64 r.p, .int .i64 r.s, .int .i64 r.d, .int .i64 r.g] 36)) wx) (fun j _ => k - (intOf j).toNat)
      case atStart => exact ⟨0, Nat.zero_le _, rfl, fun i q h => by omega, Below.refl _ _⟩
      case round =>
        obtain ⟨n, hn, rfl, Hn, hBn⟩ := hrel
        have bo : Below w.heap.size w wr := bl_trans (bl_trans hB (bl_alloc (Below.refl _ _) _)) hBn
        by_cases hnl : n < k
        · obtain ⟨t, ht⟩ : ∃ t, ws[n]? = some t := ⟨ws[n], List.getElem?_eq_getElem (by omega)⟩
          have Ht : Hid _ := ht
          clear ht
          have j0 : (0 : Int) ≤ (n : Int) := by omega
          have j1 : (n : Int) < (k : Int) := by omega
          obtain ⟨c0, c1, c2, c3, c4, c5, c6⟩ := (hR.keep l1 bo).at Ht.out
          have hkb := box_keep hBn
          have hzb := boxlt hBn
          cases he : r.h.toList.isEmpty
          · cases hcl : (t.h.toList == r.h.toList)
            · go_wp2
              exact ⟨⟨n + 1, by omega, by go_num, NoneOf.step Hn.out Ht.out (by simp [clash, he, hcl]), bl_trans hBn (bl_alloc (Below.refl _ _) _)⟩, by simp [intOf]; omega⟩
            · go_wp2
              go_ret
              exact ⟨⟨false, rfl, ⟨fun h => (by cases h), fun h => by have := h k r hlt Hr.out n t hnl Ht.out; simp [clash, he, hcl] at this⟩⟩, bl_alloc bo _⟩
          · go_wp2
            exact ⟨⟨n + 1, by omega, by go_num, NoneOf.step Hn.out Ht.out (by simp [clash, he]), bl_trans hBn (bl_alloc (Below.refl _ _) _)⟩, by simp [intOf]; omega⟩
        · have hne : n = k := by omega
          subst hne
          go_wp2
          exact ⟨⟨n + 1, by omega, by go_num, Ha.out.step Hr.out Hn.out, bo⟩, by simp [intOf]; omega⟩
    · go_wp2
      go_ret
      exact ⟨⟨true, rfl, ⟨fun _ j r hj hr => Ha.out j r (by omega) hr, fun _ => rfl⟩⟩, hB⟩

theorem build_all (w : World) : Sem.run Try.prog (Instr.buildSlice 121 4 #[(0, .func (.func 87) #[] #[]), (1, .func (.func 88) #[] #[]), (2, .func (.func 89) #[] #[]), (3, .func (.func 90) #[] #[])]) w = .ok (.slice (some ⟨w.heap.size, 0, none⟩) 4 4) (w.alloc (.cells #[.func (.func 87) #[] #[], .func (.func 88) #[] #[], .func (.func 89) #[] #[], .func (.func 90) #[] #[]] 47)) := by kernel_rfl

set_option maxHeartbeats 1000000 in
theorem implWantsOk (b off : Nat) (ws : List WantD) (w : World) (hR : RowsAt w b off ws) (l1 : b < w.heap.size) (hfit : ∀ r ∈ ws, r.fits) (hl : ws.length ≤ 1048576) :
    Calls Try.prog 31 #[.slice (some ⟨b, off, none⟩) ws.length ws.length] w fun e w' => (∃ q : Bool, e = .returned (.bool q) ∧ Says q ws) ∧ Below w.heap.size w w' := by
  have hba := build_all
  by_cases h10 : ws.length ≤ 10
  · go_enter Try.func31, Try.ntmps31
    go_wp2_with go_in
    clear hba
    refine wp_loop_rounds 5 ?_
    rw [rounds_succ]
    go_wp2_with fail
    refine (fewWants_any _ _ _ _).mono ?_
    rintro e w1 ⟨rfl, rfl⟩
    have d10 : decide (ws.length ≤ 10) = true := by simpa using h10
    go_wp2_with fail
    rw [rounds_succ]
    go_wp2_with fail
    have R0 := hR.keep l1 (bl_alloc (Below.refl _ _) (.cells #[.func (.func 87) #[] #[], .func (.func 88) #[] #[], .func (.func 89) #[] #[], .func (.func 90) #[] #[]] 47))
    have z0 : b < (w.alloc (.cells #[.func (.func 87) #[] #[], .func (.func 88) #[] #[], .func (.func 89) #[] #[], .func (.func 90) #[] #[]] 47)).heap.size := by simp; omega
    refine (eachWant b off _ ws _ R0 z0 hfit h10).mono ?_
    rintro e w2 ⟨⟨q2, rfl, h2⟩, b2⟩
    have k2 := box_keep b2
    cases q2
    · go_wp2
      go_ret
      exact ⟨⟨false, rfl, says_no (fun _ h => by have := h2.2 h.1; cases this)⟩, bl_trans (bl_alloc (Below.refl _ _) _) b2⟩
    have e2 : Hid _ := h2.1 rfl
    clear h2
    go_wp2_with fail
    rw [rounds_succ]
    go_wp2_with fail
    have R2 := R0.keep z0 b2
    have z2 : b < w2.heap.size := Nat.lt_of_lt_of_le z0 b2.size
    refine (ascendWants b off _ ws _ R2 z2 h10).mono ?_
    rintro e w3 ⟨⟨q3, rfl, h3⟩, b3⟩
    have b3' := bl_trans b2 b3
    clear k2
    have k3 := box_keep b3'
    cases q3
    · go_wp2
      go_ret
      exact ⟨⟨false, rfl, says_no (fun _ h => by have := h3.2 h.2.1; cases this)⟩, bl_trans (bl_alloc (Below.refl _ _) _) b3'⟩
    have e3 : Hid _ := h3.1 rfl
    clear h3
    go_wp2_with fail
    rw [rounds_succ]
    go_wp2_with fail
    have R3 := R2.keep z2 b3
    have z3 : b < w3.heap.size := Nat.lt_of_lt_of_le z2 b3.size
    refine (holdsDiffer b off ws _ R3 z3 h10).mono ?_
    rintro e w4 ⟨⟨q4, rfl, h4⟩, b4⟩
    have b4' := bl_trans b3' b4
    clear k3
    cases q4
    · go_wp2
      go_ret
      exact ⟨⟨false, rfl, says_no (fun _ h => by have := h4.2 h.2.2; cases this)⟩, bl_trans (bl_alloc (Below.refl _ _) _) b4'⟩
    have e4 : Hid _ := h4.1 rfl
    clear h4
    go_wp2_with fail
    rw [rounds_succ]
    go_wp2
    go_ret
    exact ⟨⟨true, rfl, says_yes ⟨e2.out, e3.out, e4.out⟩ (Nat.le_refl _) h10⟩, bl_trans (bl_alloc (Below.refl _ _) _) b4'⟩
  · go_enter Try.func31, Try.ntmps31
    go_wp2_with go_in
    clear hba
    refine wp_loop_rounds 1 ?_
    rw [rounds_succ]
    go_wp2_with fail
    refine (fewWants_any _ _ _ _).mono ?_
    rintro e w1 ⟨rfl, rfl⟩
    have d10 : decide (ws.length ≤ 10) = false := by simpa using h10
    go_wp2
    go_ret
    exact ⟨⟨false, rfl, says_no (fun h _ => h10 h)⟩, bl_alloc (Below.refl _ _) _⟩
end Go.Proofs.Ytkebokkckmgloaa.W
/- all and ascends, at runs. -/
namespace Go.Proofs.Ytkebokkckmgloaa
open Go.RowKit
set_option linter.unusedVariables false

set_option maxRecDepth 4000 in
set_option maxHeartbeats 1000000 in
theorem allOk (bk : Nat) (P : RunD → Bool) (b off cap : Nat) (rs : List RunD) (w : World) (hR : RowsAt w b off rs) (l1 : b < w.heap.size) (hl : rs.length ≤ 1048576)
    (hF : ∀ r ∈ rs, ∀ x, Below w.heap.size w x → Calls Try.prog 96 #[.agg #[.string r.c, .int .i64 r.v, .string r.h, .int .i64 r.p, .int .i64 r.s, .int .i64 r.d, .int .i64 r.g, .int .i64 r.a, .int .i64 r.b, .int .i64 r.i, .int .i64 r.u], .pointer (some ⟨bk, 0, none⟩)] x fun e x' => e = .returned (.bool (P r)) ∧ Below x.heap.size x x') :
    Calls Try.prog 95 #[.slice (some ⟨b, off, none⟩) rs.length cap, .func (.func 96) #[] #[.pointer (some ⟨bk, 0, none⟩)]] w fun e w' => (∃ q : Bool, e = .returned (.bool q) ∧ (q = true ↔ ∀ r ∈ rs, P r = true)) ∧ Below w.heap.size w w' := by
  have HF : Hid _ := hF
  clear hF
  go_enter Try.func95, Try.ntmps95
  go_wp2
  go_loopw [9] (fun i wx => ∃ (k : Nat), k ≤ rs.length ∧ i = .int .i64 k ∧ Hid (∀ j r, j < k → rs[j]? = some r → P r = true) ∧ Below w.heap.size w wx) (fun i _ => rs.length - (intOf i).toNat)
  case atStart => exact ⟨0, Nat.zero_le _, rfl, fun j r h => by omega, Below.refl _ _⟩
  case round =>
    obtain ⟨k, hk, rfl, Ha, hB⟩ := hrel
    by_cases hlt : k < rs.length
    · obtain ⟨r, hr⟩ : ∃ r, rs[k]? = some r := ⟨rs[k], List.getElem?_eq_getElem hlt⟩
      have Hr : Hid _ := hr
      clear hr
      obtain ⟨c0, c1, c2, c3, c4, c5, c6, c7, c8, c9, c10⟩ := (hR.keep l1 hB).at Hr.out
      go_wp2_with fail
      refine (HF.out r (List.mem_of_getElem? Hr.out) _ (bl_alloc hB _)).mono ?_
      rintro e w1 ⟨rfl, hb⟩
      have hB1 := bl_trans (bl_alloc hB _) hb
      have Hb1 : Hid _ := hB1
      clear hB hb hB1
      cases hP : P r
      · go_wp2
        go_ret
        exact ⟨⟨false, rfl, ⟨fun h => (by cases h), fun h => by have := h r (List.mem_of_getElem? Hr.out); rw [hP] at this; cases this⟩⟩, Hb1.out⟩
      · go_wp2
        exact ⟨⟨k + 1, by omega, by go_num, (fun j q hj hq => by
          by_cases e : j = k
          · subst e; have hh := Hr.out; rw [hh] at hq; cases hq; exact hP
          · exact Ha.out j q (by omega) hq), Hb1.out⟩, by simp [intOf]; omega⟩
    · go_wp2
      go_ret
      exact ⟨⟨true, rfl, ⟨fun _ r hr => by
        obtain ⟨j, hj⟩ := List.getElem?_of_mem hr
        have hjl : j < rs.length := (List.getElem?_eq_some_iff.1 hj).1
        exact Ha.out j r (by omega) hj, fun _ => rfl⟩⟩, hB⟩

set_option maxRecDepth 4000 in
set_option maxHeartbeats 1000000 in
theorem allDown (P : RunD → Bool) (b off cap : Nat) (rs : List RunD) (w : World) (hR : RowsAt w b off rs) (l1 : b < w.heap.size) (hl : rs.length ≤ 1048576)
    (hF : ∀ r ∈ rs, ∀ x, Below w.heap.size w x → Calls Try.prog 136 #[.agg #[.string r.c, .int .i64 r.v, .string r.h, .int .i64 r.p, .int .i64 r.s, .int .i64 r.d, .int .i64 r.g, .int .i64 r.a, .int .i64 r.b, .int .i64 r.i, .int .i64 r.u]] x fun e x' => e = .returned (.bool (P r)) ∧ Below x.heap.size x x') :
    Calls Try.prog 95 #[.slice (some ⟨b, off, none⟩) rs.length cap, .func (.func 136) #[] #[]] w fun e w' => (∃ q : Bool, e = .returned (.bool q) ∧ (q = true ↔ ∀ r ∈ rs, P r = true)) ∧ Below w.heap.size w w' := by
  have HF : Hid _ := hF
  clear hF
  go_enter Try.func95, Try.ntmps95
  go_wp2
  go_loopw [9] (fun i wx => ∃ (k : Nat), k ≤ rs.length ∧ i = .int .i64 k ∧ Hid (∀ j r, j < k → rs[j]? = some r → P r = true) ∧ Below w.heap.size w wx) (fun i _ => rs.length - (intOf i).toNat)
  case atStart => exact ⟨0, Nat.zero_le _, rfl, fun j r h => by omega, Below.refl _ _⟩
  case round =>
    obtain ⟨k, hk, rfl, Ha, hB⟩ := hrel
    by_cases hlt : k < rs.length
    · obtain ⟨r, hr⟩ : ∃ r, rs[k]? = some r := ⟨rs[k], List.getElem?_eq_getElem hlt⟩
      have Hr : Hid _ := hr
      clear hr
      obtain ⟨c0, c1, c2, c3, c4, c5, c6, c7, c8, c9, c10⟩ := (hR.keep l1 hB).at Hr.out
      go_wp2_with fail
      refine (HF.out r (List.mem_of_getElem? Hr.out) _ (bl_alloc hB _)).mono ?_
      rintro e w1 ⟨rfl, hb⟩
      have hB1 := bl_trans (bl_alloc hB _) hb
      have Hb1 : Hid _ := hB1
      clear hB hb hB1
      cases hP : P r
      · go_wp2
        go_ret
        exact ⟨⟨false, rfl, ⟨fun h => (by cases h), fun h => by have := h r (List.mem_of_getElem? Hr.out); rw [hP] at this; cases this⟩⟩, Hb1.out⟩
      · go_wp2
        exact ⟨⟨k + 1, by omega, by go_num, (fun j q hj hq => by
          by_cases e : j = k
          · subst e; have hh := Hr.out; rw [hh] at hq; cases hq; exact hP
          · exact Ha.out j q (by omega) hq), Hb1.out⟩, by simp [intOf]; omega⟩
    · go_wp2
      go_ret
      exact ⟨⟨true, rfl, ⟨fun _ r hr => by
        obtain ⟨j, hj⟩ := List.getElem?_of_mem hr
        have hjl : j < rs.length := (List.getElem?_eq_some_iff.1 hj).1
        exact Ha.out j r (by omega) hj, fun _ => rfl⟩⟩, hB⟩

theorem name_any (r : RunD) (w : World) :
    Calls Try.prog 94 #[.agg #[.string r.c, .int .i64 r.v, .string r.h, .int .i64 r.p, .int .i64 r.s, .int .i64 r.d, .int .i64 r.g, .int .i64 r.a, .int .i64 r.b, .int .i64 r.i, .int .i64 r.u]] w fun e w' => e = .returned (.string r.c) ∧ Below w.heap.size w w' := by
  go_enter Try.func94, Try.ntmps94
  go_wp2
  go_ret
  exact ⟨rfl, by repeat (first | exact Below.refl _ _ | refine bl_alloc ?_ _)⟩
/-- Ascending by their names, the first n. -/
def AscN (rs : List RunD) (n : Nat) : Prop := ∀ j q r, j + 1 < n → rs[j]? = some q → rs[j + 1]? = some r → Op.bytesLess q.c.toList r.c.toList = true
theorem AscN.step {rs : List RunD} {k : Nat} {q r : RunD} (h : AscN rs (k + 1)) (hq : rs[k]? = some q) (hr : rs[k + 1]? = some r) (hs : Op.bytesLess q.c.toList r.c.toList = true) : AscN rs (k + 1 + 1) := by
  intro j q' r' hj hq' hr'
  by_cases e : j = k
  · subst e; rw [hq] at hq'; rw [hr] at hr'; cases hq'; cases hr'; exact hs
  · exact h j q' r' (by omega) hq' hr'
theorem keepAsc {x w' : World} {b off m : Nat} {rs : List RunD} {r q : RunD} (hk : rs[m + 1]? = some r) (hq : rs[m]? = some q) (h1 : RowsAt x b off rs) (l1 : b < x.heap.size) (hb : Below x.heap.size x w') :
    Below x.heap.size x w' ∧ (w'.cell? ⟨b, off + (m + 1) * 11, none⟩ = some (.string r.c) ∧ w'.cell? ⟨b, off + (m + 1) * 11 + 1, none⟩ = some (.int .i64 r.v) ∧ w'.cell? ⟨b, off + (m + 1) * 11 + 2, none⟩ = some (.string r.h) ∧ w'.cell? ⟨b, off + (m + 1) * 11 + 3, none⟩ = some (.int .i64 r.p) ∧ w'.cell? ⟨b, off + (m + 1) * 11 + 4, none⟩ = some (.int .i64 r.s) ∧ w'.cell? ⟨b, off + (m + 1) * 11 + 5, none⟩ = some (.int .i64 r.d) ∧ w'.cell? ⟨b, off + (m + 1) * 11 + 6, none⟩ = some (.int .i64 r.g) ∧ w'.cell? ⟨b, off + (m + 1) * 11 + 7, none⟩ = some (.int .i64 r.a) ∧ w'.cell? ⟨b, off + (m + 1) * 11 + 8, none⟩ = some (.int .i64 r.b) ∧ w'.cell? ⟨b, off + (m + 1) * 11 + 9, none⟩ = some (.int .i64 r.i) ∧ w'.cell? ⟨b, off + (m + 1) * 11 + 10, none⟩ = some (.int .i64 r.u)) ∧ (w'.cell? ⟨b, off + m * 11, none⟩ = some (.string q.c) ∧ w'.cell? ⟨b, off + m * 11 + 1, none⟩ = some (.int .i64 q.v) ∧ w'.cell? ⟨b, off + m * 11 + 2, none⟩ = some (.string q.h) ∧ w'.cell? ⟨b, off + m * 11 + 3, none⟩ = some (.int .i64 q.p) ∧ w'.cell? ⟨b, off + m * 11 + 4, none⟩ = some (.int .i64 q.s) ∧ w'.cell? ⟨b, off + m * 11 + 5, none⟩ = some (.int .i64 q.d) ∧ w'.cell? ⟨b, off + m * 11 + 6, none⟩ = some (.int .i64 q.g) ∧ w'.cell? ⟨b, off + m * 11 + 7, none⟩ = some (.int .i64 q.a) ∧ w'.cell? ⟨b, off + m * 11 + 8, none⟩ = some (.int .i64 q.b) ∧ w'.cell? ⟨b, off + m * 11 + 9, none⟩ = some (.int .i64 q.i) ∧ w'.cell? ⟨b, off + m * 11 + 10, none⟩ = some (.int .i64 q.u)) := ⟨hb, (h1.keep l1 hb).at hk, (h1.keep l1 hb).at hq⟩

set_option maxRecDepth 4000 in
set_option maxHeartbeats 2000000 in
theorem ascends (b off cap : Nat) (rs : List RunD) (w : World) (hR : RowsAt w b off rs) (l1 : b < w.heap.size) (hl : rs.length ≤ 1048576) :
    Calls Try.prog 93 #[.slice (some ⟨b, off, none⟩) rs.length cap, .func (.func 94) #[] #[]] w fun e w' => (∃ q : Bool, e = .returned (.bool q) ∧ (q = true ↔ AscN rs rs.length)) ∧ Below w.heap.size w w' := by
  go_enter Try.func93, Try.ntmps93
  go_wp2
  go_loopw [5] (fun i wx => ∃ (m : Nat), m ≤ rs.length ∧ i = .int .i64 ((m : Int) + 1) ∧ Hid (AscN rs (m + 1)) ∧ Below w.heap.size w wx) (fun i _ => rs.length + 1 - (intOf i).toNat)
  case atStart => exact ⟨0, Nat.zero_le _, rfl, (fun j q r hj _ _ => by omega), Below.refl _ _⟩
  case round =>
    obtain ⟨m, hk, rfl, Ha, hB⟩ := hrel
    by_cases hlt : m + 1 < rs.length
    · obtain ⟨r, hr⟩ : ∃ r, rs[m + 1]? = some r := ⟨rs[m + 1], List.getElem?_eq_getElem hlt⟩
      obtain ⟨q, hq⟩ : ∃ q, rs[m]? = some q := ⟨rs[m], List.getElem?_eq_getElem (by omega)⟩
      have Hr : Hid _ := hr
      have Hq : Hid _ := hq
      clear hr hq
      have g1 := hR.keep l1 hB
      have z1 : b < wr.heap.size := Nat.lt_of_lt_of_le l1 hB.size
      have i0 : (0 : Int) ≤ (m : Int) := by omega
      have i1 : (m : Int) + 1 < (rs.length : Int) := by omega
      have i2 : (m : Int) < (rs.length : Int) := by omega
      have i3 : (0 : Int) ≤ (m : Int) + 1 := by omega
      have iw : IntKind.i64.wrap (m : Int) = (m : Int) := by rw [IntKind.wrap_i64]; omega
      cases hasc : Op.bytesLess q.c.toList r.c.toList
      · go_wp2_with fail
        go_region_held3 (fun w' => Below wr.heap.size wr w' ∧ (w'.cell? ⟨b, off + (m + 1) * 11, none⟩ = some (.string r.c) ∧ w'.cell? ⟨b, off + (m + 1) * 11 + 1, none⟩ = some (.int .i64 r.v) ∧ w'.cell? ⟨b, off + (m + 1) * 11 + 2, none⟩ = some (.string r.h) ∧ w'.cell? ⟨b, off + (m + 1) * 11 + 3, none⟩ = some (.int .i64 r.p) ∧ w'.cell? ⟨b, off + (m + 1) * 11 + 4, none⟩ = some (.int .i64 r.s) ∧ w'.cell? ⟨b, off + (m + 1) * 11 + 5, none⟩ = some (.int .i64 r.d) ∧ w'.cell? ⟨b, off + (m + 1) * 11 + 6, none⟩ = some (.int .i64 r.g) ∧ w'.cell? ⟨b, off + (m + 1) * 11 + 7, none⟩ = some (.int .i64 r.a) ∧ w'.cell? ⟨b, off + (m + 1) * 11 + 8, none⟩ = some (.int .i64 r.b) ∧ w'.cell? ⟨b, off + (m + 1) * 11 + 9, none⟩ = some (.int .i64 r.i) ∧ w'.cell? ⟨b, off + (m + 1) * 11 + 10, none⟩ = some (.int .i64 r.u)) ∧ (w'.cell? ⟨b, off + m * 11, none⟩ = some (.string q.c) ∧ w'.cell? ⟨b, off + m * 11 + 1, none⟩ = some (.int .i64 q.v) ∧ w'.cell? ⟨b, off + m * 11 + 2, none⟩ = some (.string q.h) ∧ w'.cell? ⟨b, off + m * 11 + 3, none⟩ = some (.int .i64 q.p) ∧ w'.cell? ⟨b, off + m * 11 + 4, none⟩ = some (.int .i64 q.s) ∧ w'.cell? ⟨b, off + m * 11 + 5, none⟩ = some (.int .i64 q.d) ∧ w'.cell? ⟨b, off + m * 11 + 6, none⟩ = some (.int .i64 q.g) ∧ w'.cell? ⟨b, off + m * 11 + 7, none⟩ = some (.int .i64 q.a) ∧ w'.cell? ⟨b, off + m * 11 + 8, none⟩ = some (.int .i64 q.b) ∧ w'.cell? ⟨b, off + m * 11 + 9, none⟩ = some (.int .i64 q.i) ∧ w'.cell? ⟨b, off + m * 11 + 10, none⟩ = some (.int .i64 q.u)))
          (first | exact keepAsc Hr.out Hq.out g1 z1 (bl_drew (Below.refl _ _)) | exact keepAsc Hr.out Hq.out g1 z1 (bl_trans (bl_drew (Below.refl _ _)) hx) | exact keepAsc Hr.out Hq.out g1 z1 (bl_trans (bl_trans (bl_drew (Below.refl _ _)) hx) hy))
          (first | (go_at_call 94; refine (name_any q _).mono ?_; rintro e w' ⟨rfl, hx⟩) | (go_at_call 94; refine (name_any r _).mono ?_; rintro e w'' ⟨rfl, hy⟩))
        have y1 := bl_trans (bl_trans (bl_drew (Below.refl _ wr)) hx) hy
        have Hb1 : Hid _ := bl_trans hB y1
        clear hx hy y1 hB g1
        go_wp2
        go_ret
        exact ⟨⟨false, rfl, ⟨fun h => (by cases h), fun h => by have := h m q r (by omega) Hq.out Hr.out; rw [hasc] at this; cases this⟩⟩, Hb1.out⟩
      · go_wp2_with fail
        go_region_held3 (fun w' => Below wr.heap.size wr w' ∧ (w'.cell? ⟨b, off + (m + 1) * 11, none⟩ = some (.string r.c) ∧ w'.cell? ⟨b, off + (m + 1) * 11 + 1, none⟩ = some (.int .i64 r.v) ∧ w'.cell? ⟨b, off + (m + 1) * 11 + 2, none⟩ = some (.string r.h) ∧ w'.cell? ⟨b, off + (m + 1) * 11 + 3, none⟩ = some (.int .i64 r.p) ∧ w'.cell? ⟨b, off + (m + 1) * 11 + 4, none⟩ = some (.int .i64 r.s) ∧ w'.cell? ⟨b, off + (m + 1) * 11 + 5, none⟩ = some (.int .i64 r.d) ∧ w'.cell? ⟨b, off + (m + 1) * 11 + 6, none⟩ = some (.int .i64 r.g) ∧ w'.cell? ⟨b, off + (m + 1) * 11 + 7, none⟩ = some (.int .i64 r.a) ∧ w'.cell? ⟨b, off + (m + 1) * 11 + 8, none⟩ = some (.int .i64 r.b) ∧ w'.cell? ⟨b, off + (m + 1) * 11 + 9, none⟩ = some (.int .i64 r.i) ∧ w'.cell? ⟨b, off + (m + 1) * 11 + 10, none⟩ = some (.int .i64 r.u)) ∧ (w'.cell? ⟨b, off + m * 11, none⟩ = some (.string q.c) ∧ w'.cell? ⟨b, off + m * 11 + 1, none⟩ = some (.int .i64 q.v) ∧ w'.cell? ⟨b, off + m * 11 + 2, none⟩ = some (.string q.h) ∧ w'.cell? ⟨b, off + m * 11 + 3, none⟩ = some (.int .i64 q.p) ∧ w'.cell? ⟨b, off + m * 11 + 4, none⟩ = some (.int .i64 q.s) ∧ w'.cell? ⟨b, off + m * 11 + 5, none⟩ = some (.int .i64 q.d) ∧ w'.cell? ⟨b, off + m * 11 + 6, none⟩ = some (.int .i64 q.g) ∧ w'.cell? ⟨b, off + m * 11 + 7, none⟩ = some (.int .i64 q.a) ∧ w'.cell? ⟨b, off + m * 11 + 8, none⟩ = some (.int .i64 q.b) ∧ w'.cell? ⟨b, off + m * 11 + 9, none⟩ = some (.int .i64 q.i) ∧ w'.cell? ⟨b, off + m * 11 + 10, none⟩ = some (.int .i64 q.u)))
          (first | exact keepAsc Hr.out Hq.out g1 z1 (bl_drew (Below.refl _ _)) | exact keepAsc Hr.out Hq.out g1 z1 (bl_trans (bl_drew (Below.refl _ _)) hx) | exact keepAsc Hr.out Hq.out g1 z1 (bl_trans (bl_trans (bl_drew (Below.refl _ _)) hx) hy))
          (first | (go_at_call 94; refine (name_any q _).mono ?_; rintro e w' ⟨rfl, hx⟩) | (go_at_call 94; refine (name_any r _).mono ?_; rintro e w'' ⟨rfl, hy⟩))
        have y1 := bl_trans (bl_trans (bl_drew (Below.refl _ wr)) hx) hy
        have Hb1 : Hid _ := bl_trans hB y1
        clear hx hy y1 hB g1
        go_wp2
        exact ⟨⟨m + 1, by omega, by go_num, Ha.out.step Hq.out Hr.out hasc, Hb1.out⟩, by simp [intOf]; omega⟩
    · go_wp2
      go_ret
      exact ⟨⟨true, rfl, ⟨fun _ j q r hj hq hr => Ha.out j q r (by omega) hq hr, fun _ => rfl⟩⟩, hB⟩
end Go.Proofs.Ytkebokkckmgloaa
/- MateRunsOk: the program's side. -/
namespace Go.Proofs.Ytkebokkckmgloaa
open Go.RowKit
set_option linter.unusedVariables false

theorem implRunOk_q (c h : ByteArray) (v p s d g a b i u clock : Int) (w : World) (hc : c.size ≤ maxLen) (hh : h.size ≤ maxLen) (q : Bool) (hq : runB c h v p s d g a b i u clock = q) :
    Calls Try.prog 97 #[.agg #[.string c, .int .i64 v, .string h, .int .i64 p, .int .i64 s, .int .i64 d, .int .i64 g, .int .i64 a, .int .i64 b, .int .i64 i, .int .i64 u], .int .i64 clock] w fun e w' => e = .returned (.bool q) ∧ Below w.heap.size w w' := by
  rw [← hq]; exact implRunOk_any c h v p s d g a b i u clock w hc hh
theorem runOf_b (c h : ByteArray) (v p s d g a b i u : Int) (w : World) :
    Calls Try.prog 80 #[.agg #[.string c, .int .i64 v, .string h, .int .i64 p, .int .i64 s, .int .i64 d, .int .i64 g, .int .i64 a, .int .i64 b, .int .i64 i, .int .i64 u]] w fun e w' => e = .returned (.agg #[.string c, .int .i64 v, .string h, .int .i64 p, .int .i64 s, .int .i64 d, .int .i64 g, .int .i64 a, .int .i64 b, .int .i64 i, .int .i64 u]) ∧ Below w.heap.size w w' := by
  refine (runOf_any c h v p s d g a b i u w).mono ?_
  rintro e w' ⟨rfl, rfl⟩
  exact ⟨rfl, by repeat (first | exact Below.refl _ _ | refine bl_alloc ?_ _)⟩
theorem closK {w w' : World} {bk : Nat} {clock : Int} {r : RunD} (hc : w.cell? ⟨bk, 0, none⟩ = some (.int .i64 clock)) (lk : bk < w.heap.size) (hb : Below (w.alloc (.cells #[.string r.c, .int .i64 r.v, .string r.h, .int .i64 r.p, .int .i64 r.s, .int .i64 r.d, .int .i64 r.g, .int .i64 r.a, .int .i64 r.b, .int .i64 r.i, .int .i64 r.u] 38)).heap.size (w.alloc (.cells #[.string r.c, .int .i64 r.v, .string r.h, .int .i64 r.p, .int .i64 r.s, .int .i64 r.d, .int .i64 r.g, .int .i64 r.a, .int .i64 r.b, .int .i64 r.i, .int .i64 r.u] 38)) w') :
    Below (w.alloc (.cells #[.string r.c, .int .i64 r.v, .string r.h, .int .i64 r.p, .int .i64 r.s, .int .i64 r.d, .int .i64 r.g, .int .i64 r.a, .int .i64 r.b, .int .i64 r.i, .int .i64 r.u] 38)).heap.size (w.alloc (.cells #[.string r.c, .int .i64 r.v, .string r.h, .int .i64 r.p, .int .i64 r.s, .int .i64 r.d, .int .i64 r.g, .int .i64 r.a, .int .i64 r.b, .int .i64 r.i, .int .i64 r.u] 38)) w' ∧ (w'.cell? ⟨w.heap.size, 0, none⟩ = some (.string r.c) ∧ w'.cell? ⟨w.heap.size, 1, none⟩ = some (.int .i64 r.v) ∧ w'.cell? ⟨w.heap.size, 2, none⟩ = some (.string r.h) ∧ w'.cell? ⟨w.heap.size, 3, none⟩ = some (.int .i64 r.p) ∧ w'.cell? ⟨w.heap.size, 4, none⟩ = some (.int .i64 r.s) ∧ w'.cell? ⟨w.heap.size, 5, none⟩ = some (.int .i64 r.d) ∧ w'.cell? ⟨w.heap.size, 6, none⟩ = some (.int .i64 r.g) ∧ w'.cell? ⟨w.heap.size, 7, none⟩ = some (.int .i64 r.a) ∧ w'.cell? ⟨w.heap.size, 8, none⟩ = some (.int .i64 r.b) ∧ w'.cell? ⟨w.heap.size, 9, none⟩ = some (.int .i64 r.i) ∧ w'.cell? ⟨w.heap.size, 10, none⟩ = some (.int .i64 r.u)) ∧ w'.cell? ⟨bk, 0, none⟩ = some (.int .i64 clock) := by
  have hk := box_keep hb
  refine ⟨hb, ⟨by rw [hk 0]; simp [go_sem], by rw [hk 1]; simp [go_sem], by rw [hk 2]; simp [go_sem], by rw [hk 3]; simp [go_sem], by rw [hk 4]; simp [go_sem], by rw [hk 5]; simp [go_sem], by rw [hk 6]; simp [go_sem], by rw [hk 7]; simp [go_sem], by rw [hk 8]; simp [go_sem], by rw [hk 9]; simp [go_sem], by rw [hk 10]; simp [go_sem]⟩, ?_⟩
  rw [hb.cell (p := ⟨bk, 0, none⟩) (by simp; omega), World.cell?_alloc_past _ _ _ lk]; exact hc

set_option maxRecDepth 4000 in
set_option maxHeartbeats 1000000 in
theorem closOk (r : RunD) (clock : Int) (bk : Nat) (w : World) (hc : w.cell? ⟨bk, 0, none⟩ = some (.int .i64 clock)) (lk : bk < w.heap.size) (hf : r.fits) :
    Calls Try.prog 96 #[.agg #[.string r.c, .int .i64 r.v, .string r.h, .int .i64 r.p, .int .i64 r.s, .int .i64 r.d, .int .i64 r.g, .int .i64 r.a, .int .i64 r.b, .int .i64 r.i, .int .i64 r.u], .pointer (some ⟨bk, 0, none⟩)] w fun e w' => e = .returned (.bool (r.ok clock)) ∧ Below w.heap.size w w' := by
  obtain ⟨q, hq⟩ : ∃ q, r.ok clock = q := ⟨_, rfl⟩
  rw [hq]
  have Hq : Hid (runB r.c r.h r.v r.p r.s r.d r.g r.a r.b r.i r.u clock = q) := hq
  have Hc : Hid _ := hc
  clear hq hc
  go_enter Try.func96, Try.ntmps96
  go_wp2_with fail
  go_region_held3 (fun w' => Below (w.alloc (.cells #[.string r.c, .int .i64 r.v, .string r.h, .int .i64 r.p, .int .i64 r.s, .int .i64 r.d, .int .i64 r.g, .int .i64 r.a, .int .i64 r.b, .int .i64 r.i, .int .i64 r.u] 38)).heap.size (w.alloc (.cells #[.string r.c, .int .i64 r.v, .string r.h, .int .i64 r.p, .int .i64 r.s, .int .i64 r.d, .int .i64 r.g, .int .i64 r.a, .int .i64 r.b, .int .i64 r.i, .int .i64 r.u] 38)) w' ∧ (w'.cell? ⟨w.heap.size, 0, none⟩ = some (.string r.c) ∧ w'.cell? ⟨w.heap.size, 1, none⟩ = some (.int .i64 r.v) ∧ w'.cell? ⟨w.heap.size, 2, none⟩ = some (.string r.h) ∧ w'.cell? ⟨w.heap.size, 3, none⟩ = some (.int .i64 r.p) ∧ w'.cell? ⟨w.heap.size, 4, none⟩ = some (.int .i64 r.s) ∧ w'.cell? ⟨w.heap.size, 5, none⟩ = some (.int .i64 r.d) ∧ w'.cell? ⟨w.heap.size, 6, none⟩ = some (.int .i64 r.g) ∧ w'.cell? ⟨w.heap.size, 7, none⟩ = some (.int .i64 r.a) ∧ w'.cell? ⟨w.heap.size, 8, none⟩ = some (.int .i64 r.b) ∧ w'.cell? ⟨w.heap.size, 9, none⟩ = some (.int .i64 r.i) ∧ w'.cell? ⟨w.heap.size, 10, none⟩ = some (.int .i64 r.u)) ∧ w'.cell? ⟨bk, 0, none⟩ = some (.int .i64 clock))
    (first | exact closK Hc.out lk (bl_drew (Below.refl _ _)) | exact closK Hc.out lk (bl_trans (bl_drew (Below.refl _ _)) hx) | exact closK Hc.out lk (bl_trans (bl_trans (bl_drew (Below.refl _ _)) hx) hy))
    (first | (go_at_call 80; refine (runOf_b r.c r.h r.v r.p r.s r.d r.g r.a r.b r.i r.u _).mono ?_; rintro e w' ⟨rfl, hx⟩) | (go_at_call 97; refine (implRunOk_q r.c r.h r.v r.p r.s r.d r.g r.a r.b r.i r.u clock _ hf.1 hf.2.1 q Hq.out).mono ?_; rintro e w'' ⟨rfl, hy⟩))
  have y1 := bl_trans (bl_trans (bl_drew (Below.refl _ (w.alloc (.cells #[.string r.c, .int .i64 r.v, .string r.h, .int .i64 r.p, .int .i64 r.s, .int .i64 r.d, .int .i64 r.g, .int .i64 r.a, .int .i64 r.b, .int .i64 r.i, .int .i64 r.u] 38)))) hx) hy
  have Hb1 : Hid _ := bl_trans (bl_alloc (Below.refl _ w) _) y1
  clear hx hy y1
  go_wp2
  go_ret
  exact ⟨rfl, Hb1.out⟩

theorem allOk_iff (clock : Int) (rs : List RunD) : AllOk clock rs rs.length ↔ (AscN rs rs.length ∧ ∀ r ∈ rs, r.ok clock = true) := by
  constructor
  · intro h
    refine ⟨fun j q r hj hq hr => ?_, fun r hr => ?_⟩
    · have := h (j + 1) r hj hr
      simp only [stepOk, hq, Bool.and_eq_true] at this
      exact this.2
    · obtain ⟨j, hj⟩ := List.getElem?_of_mem hr
      have := h j r (List.getElem?_eq_some_iff.1 hj).1 hj
      simp only [stepOk, Bool.and_eq_true] at this
      exact this.1
  · rintro ⟨h1, h2⟩ j r hj hr
    simp only [stepOk, Bool.and_eq_true]
    refine ⟨h2 r (List.mem_of_getElem? hr), ?_⟩
    cases j with
    | zero => rfl
    | succ i =>
      obtain ⟨q, hq⟩ : ∃ q, rs[i]? = some q := ⟨rs[i], List.getElem?_eq_getElem (by omega)⟩
      simp only [hq]
      exact h1 i q r hj hq hr

def SaysR (q : Bool) (clock : Int) (rs : List RunD) : Prop := q = true ↔ rs.length ≤ 20 ∧ (AscN rs rs.length ∧ ∀ r ∈ rs, r.ok clock = true)

set_option maxRecDepth 4000 in
set_option maxHeartbeats 1000000 in
theorem implRunsOk_s (b off cap : Nat) (rs : List RunD) (clock : Int) (w : World) (hR : RowsAt w b off rs) (l1 : b < w.heap.size) (hfit : ∀ r ∈ rs, r.fits) (hl : rs.length ≤ 1048576) :
    Calls Try.prog 38 #[.slice (some ⟨b, off, none⟩) rs.length cap, .int .i64 clock] w fun e w' => (∃ q : Bool, e = .returned (.bool q) ∧ SaysR q clock rs) ∧ Below w.heap.size w w' := by
  by_cases h20 : rs.length ≤ 20
  · have hi20 : (rs.length : Int) ≤ 20 := by omega
    go_enter Try.func38, Try.ntmps38
    go_wp2_with fail
    have hb0 : Below w.heap.size w (w.alloc (.cells #[.int .i64 clock] 3)) := bl_alloc (Below.refl _ _) _
    refine (ascends b off cap rs _ (hR.keep l1 hb0) (by simp; omega) hl).mono ?_
    rintro e w1 ⟨⟨q1, rfl, h1⟩, b1⟩
    have B1 := bl_trans hb0 b1
    have H0 : Hid _ := h1
    clear h1
    cases q1
    · clear hb0 b1
      go_wp2
      go_ret
      exact ⟨⟨false, rfl, ⟨fun h => (by cases h), fun h => by have := H0.out.2 h.2.1; cases this⟩⟩, B1⟩
    · have H1 : Hid _ := H0.out.1 rfl
      have hck : w1.cell? ⟨w.heap.size, 0, none⟩ = some (.int .i64 clock) := by rw [box_keep b1 0]; simp [go_sem]
      have lck : w.heap.size < w1.heap.size := boxlt b1
      have Hck : Hid _ := hck
      clear hck hb0 b1
      go_wp2_with fail
      refine (allOk w.heap.size (fun r => r.ok clock) b off cap rs w1 (hR.keep l1 B1) (Nat.lt_of_lt_of_le l1 B1.size) hl (fun r hr x hx => closOk r clock w.heap.size x ((hx.cell (p := ⟨w.heap.size, 0, none⟩) lck).trans Hck.out) (Nat.lt_of_lt_of_le lck hx.size) (hfit r hr))).mono ?_
      rintro e w2 ⟨⟨q2, rfl, h2⟩, b2⟩
      have B2 := bl_trans B1 b2
      clear b2
      go_wp2
      go_ret
      exact ⟨⟨q2, rfl, ⟨fun h => ⟨h20, H1.out, h2.1 h⟩, fun h => h2.2 h.2.2⟩⟩, B2⟩
  · have hi20 : (20 : Int) < (rs.length : Int) := by omega
    have H20 : Hid _ := h20
    clear h20
    go_enter Try.func38, Try.ntmps38
    go_wp2
    go_ret
    exact ⟨Or.inl ⟨rfl, ⟨fun h => (by cases h), fun h => absurd h.1 H20.out⟩⟩, bl_alloc (Below.refl _ _) _⟩
theorem implRunsOk (b off cap : Nat) (rs : List RunD) (clock : Int) (w : World) (hR : RowsAt w b off rs) (l1 : b < w.heap.size) (hfit : ∀ r ∈ rs, r.fits) (hl : rs.length ≤ 1048576) :
    Calls Try.prog 38 #[.slice (some ⟨b, off, none⟩) rs.length cap, .int .i64 clock] w fun e w' => (∃ q : Bool, e = .returned (.bool q) ∧ (q = true ↔ rs.length ≤ 20 ∧ AllOk clock rs rs.length)) ∧ Below w.heap.size w w' := by
  refine (implRunsOk_s b off cap rs clock w hR l1 hfit hl).mono ?_
  rintro e w' ⟨⟨q, rfl, h⟩, hb⟩
  exact ⟨⟨q, rfl, by rw [allOk_iff]; exact h⟩, hb⟩
end Go.Proofs.Ytkebokkckmgloaa
/- Asks that are ok: the program's side. -/
namespace Go.Proofs.Ytkebokkckmgloaa.A
open Go.RowKit
set_option linter.unusedVariables false

set_option maxHeartbeats 1000000 in
theorem askOk_any (r : AskD) (clock : Int) (w : World) (hf1 : r.h.size ≤ maxLen) (hf2 : r.c.size ≤ maxLen) :
    Calls Try.prog 174 #[.agg #[.string r.h, .string r.c, .int .i64 r.f, .int .i64 r.t], .int .i64 clock] w fun e w' => e = .returned (.bool (askB clock r)) ∧ Below w.heap.size w w' := by
  cases q1 : holdB r.h
  · go_enter Try.func174, Try.ntmps174
    go_wp2_with (first | (go_at_call 182; refine (implHold_any r.h _ hf1).mono ?_; rintro e w' ⟨rfl, rfl⟩) | (go_at_call 129; refine (implName_any r.c _ hf2).mono ?_; rintro e w' ⟨rfl, rfl⟩) | (go_at_call 130; refine (within_any _ _ _ _).mono ?_; rintro e w' ⟨rfl, rfl⟩))
    go_ret
    exact ⟨ret_b (by simp [askB, *]), bl_alloc (Below.refl _ _) _⟩
  cases q2 : nameB r.c
  · go_enter Try.func174, Try.ntmps174
    go_wp2_with (first | (go_at_call 182; refine (implHold_any r.h _ hf1).mono ?_; rintro e w' ⟨rfl, rfl⟩) | (go_at_call 129; refine (implName_any r.c _ hf2).mono ?_; rintro e w' ⟨rfl, rfl⟩) | (go_at_call 130; refine (within_any _ _ _ _).mono ?_; rintro e w' ⟨rfl, rfl⟩))
    go_ret
    exact ⟨ret_b (by simp [askB, *]), bl_alloc (Below.refl _ _) _⟩
  cases q4 : inB r.f 0 r.t
  · go_enter Try.func174, Try.ntmps174
    go_wp2_with (first | (go_at_call 182; refine (implHold_any r.h _ hf1).mono ?_; rintro e w' ⟨rfl, rfl⟩) | (go_at_call 129; refine (implName_any r.c _ hf2).mono ?_; rintro e w' ⟨rfl, rfl⟩) | (go_at_call 130; refine (within_any _ _ _ _).mono ?_; rintro e w' ⟨rfl, rfl⟩))
    go_ret
    exact ⟨ret_b (by simp [askB, *]), bl_alloc (Below.refl _ _) _⟩
  cases q3 : inB r.t 0 clock
  · go_enter Try.func174, Try.ntmps174
    go_wp2_with (first | (go_at_call 182; refine (implHold_any r.h _ hf1).mono ?_; rintro e w' ⟨rfl, rfl⟩) | (go_at_call 129; refine (implName_any r.c _ hf2).mono ?_; rintro e w' ⟨rfl, rfl⟩) | (go_at_call 130; refine (within_any _ _ _ _).mono ?_; rintro e w' ⟨rfl, rfl⟩))
    go_ret
    exact ⟨ret_b (by simp [askB, *]), bl_alloc (Below.refl _ _) _⟩
  · go_enter Try.func174, Try.ntmps174
    go_wp2_with (first | (go_at_call 182; refine (implHold_any r.h _ hf1).mono ?_; rintro e w' ⟨rfl, rfl⟩) | (go_at_call 129; refine (implName_any r.c _ hf2).mono ?_; rintro e w' ⟨rfl, rfl⟩) | (go_at_call 130; refine (within_any _ _ _ _).mono ?_; rintro e w' ⟨rfl, rfl⟩))
    go_ret
    exact ⟨ret_b (by simp [askB, *]), bl_alloc (Below.refl _ _) _⟩
theorem closAsk (r : AskD) (clock : Int) (bk : Nat) (w : World) (hc : w.cell? ⟨bk, 0, none⟩ = some (.int .i64 clock)) (lk : bk < w.heap.size) (hf : r.fits) :
    Calls Try.prog 173 #[.agg #[.string r.h, .string r.c, .int .i64 r.f, .int .i64 r.t], .pointer (some ⟨bk, 0, none⟩)] w fun e w' => e = .returned (.bool (askB clock r)) ∧ Below w.heap.size w w' := by
  go_enter Try.func173, Try.ntmps173
  go_wp2_with (go_at_call 174; refine (askOk_any r clock _ hf.1 hf.2).mono ?_; rintro e w' ⟨rfl, hx⟩)
  go_ret
  exact ⟨rfl, bl_trans (bl_alloc (Below.refl _ _) _) hx⟩

set_option maxRecDepth 4000 in
set_option maxHeartbeats 1000000 in
theorem implAsksOk (b off cap : Nat) (rs : List AskD) (clock : Int) (w : World) (hR : RowsAt w b off rs) (l1 : b < w.heap.size) (hfit : ∀ r ∈ rs, r.fits) (hl : rs.length ≤ 1048576) :
    Calls Try.prog 131 #[.slice (some ⟨b, off, none⟩) rs.length cap, .int .i64 clock] w fun e w' => (∃ q : Bool, e = .returned (.bool q) ∧ SaysA q clock rs) ∧ Below w.heap.size w w' := by
  by_cases h40 : rs.length ≤ 40
  · have hi40 : (rs.length : Int) ≤ 40 := by omega
    go_enter Try.func131, Try.ntmps131
    go_wp2_with fail
    have hb0 : Below w.heap.size w (w.alloc (.cells #[.int .i64 clock] 3)) := bl_alloc (Below.refl _ _) _
    refine (ascends b off cap rs _ (hR.keep l1 hb0) (by simp; omega) hl).mono ?_
    rintro e w1 ⟨⟨q1, rfl, h1⟩, b1⟩
    have B1 := bl_trans hb0 b1
    have H0 : Hid _ := h1
    clear h1
    cases q1
    · clear hb0 b1
      go_wp2
      go_ret
      exact ⟨⟨false, rfl, ⟨fun h => (by cases h), fun h => by have := H0.out.2 h.2.1; cases this⟩⟩, B1⟩
    · have H1 : Hid _ := H0.out.1 rfl
      have hck : w1.cell? ⟨w.heap.size, 0, none⟩ = some (.int .i64 clock) := by rw [box_keep b1 0]; simp [go_sem]
      have lck : w.heap.size < w1.heap.size := by have := b1.size; simp at this; omega
      have Hck : Hid _ := hck
      clear hck hb0 b1
      go_wp2_with fail
      refine (allOk w.heap.size (askB clock) b off cap rs w1 (hR.keep l1 B1) (Nat.lt_of_lt_of_le l1 B1.size) hl (fun r hr x hx => closAsk r clock w.heap.size x ((hx.cell (p := ⟨w.heap.size, 0, none⟩) lck).trans Hck.out) (Nat.lt_of_lt_of_le lck hx.size) (hfit r hr))).mono ?_
      rintro e w2 ⟨⟨q2, rfl, h2⟩, b2⟩
      have B2 := bl_trans B1 b2
      have H2 : Hid _ := h2
      clear b2 h2
      go_wp2
      go_ret
      exact ⟨⟨q2, rfl, ⟨fun h => ⟨h40, H1.out, H2.out.1 h⟩, fun h => H2.out.2 h.2.2⟩⟩, B2⟩
  · have hi40 : (40 : Int) < (rs.length : Int) := by omega
    have H40 : Hid _ := h40
    clear h40
    go_enter Try.func131, Try.ntmps131
    go_wp2
    go_ret
    first
    | exact ⟨Or.inl ⟨rfl, ⟨fun h => (by cases h), fun h => absurd h.1 H40.out⟩⟩, bl_alloc (Below.refl _ _) _⟩
    | exact ⟨⟨false, rfl, ⟨fun h => (by cases h), fun h => absurd h.1 H40.out⟩⟩, bl_alloc (Below.refl _ _) _⟩
end Go.Proofs.Ytkebokkckmgloaa.A
/- MateValid's checks: the program's side. -/
namespace Go.Proofs.Ytkebokkckmgloaa
open Go.RowKit
set_option linter.unusedVariables false

def SaysP (q : Bool) (m : MateD) : Prop := q = true ↔ partsB m = true
theorem down_or {m : MateD} (h : m.up = true ∨ DownSay m) (hu : m.up = false) : DownSay m := by
  rcases h with h' | h'
  · rw [hu] at h'; cases h'
  · exact h'
theorem implAlive_b (r : RunD) (w : World) : Calls Try.prog 23 #[.agg #[.string r.c, .int .i64 r.v, .string r.h, .int .i64 r.p, .int .i64 r.s, .int .i64 r.d, .int .i64 r.g, .int .i64 r.a, .int .i64 r.b, .int .i64 r.i, .int .i64 r.u]] w fun e w' => e = .returned (.bool (aliveB r.a)) ∧ Below w.heap.size w w' := by
  go_enter Try.func23, Try.ntmps23
  go_wp2_with (first | (go_at_call 76; refine (alive_any r.a _).mono ?_; rintro e w' ⟨rfl, rfl⟩) | (go_at_call 80; refine (runOf_any r.c r.h r.v r.p r.s r.d r.g r.a r.b r.i r.u _).mono ?_; rintro e w' ⟨rfl, rfl⟩))
  go_ret
  exact ⟨rfl, by repeat (first | exact Below.refl _ _ | refine bl_alloc ?_ _)⟩
theorem holds_b (r : RunD) (w : World) : Calls Try.prog 125 #[.agg #[.string r.c, .int .i64 r.v, .string r.h, .int .i64 r.p, .int .i64 r.s, .int .i64 r.d, .int .i64 r.g, .int .i64 r.a, .int .i64 r.b, .int .i64 r.i, .int .i64 r.u]] w fun e w' => e = .returned (.bool (!r.h.toList.isEmpty)) ∧ Below w.heap.size w w' := by
  cases he : r.h.toList.isEmpty
  · go_enter Try.func125, Try.ntmps125
    go_wp2
    go_ret
    exact ⟨rfl, by repeat (first | exact Below.refl _ _ | refine bl_alloc ?_ _)⟩
  · go_enter Try.func125, Try.ntmps125
    go_wp2
    go_ret
    exact ⟨rfl, by repeat (first | exact Below.refl _ _ | refine bl_alloc ?_ _)⟩
theorem closDown (r : RunD) (w : World) : Calls Try.prog 136 #[.agg #[.string r.c, .int .i64 r.v, .string r.h, .int .i64 r.p, .int .i64 r.s, .int .i64 r.d, .int .i64 r.g, .int .i64 r.a, .int .i64 r.b, .int .i64 r.i, .int .i64 r.u]] w fun e w' => e = .returned (.bool (heldB r)) ∧ Below w.heap.size w w' := by
  cases ha : aliveB r.a
  · have Hh : Hid (heldB r = !r.h.toList.isEmpty) := by show heldB r = _; simp [heldB, ha]
    go_enter Try.func136, Try.ntmps136
    go_wp2_with fail
    refine (implAlive_b r _).mono ?_
    rintro e w1 ⟨rfl, c1⟩
    have k1 := box_keep c1
    have C1 : Hid _ := c1
    clear c1
    go_wp2_with fail
    refine (holds_b r _).mono ?_
    rintro e w2 ⟨rfl, c2⟩
    have C2 : Hid _ := bl_trans C1.out c2
    clear c2
    go_wp2
    go_ret
    exact ⟨by rw [Hh.out]; rfl, bl_trans (bl_alloc (Below.refl _ _) _) C2.out⟩
  · have Hh : Hid (heldB r = true) := by show heldB r = _; simp [heldB, ha]
    go_enter Try.func136, Try.ntmps136
    go_wp2_with fail
    refine (implAlive_b r _).mono ?_
    rintro e w1 ⟨rfl, c1⟩
    have C1 : Hid _ := c1
    clear c1
    go_wp2
    go_ret
    exact ⟨by rw [Hh.out]; rfl, bl_trans (bl_alloc (Below.refl _ _) _) C1.out⟩

set_option maxRecDepth 4000 in
set_option maxHeartbeats 2000000 in
theorem partsOk_any (m : MateD) (b1 b2 b3 b4 : Nat) (w : World) (hL : Lists w m b1 b2 b3 b4) (hf : m.fits) :
    Calls Try.prog 70 #[.agg #[.string m.nm, .bool m.up, .int .i64 m.ck, .bool m.kn, .int .i64 m.se, .slice (some ⟨b1, 0, none⟩) m.ws.length m.ws.length, .slice (some ⟨b2, 0, none⟩) m.rs.length m.rs.length, .slice (some ⟨b3, 0, none⟩) m.qs.length m.qs.length, .slice (some ⟨b4, 0, none⟩) m.gs.length m.gs.length]] w fun e w' => (∃ q : Bool, e = .returned (.bool q) ∧ SaysP q m) ∧ Below w.heap.size w w' := by
  have Hb0 : Hid (Below w.heap.size w (w.alloc (.cells #[.string m.nm, .bool m.up, .int .i64 m.ck, .bool m.kn, .int .i64 m.se, .slice (some ⟨b1, 0, none⟩) m.ws.length m.ws.length, .slice (some ⟨b2, 0, none⟩) m.rs.length m.rs.length, .slice (some ⟨b3, 0, none⟩) m.qs.length m.qs.length, .slice (some ⟨b4, 0, none⟩) m.gs.length m.gs.length] 27))) := bl_alloc (Below.refl _ _) _
  have HL : Hid (Lists (w.alloc (.cells #[.string m.nm, .bool m.up, .int .i64 m.ck, .bool m.kn, .int .i64 m.se, .slice (some ⟨b1, 0, none⟩) m.ws.length m.ws.length, .slice (some ⟨b2, 0, none⟩) m.rs.length m.rs.length, .slice (some ⟨b3, 0, none⟩) m.qs.length m.qs.length, .slice (some ⟨b4, 0, none⟩) m.gs.length m.gs.length] 27)) m b1 b2 b3 b4) := hL.keep Hb0.out
  cases qn : nameB m.nm
  · go_enter Try.func70, Try.ntmps70
    go_wp2_with (first | (go_at_call 129; refine (implName_any m.nm _ hf.n).mono ?_; rintro e w' ⟨rfl, rfl⟩) | (go_at_call 130; refine (within_any _ _ _ _).mono ?_; rintro e w' ⟨rfl, rfl⟩))
    go_ret
    exact ⟨⟨false, rfl, by unfold SaysP; simp [partsB, qn]⟩, Hb0.out⟩
  cases qc : inB m.ck 0 1000000
  · go_enter Try.func70, Try.ntmps70
    go_wp2_with (first | (go_at_call 129; refine (implName_any m.nm _ hf.n).mono ?_; rintro e w' ⟨rfl, rfl⟩) | (go_at_call 130; refine (within_any _ _ _ _).mono ?_; rintro e w' ⟨rfl, rfl⟩))
    go_ret
    exact ⟨⟨false, rfl, by unfold SaysP; simp [partsB, qc]⟩, Hb0.out⟩
  cases qs : inB m.se 0 1000000
  · go_enter Try.func70, Try.ntmps70
    go_wp2_with (first | (go_at_call 129; refine (implName_any m.nm _ hf.n).mono ?_; rintro e w' ⟨rfl, rfl⟩) | (go_at_call 130; refine (within_any _ _ _ _).mono ?_; rintro e w' ⟨rfl, rfl⟩))
    go_ret
    exact ⟨⟨false, rfl, by unfold SaysP; simp [partsB, qs]⟩, Hb0.out⟩
  go_enter Try.func70, Try.ntmps70
  go_wp2_with (first | (go_at_call 129; refine (implName_any m.nm _ hf.n).mono ?_; rintro e w' ⟨rfl, rfl⟩) | (go_at_call 130; refine (within_any _ _ _ _).mono ?_; rintro e w' ⟨rfl, rfl⟩))
  go_ret
  exact ⟨⟨true, rfl, by unfold SaysP; simp [partsB, qn, qc, qs]⟩, Hb0.out⟩

set_option maxRecDepth 4000 in
set_option maxHeartbeats 2000000 in
theorem wantsHeard_any (m : MateD) (b1 b2 b3 b4 : Nat) (w : World) (hL : Lists w m b1 b2 b3 b4) (hf : m.fits) :
    Calls Try.prog 71 #[.agg #[.string m.nm, .bool m.up, .int .i64 m.ck, .bool m.kn, .int .i64 m.se, .slice (some ⟨b1, 0, none⟩) m.ws.length m.ws.length, .slice (some ⟨b2, 0, none⟩) m.rs.length m.rs.length, .slice (some ⟨b3, 0, none⟩) m.qs.length m.qs.length, .slice (some ⟨b4, 0, none⟩) m.gs.length m.gs.length]] w fun e w' => (∃ q : Bool, e = .returned (.bool q) ∧ (q = true ↔ WantsSay m ∧ (m.kn = true ∨ m.ws.length = 0))) ∧ Below w.heap.size w w' := by
  have Hb0 : Hid (Below w.heap.size w (w.alloc (.cells #[.string m.nm, .bool m.up, .int .i64 m.ck, .bool m.kn, .int .i64 m.se, .slice (some ⟨b1, 0, none⟩) m.ws.length m.ws.length, .slice (some ⟨b2, 0, none⟩) m.rs.length m.rs.length, .slice (some ⟨b3, 0, none⟩) m.qs.length m.qs.length, .slice (some ⟨b4, 0, none⟩) m.gs.length m.gs.length] 27))) := bl_alloc (Below.refl _ _) _
  have HL : Hid (Lists (w.alloc (.cells #[.string m.nm, .bool m.up, .int .i64 m.ck, .bool m.kn, .int .i64 m.se, .slice (some ⟨b1, 0, none⟩) m.ws.length m.ws.length, .slice (some ⟨b2, 0, none⟩) m.rs.length m.rs.length, .slice (some ⟨b3, 0, none⟩) m.qs.length m.qs.length, .slice (some ⟨b4, 0, none⟩) m.gs.length m.gs.length] 27)) m b1 b2 b3 b4) := hL.keep Hb0.out
  go_enter Try.func71, Try.ntmps71
  go_wp2_with fail
  refine (W.implWantsOk b1 0 m.ws _ HL.out.r1 HL.out.l1 hf.f1 hf.k1).mono ?_
  rintro e w1 ⟨⟨q1, rfl, h1⟩, c1⟩
  have H1 : Hid _ := h1
  have k1 := box_keep c1
  have C1 : Hid _ := bl_trans Hb0.out c1
  clear h1 c1
  cases q1
  · go_wp2
    go_ret
    exact ⟨⟨false, rfl, ⟨fun h => (by cases h), fun h => by have := H1.out.2 h.1; cases this⟩⟩, C1.out⟩
  have G1 : Hid (WantsSay m) := H1.out.1 rfl
  clear H1
  cases hk : m.kn
  · by_cases hz : m.ws.length = 0
    · have hz' : ((m.ws.length : Int) == 0) = true := by simp [hz]
      have Hz : Hid _ := hz
      clear hz
      go_wp2
      go_ret
      exact ⟨⟨true, rfl, ⟨fun _ => ⟨G1.out, Or.inr Hz.out⟩, fun _ => rfl⟩⟩, C1.out⟩
    · have hz' : ((m.ws.length : Int) == 0) = false := beq_false_of_ne (by omega)
      have Hz : Hid _ := hz
      clear hz
      go_wp2
      go_ret
      exact ⟨⟨false, rfl, ⟨fun h => (by cases h), fun h => by
        rcases h.2 with h' | h'
        · rw [hk] at h'; cases h'
        · exact absurd h' Hz.out⟩⟩, C1.out⟩
  · go_wp2
    go_ret
    exact ⟨⟨true, rfl, ⟨fun _ => ⟨G1.out, Or.inl hk⟩, fun _ => rfl⟩⟩, C1.out⟩

set_option maxRecDepth 4000 in
set_option maxHeartbeats 2000000 in
theorem runsOkNow_any (m : MateD) (b1 b2 b3 b4 : Nat) (w : World) (hL : Lists w m b1 b2 b3 b4) (hf : m.fits) :
    Calls Try.prog 72 #[.agg #[.string m.nm, .bool m.up, .int .i64 m.ck, .bool m.kn, .int .i64 m.se, .slice (some ⟨b1, 0, none⟩) m.ws.length m.ws.length, .slice (some ⟨b2, 0, none⟩) m.rs.length m.rs.length, .slice (some ⟨b3, 0, none⟩) m.qs.length m.qs.length, .slice (some ⟨b4, 0, none⟩) m.gs.length m.gs.length]] w fun e w' => (∃ q : Bool, e = .returned (.bool q) ∧ (q = true ↔ RunsSay m)) ∧ Below w.heap.size w w' := by
  have Hb0 : Hid (Below w.heap.size w (w.alloc (.cells #[.string m.nm, .bool m.up, .int .i64 m.ck, .bool m.kn, .int .i64 m.se, .slice (some ⟨b1, 0, none⟩) m.ws.length m.ws.length, .slice (some ⟨b2, 0, none⟩) m.rs.length m.rs.length, .slice (some ⟨b3, 0, none⟩) m.qs.length m.qs.length, .slice (some ⟨b4, 0, none⟩) m.gs.length m.gs.length] 27))) := bl_alloc (Below.refl _ _) _
  have HL : Hid (Lists (w.alloc (.cells #[.string m.nm, .bool m.up, .int .i64 m.ck, .bool m.kn, .int .i64 m.se, .slice (some ⟨b1, 0, none⟩) m.ws.length m.ws.length, .slice (some ⟨b2, 0, none⟩) m.rs.length m.rs.length, .slice (some ⟨b3, 0, none⟩) m.qs.length m.qs.length, .slice (some ⟨b4, 0, none⟩) m.gs.length m.gs.length] 27)) m b1 b2 b3 b4) := hL.keep Hb0.out
  go_enter Try.func72, Try.ntmps72
  go_wp2_with fail
  refine (implRunsOk b2 0 _ m.rs m.ck _ HL.out.r2 HL.out.l2 hf.f2 hf.k2).mono ?_
  rintro e w1 ⟨⟨q1, rfl, h1⟩, c1⟩
  have H1 : Hid _ := h1
  have C1 : Hid _ := bl_trans Hb0.out c1
  clear h1 c1
  go_wp2
  go_ret
  exact ⟨⟨q1, rfl, H1.out⟩, C1.out⟩

set_option maxRecDepth 4000 in
set_option maxHeartbeats 2000000 in
theorem asksOk_any (m : MateD) (b1 b2 b3 b4 : Nat) (w : World) (hL : Lists w m b1 b2 b3 b4) (hf : m.fits) :
    Calls Try.prog 73 #[.agg #[.string m.nm, .bool m.up, .int .i64 m.ck, .bool m.kn, .int .i64 m.se, .slice (some ⟨b1, 0, none⟩) m.ws.length m.ws.length, .slice (some ⟨b2, 0, none⟩) m.rs.length m.rs.length, .slice (some ⟨b3, 0, none⟩) m.qs.length m.qs.length, .slice (some ⟨b4, 0, none⟩) m.gs.length m.gs.length]] w fun e w' => (∃ q : Bool, e = .returned (.bool q) ∧ (q = true ↔ AskSay m.ck m.qs ∧ AskSay m.ck m.gs)) ∧ Below w.heap.size w w' := by
  have Hb0 : Hid (Below w.heap.size w (w.alloc (.cells #[.string m.nm, .bool m.up, .int .i64 m.ck, .bool m.kn, .int .i64 m.se, .slice (some ⟨b1, 0, none⟩) m.ws.length m.ws.length, .slice (some ⟨b2, 0, none⟩) m.rs.length m.rs.length, .slice (some ⟨b3, 0, none⟩) m.qs.length m.qs.length, .slice (some ⟨b4, 0, none⟩) m.gs.length m.gs.length] 27))) := bl_alloc (Below.refl _ _) _
  have HL : Hid (Lists (w.alloc (.cells #[.string m.nm, .bool m.up, .int .i64 m.ck, .bool m.kn, .int .i64 m.se, .slice (some ⟨b1, 0, none⟩) m.ws.length m.ws.length, .slice (some ⟨b2, 0, none⟩) m.rs.length m.rs.length, .slice (some ⟨b3, 0, none⟩) m.qs.length m.qs.length, .slice (some ⟨b4, 0, none⟩) m.gs.length m.gs.length] 27)) m b1 b2 b3 b4) := hL.keep Hb0.out
  go_enter Try.func73, Try.ntmps73
  go_wp2_with fail
  refine (A.implAsksOk b3 0 _ m.qs m.ck _ HL.out.r3 HL.out.l3 hf.f3 hf.k3).mono ?_
  rintro e w1 ⟨⟨q1, rfl, h1⟩, c1⟩
  have H1 : Hid _ := h1
  have k1 := box_keep c1
  have HL1 : Hid _ := HL.out.keep c1
  have C1 : Hid _ := bl_trans Hb0.out c1
  clear h1 c1
  cases q1
  · go_wp2
    go_ret
    exact ⟨⟨false, rfl, ⟨fun h => (by cases h), fun h => by have := H1.out.2 h.1; cases this⟩⟩, C1.out⟩
  have G1 : Hid (AskSay m.ck m.qs) := H1.out.1 rfl
  clear H1
  go_wp2_with fail
  refine (A.implAsksOk b4 0 _ m.gs m.ck _ HL1.out.r4 HL1.out.l4 hf.f4 hf.k4).mono ?_
  rintro e w2 ⟨⟨q2, rfl, h2⟩, c2⟩
  have H2 : Hid _ := h2
  have C2 : Hid _ := bl_trans C1.out c2
  clear h2 c2
  go_wp2
  go_ret
  exact ⟨⟨q2, rfl, ⟨fun h => ⟨G1.out, H2.out.1 h⟩, fun h => H2.out.2 h.2⟩⟩, C2.out⟩

set_option maxRecDepth 4000 in
set_option maxHeartbeats 2000000 in
theorem downOk_any (m : MateD) (b1 b2 b3 b4 : Nat) (w : World) (hL : Lists w m b1 b2 b3 b4) (hf : m.fits) :
    Calls Try.prog 75 #[.agg #[.string m.nm, .bool m.up, .int .i64 m.ck, .bool m.kn, .int .i64 m.se, .slice (some ⟨b1, 0, none⟩) m.ws.length m.ws.length, .slice (some ⟨b2, 0, none⟩) m.rs.length m.rs.length, .slice (some ⟨b3, 0, none⟩) m.qs.length m.qs.length, .slice (some ⟨b4, 0, none⟩) m.gs.length m.gs.length]] w fun e w' => (∃ q : Bool, e = .returned (.bool q) ∧ (q = true ↔ m.up = true ∨ DownSay m)) ∧ Below w.heap.size w w' := by
  have Hb0 : Hid (Below w.heap.size w (w.alloc (.cells #[.string m.nm, .bool m.up, .int .i64 m.ck, .bool m.kn, .int .i64 m.se, .slice (some ⟨b1, 0, none⟩) m.ws.length m.ws.length, .slice (some ⟨b2, 0, none⟩) m.rs.length m.rs.length, .slice (some ⟨b3, 0, none⟩) m.qs.length m.qs.length, .slice (some ⟨b4, 0, none⟩) m.gs.length m.gs.length] 27))) := bl_alloc (Below.refl _ _) _
  have HL : Hid (Lists (w.alloc (.cells #[.string m.nm, .bool m.up, .int .i64 m.ck, .bool m.kn, .int .i64 m.se, .slice (some ⟨b1, 0, none⟩) m.ws.length m.ws.length, .slice (some ⟨b2, 0, none⟩) m.rs.length m.rs.length, .slice (some ⟨b3, 0, none⟩) m.qs.length m.qs.length, .slice (some ⟨b4, 0, none⟩) m.gs.length m.gs.length] 27)) m b1 b2 b3 b4) := hL.keep Hb0.out
  obtain ⟨u, hu⟩ : ∃ u, m.up = u := ⟨_, rfl⟩
  cases u
  · obtain ⟨kk, hk⟩ : ∃ kk, m.kn = kk := ⟨_, rfl⟩
    cases kk
    · by_cases hse : m.se = 0
      · have hs' : (m.se == 0) = true := by simp [hse]
        have Hse : Hid _ := hse
        clear hse
        have k1 := hf.k1
        have k3 := hf.k3
        have k4 := hf.k4
        by_cases hz : m.ws.length + m.qs.length + m.gs.length = 0
        · have hz' : ((m.ws.length : Int) + (m.qs.length : Int) + (m.gs.length : Int) == 0) = true := by
            have : (m.ws.length : Int) + (m.qs.length : Int) + (m.gs.length : Int) = 0 := by omega
            simpa using this
          have Hz : Hid _ := hz
          clear hz
          go_enter Try.func75, Try.ntmps75
          go_wp2_with fail
          refine (allDown heldB b2 0 _ m.rs _ (hL.keep (bl_alloc (Below.refl _ _) _)).r2 (hL.keep (bl_alloc (Below.refl _ _) _)).l2 hf.k2 (fun r hr x hx => closDown r x)).mono ?_
          rintro e w1 ⟨⟨q1, rfl, h1⟩, c1⟩
          have H1 : Hid _ := h1
          have C1 : Hid _ := bl_trans (bl_alloc (Below.refl _ _) _) c1
          clear h1 c1
          go_wp2
          go_ret
          exact ⟨⟨q1, rfl, ⟨fun h => Or.inr ⟨hk, Hse.out, Hz.out, H1.out.1 h⟩, fun h => H1.out.2 (down_or h hu).2.2.2⟩⟩, C1.out⟩
        · have hz' : ((m.ws.length : Int) + (m.qs.length : Int) + (m.gs.length : Int) == 0) = false := beq_false_of_ne (by omega)
          have Hz : Hid _ := hz
          clear hz
          go_enter Try.func75, Try.ntmps75
          go_wp2
          go_ret
          exact ⟨⟨false, rfl, ⟨fun h => (by cases h), fun h => absurd (down_or h hu).2.2.1 Hz.out⟩⟩, bl_alloc (Below.refl _ _) _⟩
      · have hs' : (m.se == 0) = false := by simp [hse]
        have Hse : Hid _ := hse
        clear hse
        go_enter Try.func75, Try.ntmps75
        go_wp2
        go_ret
        exact ⟨⟨false, rfl, ⟨fun h => (by cases h), fun h => absurd (down_or h hu).2.1 Hse.out⟩⟩, bl_alloc (Below.refl _ _) _⟩
    · go_enter Try.func75, Try.ntmps75
      go_wp2
      go_ret
      exact ⟨⟨false, rfl, ⟨fun h => (by cases h), fun h => by have := (down_or h hu).1; rw [hk] at this; cases this⟩⟩, bl_alloc (Below.refl _ _) _⟩
  · go_enter Try.func75, Try.ntmps75
    go_wp2
    go_ret
    exact ⟨⟨true, rfl, ⟨fun _ => Or.inl hu, fun _ => rfl⟩⟩, bl_alloc (Below.refl _ _) _⟩
end Go.Proofs.Ytkebokkckmgloaa
