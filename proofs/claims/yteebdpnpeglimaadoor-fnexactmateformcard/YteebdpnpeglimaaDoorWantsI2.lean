/- MateWantsOk: the program's side. -/
import Derived.Test.YteebdpnpeglimaaDoorGenW
import Derived.Laws.EntriesVeiled
namespace Go.Proofs.YteebdpnpeglimaaDoor.W
open Go.RowKit
set_option linter.unusedVariables false

theorem boxlt {w w1 : World} {o : Obj} (h : Below (w.alloc o).heap.size (w.alloc o) w1) : w.heap.size < w1.heap.size := by have := h.size; simp at this; omega
theorem implWant_q (c h : ByteArray) (v p s d g : Int) (w : World) (hc : c.size ≤ maxLen) (hh : h.size ≤ maxLen) (q : Bool) (hq : wantB c h v p s d g = q) :
    Calls Tryd.prog 68 #[.agg #[.string c, .int .i64 v, .string h, .int .i64 p, .int .i64 s, .int .i64 d, .int .i64 g]] w fun e w' => e = .returned (.bool q) ∧ Below w.heap.size w w' := by
  rw [← hq]; exact implWant_any c h v p s d g w hc hh

theorem fewWants_any (a : Option Addr) (n cap : Nat) (w : World) :
    Calls Tryd.prog 56 #[.slice a n cap] w fun e w' => e = .returned (.bool (decide (n ≤ 10))) ∧ w' = w := by
  by_cases h : n ≤ 10
  · go_enter Tryd.func56, Tryd.ntmps56
    go_wp2
    go_ret
    exact ⟨ret_b (by simp; omega), rfl⟩
  · go_enter Tryd.func56, Tryd.ntmps56
    go_wp2
    go_ret
    exact ⟨ret_b (by simp; omega), rfl⟩

theorem each_iff (ws : List WantD) : Each ws ws.length ↔ ∀ r ∈ ws, r.ok = true := by
  constructor
  · intro h r hr
    obtain ⟨j, hj⟩ := List.getElem?_of_mem hr
    exact h j r (List.getElem?_eq_some_iff.1 hj).1 hj
  · intro h j r _ hr
    exact h r (List.mem_of_getElem? hr)

theorem eachWant (b off cap : Nat) (ws : List WantD) (w : World) (hR : RowsAt w b off ws) (l1 : b < w.heap.size) (hfit : ∀ r ∈ ws, r.fits) (hl : ws.length ≤ 10) :
    Calls Tryd.prog 57 #[.slice (some ⟨b, off, none⟩) ws.length cap] w fun e w' => (∃ q : Bool, e = .returned (.bool q) ∧ (q = true ↔ Each ws ws.length)) ∧ Below w.heap.size w w' := by
  go_enter Tryd.func57, Tryd.ntmps57
  go_wp2_with fail
  refine (allOk (fun r => r.ok) b off cap ws w hR l1 (by omega) (fun r hr x _ => implWant_any r.c r.h r.v r.p r.s r.d r.g x (hfit r hr).1 (hfit r hr).2)).mono ?_
  rintro e w1 ⟨⟨q, rfl, h⟩, hb⟩
  have H : Hid _ := h
  clear h
  go_wp2
  go_ret
  exact ⟨⟨q, rfl, by rw [each_iff]; exact H.out⟩, hb⟩

theorem ascendWants (b off cap : Nat) (ws : List WantD) (w : World) (hR : RowsAt w b off ws) (l1 : b < w.heap.size) (hl : ws.length ≤ 10) :
    Calls Tryd.prog 58 #[.slice (some ⟨b, off, none⟩) ws.length cap] w fun e w' => (∃ q : Bool, e = .returned (.bool q) ∧ (q = true ↔ Asc ws ws.length)) ∧ Below w.heap.size w w' := by
  go_enter Tryd.func58, Tryd.ntmps58
  go_wp2_with fail
  refine (ascends b off cap ws w hR l1 (by omega)).mono ?_
  rintro e w1 ⟨⟨q, rfl, h⟩, hb⟩
  have H : Hid _ := h
  clear h
  go_wp2
  go_ret
  exact ⟨⟨q, rfl, H.out⟩, hb⟩

set_option maxHeartbeats 1000000 in
theorem holdsDiffer (b off : Nat) (ws : List WantD) (w : World) (hR : RowsAt w b off ws) (l1 : b < w.heap.size) (hl : ws.length ≤ 10) :
    Calls Tryd.prog 59 #[.slice (some ⟨b, off, none⟩) ws.length ws.length] w fun e w' => (∃ q : Bool, e = .returned (.bool q) ∧ (q = true ↔ Diff ws ws.length)) ∧ Below w.heap.size w w' := by
  go_enter Tryd.func59, Tryd.ntmps59
  go_wp2
  go_loopw [9] (fun i wx => ∃ (k : Nat), k ≤ ws.length ∧ i = .int .i64 k ∧ Hid (Diff ws k) ∧ Below w.heap.size w wx) (fun i _ => ws.length - (intOf i).toNat)
  case atStart => exact ⟨0, Nat.zero_le _, rfl, fun j r h => by omega, Below.refl _ _⟩
  case round =>
    obtain ⟨k, hk, rfl, Ha, hB⟩ := hrel
    by_cases hlt : k < ws.length
    · obtain ⟨r, hr⟩ : ∃ r, ws[k]? = some r := ⟨ws[k], List.getElem?_eq_getElem hlt⟩
      have Hr : Hid _ := hr
      clear hr
      have i0 : (0 : Int) ≤ (k : Int) := by omega
      have i1 : (k : Int) ≤ (ws.length : Int) := by omega
      obtain ⟨c0, c1, c2, c3, c4, c5, c6⟩ := (hR.keep l1 hB).at Hr.out
      obtain ⟨wo, rfl⟩ : ∃ wo : World, wo = wr := ⟨_, rfl⟩
      go_wp2_with fail
      clear c0 c1 c2 c3 c4 c5 c6
      go_loopw [18] (fun j wx => ∃ (n : Nat), n ≤ k ∧ j = .int .i64 n ∧ Hid (NoneOf ws r n) ∧ Below (wo.alloc (.cells #[.string r.c, .int .i64 r.v, .string r.h, .int .i64 r.p, .int .i64 r.s, .int .i64 r.d, .int .i64 r.g] 40)).heap.size (wo.alloc (.cells #[.string r.c, .int .i64 r.v, .string r.h, .int .i64 r.p, .int .i64 r.s, .int .i64 r.d, .int .i64 r.g] 40)) wx) (fun j _ => k - (intOf j).toNat)
      case atStart => exact ⟨0, Nat.zero_le _, rfl, fun i q h => by omega, Below.refl _ _⟩
      case round =>
        obtain ⟨n, hn, rfl, Hn, hBn⟩ := hrel
        have bo : Below w.heap.size w wr := bl_trans (bl_trans hB (bl_alloc (Below.refl _ _) _)) hBn
        by_cases hnl : n < k
        · obtain ⟨t, ht⟩ : ∃ t, ws[n]? = some t := ⟨ws[n], List.getElem?_eq_getElem (by omega)⟩
          have Ht : Hid _ := ht
          clear ht
          have j0 : (0 : Int) ≤ (n : Int) := by omega
          have j1 : (n : Int) < (k : Int) := by omega
          obtain ⟨c0, c1, c2, c3, c4, c5, c6⟩ := (hR.keep l1 bo).at Ht.out
          have hkb := box_keep hBn
          have hzb := boxlt hBn
          cases he : r.h.toList.isEmpty
          · cases hcl : (t.h.toList == r.h.toList)
            · go_wp2
              exact ⟨⟨n + 1, by omega, by go_num, NoneOf.step Hn.out Ht.out (by simp [clash, he, hcl]), bl_trans hBn (bl_alloc (Below.refl _ _) _)⟩, by simp [intOf]; omega⟩
            · go_wp2
              go_ret
              exact ⟨⟨false, rfl, ⟨fun h => (by cases h), fun h => by have := h k r hlt Hr.out n t hnl Ht.out; simp [clash, he, hcl] at this⟩⟩, bl_alloc bo _⟩
          · go_wp2
            exact ⟨⟨n + 1, by omega, by go_num, NoneOf.step Hn.out Ht.out (by simp [clash, he]), bl_trans hBn (bl_alloc (Below.refl _ _) _)⟩, by simp [intOf]; omega⟩
        · have hne : n = k := by omega
          subst hne
          go_wp2
          exact ⟨⟨n + 1, by omega, by go_num, Ha.out.step Hr.out Hn.out, bo⟩, by simp [intOf]; omega⟩
    · go_wp2
      go_ret
      exact ⟨⟨true, rfl, ⟨fun _ j r hj hr => Ha.out j r (by omega) hr, fun _ => rfl⟩⟩, hB⟩

theorem build_all (w : World) : Sem.run Tryd.prog (Instr.buildSlice 80 4 #[(0, .func (.func 56) #[] #[]), (1, .func (.func 57) #[] #[]), (2, .func (.func 58) #[] #[]), (3, .func (.func 59) #[] #[])]) w = .ok (.slice (some ⟨w.heap.size, 0, none⟩) 4 4) (w.alloc (.cells #[.func (.func 56) #[] #[], .func (.func 57) #[] #[], .func (.func 58) #[] #[], .func (.func 59) #[] #[]] 36)) := by kernel_rfl

set_option maxHeartbeats 1000000 in
theorem implWantsOk (b off : Nat) (ws : List WantD) (w : World) (hR : RowsAt w b off ws) (l1 : b < w.heap.size) (hfit : ∀ r ∈ ws, r.fits) (hl : ws.length ≤ 1048576) :
    Calls Tryd.prog 46 #[.slice (some ⟨b, off, none⟩) ws.length ws.length] w fun e w' => (∃ q : Bool, e = .returned (.bool q) ∧ Says q ws) ∧ Below w.heap.size w w' := by
  have hba := build_all
  by_cases h10 : ws.length ≤ 10
  · go_enter Tryd.func46, Tryd.ntmps46
    go_wp2_with go_in
    clear hba
    refine wp_loop_rounds 5 ?_
    rw [rounds_succ]
    go_wp2_with fail
    refine (fewWants_any _ _ _ _).mono ?_
    rintro e w1 ⟨rfl, rfl⟩
    have d10 : decide (ws.length ≤ 10) = true := by simpa using h10
    go_wp2_with fail
    rw [rounds_succ]
    go_wp2_with fail
    have R0 := hR.keep l1 (bl_alloc (Below.refl _ _) (.cells #[.func (.func 56) #[] #[], .func (.func 57) #[] #[], .func (.func 58) #[] #[], .func (.func 59) #[] #[]] 36))
    have z0 : b < (w.alloc (.cells #[.func (.func 56) #[] #[], .func (.func 57) #[] #[], .func (.func 58) #[] #[], .func (.func 59) #[] #[]] 36)).heap.size := by simp; omega
    refine (eachWant b off _ ws _ R0 z0 hfit h10).mono ?_
    rintro e w2 ⟨⟨q2, rfl, h2⟩, b2⟩
    have k2 := box_keep b2
    cases q2
    · go_wp2
      go_ret
      exact ⟨⟨false, rfl, says_no (fun _ h => by have := h2.2 h.1; cases this)⟩, bl_trans (bl_alloc (Below.refl _ _) _) b2⟩
    have e2 : Hid _ := h2.1 rfl
    clear h2
    go_wp2_with fail
    rw [rounds_succ]
    go_wp2_with fail
    have R2 := R0.keep z0 b2
    have z2 : b < w2.heap.size := Nat.lt_of_lt_of_le z0 b2.size
    refine (ascendWants b off _ ws _ R2 z2 h10).mono ?_
    rintro e w3 ⟨⟨q3, rfl, h3⟩, b3⟩
    have b3' := bl_trans b2 b3
    clear k2
    have k3 := box_keep b3'
    cases q3
    · go_wp2
      go_ret
      exact ⟨⟨false, rfl, says_no (fun _ h => by have := h3.2 h.2.1; cases this)⟩, bl_trans (bl_alloc (Below.refl _ _) _) b3'⟩
    have e3 : Hid _ := h3.1 rfl
    clear h3
    go_wp2_with fail
    rw [rounds_succ]
    go_wp2_with fail
    have R3 := R2.keep z2 b3
    have z3 : b < w3.heap.size := Nat.lt_of_lt_of_le z2 b3.size
    refine (holdsDiffer b off ws _ R3 z3 h10).mono ?_
    rintro e w4 ⟨⟨q4, rfl, h4⟩, b4⟩
    have b4' := bl_trans b3' b4
    clear k3
    cases q4
    · go_wp2
      go_ret
      exact ⟨⟨false, rfl, says_no (fun _ h => by have := h4.2 h.2.2; cases this)⟩, bl_trans (bl_alloc (Below.refl _ _) _) b4'⟩
    have e4 : Hid _ := h4.1 rfl
    clear h4
    go_wp2_with fail
    rw [rounds_succ]
    go_wp2
    go_ret
    exact ⟨⟨true, rfl, says_yes ⟨e2.out, e3.out, e4.out⟩ (Nat.le_refl _) h10⟩, bl_trans (bl_alloc (Below.refl _ _) _) b4'⟩
  · go_enter Tryd.func46, Tryd.ntmps46
    go_wp2_with go_in
    clear hba
    refine wp_loop_rounds 1 ?_
    rw [rounds_succ]
    go_wp2_with fail
    refine (fewWants_any _ _ _ _).mono ?_
    rintro e w1 ⟨rfl, rfl⟩
    have d10 : decide (ws.length ≤ 10) = false := by simpa using h10
    go_wp2
    go_ret
    exact ⟨⟨false, rfl, says_no (fun h _ => h10 h)⟩, bl_alloc (Below.refl _ _) _⟩
end Go.Proofs.YteebdpnpeglimaaDoor.W
