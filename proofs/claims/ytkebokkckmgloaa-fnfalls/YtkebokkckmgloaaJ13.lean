import Derived.Test.YtkebokkckmgloaaJ06
import Derived.Deep.RegionHeld3
import Derived.Laws.Pointers
import Derived.StillTactics
import Derived.Test.YtkebokkckmgloaaJ07
import Derived.Deep.QuietTactic
import Derived.BigQuiet
import Derived.Test.YtkebokkckmgloaaJ08
import Derived.Test.YtkebokkckmgloaaJ12
/- all and ascends, at asks. -/
namespace Go.Proofs.Ytkebokkckmgloaa.A
open Go.RowKit
set_option linter.unusedVariables false

set_option maxRecDepth 4000 in
set_option maxHeartbeats 1000000 in
theorem allOk (bk : Nat) (P : AskD → Bool) (b off cap : Nat) (rs : List AskD) (w : World) (hR : RowsAt w b off rs) (l1 : b < w.heap.size) (hl : rs.length ≤ 1048576)
    (hF : ∀ r ∈ rs, ∀ x, Below w.heap.size w x → Calls Try.prog 173 #[.agg #[.string r.h, .string r.c, .int .i64 r.f, .int .i64 r.t], .pointer (some ⟨bk, 0, none⟩)] x fun e x' => e = .returned (.bool (P r)) ∧ Below x.heap.size x x') :
    Calls Try.prog 134 #[.slice (some ⟨b, off, none⟩) rs.length cap, .func (.func 173) #[] #[.pointer (some ⟨bk, 0, none⟩)]] w fun e w' => (∃ q : Bool, e = .returned (.bool q) ∧ (q = true ↔ ∀ r ∈ rs, P r = true)) ∧ Below w.heap.size w w' := by
  have HF : Hid _ := hF
  clear hF
  go_enter Try.func134, Try.ntmps134
  go_wp2
  go_loopw [9] (fun i wx => ∃ (k : Nat), k ≤ rs.length ∧ i = .int .i64 k ∧ Hid (∀ j r, j < k → rs[j]? = some r → P r = true) ∧ Below w.heap.size w wx) (fun i _ => rs.length - (intOf i).toNat)
  case atStart => exact ⟨0, Nat.zero_le _, rfl, fun j r h => by omega, Below.refl _ _⟩
  case round =>
    obtain ⟨k, hk, rfl, Ha, hB⟩ := hrel
    by_cases hlt : k < rs.length
    · obtain ⟨r, hr⟩ : ∃ r, rs[k]? = some r := ⟨rs[k], List.getElem?_eq_getElem hlt⟩
      have Hr : Hid _ := hr
      clear hr
      obtain ⟨c0, c1, c2, c3⟩ := (hR.keep l1 hB).at Hr.out
      go_wp2_with fail
      refine (HF.out r (List.mem_of_getElem? Hr.out) _ (bl_alloc hB _)).mono ?_
      rintro e w1 ⟨rfl, hb⟩
      have hB1 := bl_trans (bl_alloc hB _) hb
      have Hb1 : Hid _ := hB1
      clear hB hb hB1
      cases hP : P r
      · go_wp2
        go_ret
        exact ⟨⟨false, rfl, ⟨fun h => (by cases h), fun h => by have := h r (List.mem_of_getElem? Hr.out); rw [hP] at this; cases this⟩⟩, Hb1.out⟩
      · go_wp2
        exact ⟨⟨k + 1, by omega, by go_num, (fun j q hj hq => by
          by_cases e : j = k
          · subst e; have hh := Hr.out; rw [hh] at hq; cases hq; exact hP
          · exact Ha.out j q (by omega) hq), Hb1.out⟩, by simp [intOf]; omega⟩
    · go_wp2
      go_ret
      exact ⟨⟨true, rfl, ⟨fun _ r hr => by
        obtain ⟨j, hj⟩ := List.getElem?_of_mem hr
        have hjl : j < rs.length := (List.getElem?_eq_some_iff.1 hj).1
        exact Ha.out j r (by omega) hj, fun _ => rfl⟩⟩, hB⟩

set_option maxRecDepth 4000 in
set_option maxHeartbeats 1000000 in
theorem allGiven (bk : Nat) (P : AskD → Bool) (b off cap : Nat) (rs : List AskD) (w : World) (hR : RowsAt w b off rs) (l1 : b < w.heap.size) (hl : rs.length ≤ 1048576)
    (hF : ∀ r ∈ rs, ∀ x, Below w.heap.size w x → Calls Try.prog 135 #[.agg #[.string r.h, .string r.c, .int .i64 r.f, .int .i64 r.t], .pointer (some ⟨bk, 0, none⟩)] x fun e x' => e = .returned (.bool (P r)) ∧ Below x.heap.size x x') :
    Calls Try.prog 134 #[.slice (some ⟨b, off, none⟩) rs.length cap, .func (.func 135) #[] #[.pointer (some ⟨bk, 0, none⟩)]] w fun e w' => (∃ q : Bool, e = .returned (.bool q) ∧ (q = true ↔ ∀ r ∈ rs, P r = true)) ∧ Below w.heap.size w w' := by
  have HF : Hid _ := hF
  clear hF
  go_enter Try.func134, Try.ntmps134
  go_wp2
  go_loopw [9] (fun i wx => ∃ (k : Nat), k ≤ rs.length ∧ i = .int .i64 k ∧ Hid (∀ j r, j < k → rs[j]? = some r → P r = true) ∧ Below w.heap.size w wx) (fun i _ => rs.length - (intOf i).toNat)
  case atStart => exact ⟨0, Nat.zero_le _, rfl, fun j r h => by omega, Below.refl _ _⟩
  case round =>
    obtain ⟨k, hk, rfl, Ha, hB⟩ := hrel
    by_cases hlt : k < rs.length
    · obtain ⟨r, hr⟩ : ∃ r, rs[k]? = some r := ⟨rs[k], List.getElem?_eq_getElem hlt⟩
      have Hr : Hid _ := hr
      clear hr
      obtain ⟨c0, c1, c2, c3⟩ := (hR.keep l1 hB).at Hr.out
      go_wp2_with fail
      refine (HF.out r (List.mem_of_getElem? Hr.out) _ (bl_alloc hB _)).mono ?_
      rintro e w1 ⟨rfl, hb⟩
      have hB1 := bl_trans (bl_alloc hB _) hb
      have Hb1 : Hid _ := hB1
      clear hB hb hB1
      cases hP : P r
      · go_wp2
        go_ret
        exact ⟨⟨false, rfl, ⟨fun h => (by cases h), fun h => by have := h r (List.mem_of_getElem? Hr.out); rw [hP] at this; cases this⟩⟩, Hb1.out⟩
      · go_wp2
        exact ⟨⟨k + 1, by omega, by go_num, (fun j q hj hq => by
          by_cases e : j = k
          · subst e; have hh := Hr.out; rw [hh] at hq; cases hq; exact hP
          · exact Ha.out j q (by omega) hq), Hb1.out⟩, by simp [intOf]; omega⟩
    · go_wp2
      go_ret
      exact ⟨⟨true, rfl, ⟨fun _ r hr => by
        obtain ⟨j, hj⟩ := List.getElem?_of_mem hr
        have hjl : j < rs.length := (List.getElem?_eq_some_iff.1 hj).1
        exact Ha.out j r (by omega) hj, fun _ => rfl⟩⟩, hB⟩

theorem name_any (r : AskD) (w : World) :
    Calls Try.prog 133 #[.agg #[.string r.h, .string r.c, .int .i64 r.f, .int .i64 r.t]] w fun e w' => e = .returned (.string r.h) ∧ Below w.heap.size w w' := by
  go_enter Try.func133, Try.ntmps133
  go_wp2
  go_ret
  exact ⟨rfl, by repeat (first | exact Below.refl _ _ | refine bl_alloc ?_ _)⟩
/-- Ascending by their names, the first n. -/
def AscN (rs : List AskD) (n : Nat) : Prop := ∀ j q r, j + 1 < n → rs[j]? = some q → rs[j + 1]? = some r → Op.bytesLess q.h.toList r.h.toList = true
theorem AscN.step {rs : List AskD} {k : Nat} {q r : AskD} (h : AscN rs (k + 1)) (hq : rs[k]? = some q) (hr : rs[k + 1]? = some r) (hs : Op.bytesLess q.h.toList r.h.toList = true) : AscN rs (k + 1 + 1) := by
  intro j q' r' hj hq' hr'
  by_cases e : j = k
  · subst e; rw [hq] at hq'; rw [hr] at hr'; cases hq'; cases hr'; exact hs
  · exact h j q' r' (by omega) hq' hr'
theorem keepAsc {x w' : World} {b off m : Nat} {rs : List AskD} {r q : AskD} (hk : rs[m + 1]? = some r) (hq : rs[m]? = some q) (h1 : RowsAt x b off rs) (l1 : b < x.heap.size) (hb : Below x.heap.size x w') :
    Below x.heap.size x w' ∧ (w'.cell? ⟨b, off + (m + 1) * 4, none⟩ = some (.string r.h) ∧ w'.cell? ⟨b, off + (m + 1) * 4 + 1, none⟩ = some (.string r.c) ∧ w'.cell? ⟨b, off + (m + 1) * 4 + 2, none⟩ = some (.int .i64 r.f) ∧ w'.cell? ⟨b, off + (m + 1) * 4 + 3, none⟩ = some (.int .i64 r.t)) ∧ (w'.cell? ⟨b, off + m * 4, none⟩ = some (.string q.h) ∧ w'.cell? ⟨b, off + m * 4 + 1, none⟩ = some (.string q.c) ∧ w'.cell? ⟨b, off + m * 4 + 2, none⟩ = some (.int .i64 q.f) ∧ w'.cell? ⟨b, off + m * 4 + 3, none⟩ = some (.int .i64 q.t)) := ⟨hb, (h1.keep l1 hb).at hk, (h1.keep l1 hb).at hq⟩

set_option maxRecDepth 4000 in
set_option maxHeartbeats 2000000 in
theorem ascends (b off cap : Nat) (rs : List AskD) (w : World) (hR : RowsAt w b off rs) (l1 : b < w.heap.size) (hl : rs.length ≤ 1048576) :
    Calls Try.prog 172 #[.slice (some ⟨b, off, none⟩) rs.length cap, .func (.func 133) #[] #[]] w fun e w' => (∃ q : Bool, e = .returned (.bool q) ∧ (q = true ↔ AscN rs rs.length)) ∧ Below w.heap.size w w' := by
  go_enter Try.func172, Try.ntmps172
  go_wp2
  go_loopw [5] (fun i wx => ∃ (m : Nat), m ≤ rs.length ∧ i = .int .i64 ((m : Int) + 1) ∧ Hid (AscN rs (m + 1)) ∧ Below w.heap.size w wx) (fun i _ => rs.length + 1 - (intOf i).toNat)
  case atStart => exact ⟨0, Nat.zero_le _, rfl, (fun j q r hj _ _ => by omega), Below.refl _ _⟩
  case round =>
    obtain ⟨m, hk, rfl, Ha, hB⟩ := hrel
    by_cases hlt : m + 1 < rs.length
    · obtain ⟨r, hr⟩ : ∃ r, rs[m + 1]? = some r := ⟨rs[m + 1], List.getElem?_eq_getElem hlt⟩
      obtain ⟨q, hq⟩ : ∃ q, rs[m]? = some q := ⟨rs[m], List.getElem?_eq_getElem (by omega)⟩
      have Hr : Hid _ := hr
      have Hq : Hid _ := hq
      clear hr hq
      have g1 := hR.keep l1 hB
      have z1 : b < wr.heap.size := Nat.lt_of_lt_of_le l1 hB.size
      have i0 : (0 : Int) ≤ (m : Int) := by omega
      have i1 : (m : Int) + 1 < (rs.length : Int) := by omega
      have i2 : (m : Int) < (rs.length : Int) := by omega
      have i3 : (0 : Int) ≤ (m : Int) + 1 := by omega
      have iw : IntKind.i64.wrap (m : Int) = (m : Int) := by rw [IntKind.wrap_i64]; omega
      cases hasc : Op.bytesLess q.h.toList r.h.toList
      · go_wp2_with fail
        go_region_held3 (fun w' => Below wr.heap.size wr w' ∧ (w'.cell? ⟨b, off + (m + 1) * 4, none⟩ = some (.string r.h) ∧ w'.cell? ⟨b, off + (m + 1) * 4 + 1, none⟩ = some (.string r.c) ∧ w'.cell? ⟨b, off + (m + 1) * 4 + 2, none⟩ = some (.int .i64 r.f) ∧ w'.cell? ⟨b, off + (m + 1) * 4 + 3, none⟩ = some (.int .i64 r.t)) ∧ (w'.cell? ⟨b, off + m * 4, none⟩ = some (.string q.h) ∧ w'.cell? ⟨b, off + m * 4 + 1, none⟩ = some (.string q.c) ∧ w'.cell? ⟨b, off + m * 4 + 2, none⟩ = some (.int .i64 q.f) ∧ w'.cell? ⟨b, off + m * 4 + 3, none⟩ = some (.int .i64 q.t)))
          (first | exact keepAsc Hr.out Hq.out g1 z1 (bl_drew (Below.refl _ _)) | exact keepAsc Hr.out Hq.out g1 z1 (bl_trans (bl_drew (Below.refl _ _)) hx) | exact keepAsc Hr.out Hq.out g1 z1 (bl_trans (bl_trans (bl_drew (Below.refl _ _)) hx) hy))
          (first | (go_at_call 133; refine (name_any q _).mono ?_; rintro e w' ⟨rfl, hx⟩) | (go_at_call 133; refine (name_any r _).mono ?_; rintro e w'' ⟨rfl, hy⟩))
        have y1 := bl_trans (bl_trans (bl_drew (Below.refl _ wr)) hx) hy
        have Hb1 : Hid _ := bl_trans hB y1
        clear hx hy y1 hB g1
        go_wp2
        go_ret
        exact ⟨⟨false, rfl, ⟨fun h => (by cases h), fun h => by have := h m q r (by omega) Hq.out Hr.out; rw [hasc] at this; cases this⟩⟩, Hb1.out⟩
      · go_wp2_with fail
        go_region_held3 (fun w' => Below wr.heap.size wr w' ∧ (w'.cell? ⟨b, off + (m + 1) * 4, none⟩ = some (.string r.h) ∧ w'.cell? ⟨b, off + (m + 1) * 4 + 1, none⟩ = some (.string r.c) ∧ w'.cell? ⟨b, off + (m + 1) * 4 + 2, none⟩ = some (.int .i64 r.f) ∧ w'.cell? ⟨b, off + (m + 1) * 4 + 3, none⟩ = some (.int .i64 r.t)) ∧ (w'.cell? ⟨b, off + m * 4, none⟩ = some (.string q.h) ∧ w'.cell? ⟨b, off + m * 4 + 1, none⟩ = some (.string q.c) ∧ w'.cell? ⟨b, off + m * 4 + 2, none⟩ = some (.int .i64 q.f) ∧ w'.cell? ⟨b, off + m * 4 + 3, none⟩ = some (.int .i64 q.t)))
          (first | exact keepAsc Hr.out Hq.out g1 z1 (bl_drew (Below.refl _ _)) | exact keepAsc Hr.out Hq.out g1 z1 (bl_trans (bl_drew (Below.refl _ _)) hx) | exact keepAsc Hr.out Hq.out g1 z1 (bl_trans (bl_trans (bl_drew (Below.refl _ _)) hx) hy))
          (first | (go_at_call 133; refine (name_any q _).mono ?_; rintro e w' ⟨rfl, hx⟩) | (go_at_call 133; refine (name_any r _).mono ?_; rintro e w'' ⟨rfl, hy⟩))
        have y1 := bl_trans (bl_trans (bl_drew (Below.refl _ wr)) hx) hy
        have Hb1 : Hid _ := bl_trans hB y1
        clear hx hy y1 hB g1
        go_wp2
        exact ⟨⟨m + 1, by omega, by go_num, Ha.out.step Hq.out Hr.out hasc, Hb1.out⟩, by simp [intOf]; omega⟩
    · go_wp2
      go_ret
      exact ⟨⟨true, rfl, ⟨fun _ j q r hj hq hr => Ha.out j q r (by omega) hq hr, fun _ => rfl⟩⟩, hB⟩
end Go.Proofs.Ytkebokkckmgloaa.A
/- Asks that are ok: the specification's side. -/
namespace Go.Proofs.Ytkebokkckmgloaa.A
open Go.RowKit
set_option linter.unusedVariables false

/-- Is an ask such as a mate's at this clock may be? -/
def askB (clock : Int) (r : AskD) : Bool := holdB r.h && (nameB r.c && (inB r.t 0 clock && inB r.f 0 r.t))
def SaysA (q : Bool) (clock : Int) (rs : List AskD) : Prop := q = true ↔ rs.length ≤ 40 ∧ (AscN rs rs.length ∧ ∀ r ∈ rs, askB clock r = true)
theorem saysA_no {clock : Int} {rs : List AskD} (h : rs.length ≤ 40 → AscN rs rs.length → (∀ r ∈ rs, askB clock r = true) → False) : SaysA false clock rs := ⟨fun h' => (by cases h'), fun h' => (h h'.1 h'.2.1 h'.2.2).elim⟩
theorem bl_drewN {w w' : World} (h : Below w.heap.size w w') {n : Nat} : Below w.heap.size w (w'.drewN n) := ⟨h.os, h.tape, h.output, h.size, h.block⟩
def EachA (clock : Int) (rs : List AskD) (k : Nat) : Prop := ∀ j r, j < k → rs[j]? = some r → askB clock r = true
theorem EachA.step {clock : Int} {rs : List AskD} {k : Nat} {r : AskD} (h : EachA clock rs k) (hr : rs[k]? = some r) (hs : askB clock r = true) : EachA clock rs (k + 1) := by
  intro j q hj hq
  by_cases e : j = k
  · subst e; rw [hr] at hq; cases hq; exact hs
  · exact h j q (by omega) hq

set_option maxRecDepth 4000 in
set_option maxHeartbeats 4000000 in
theorem specAsksOk (b off cap : Nat) (rs : List AskD) (clock : Int) (w : World) (hR : RowsAt w b off rs) (l1 : b < w.heap.size) (hfit : ∀ r ∈ rs, r.fits) (hl : rs.length ≤ 1048576) :
    Calls Try.prog 67 #[.slice (some ⟨b, off, none⟩) rs.length cap, .int .i64 clock] w fun e w' => (∃ q : Bool, e = .returned (.bool q) ∧ SaysA q clock rs) ∧ Below w.heap.size w w' := by
  by_cases h40 : rs.length ≤ 40
  · have hi40 : (rs.length : Int) ≤ 40 := by omega
    go_enter Try.func67, Try.ntmps67
    go_wp2
    go_loopw [5] (fun i wx => ∃ (k : Nat), k ≤ rs.length ∧ i = .int .i64 k ∧ Hid (AscN rs k) ∧ Hid (EachA clock rs k) ∧ Below w.heap.size w wx) (fun i _ => rs.length - (intOf i).toNat)
    case atStart => exact ⟨0, Nat.zero_le _, rfl, (fun j q r hj _ _ => by omega), (fun j r hj _ => by omega), Below.refl _ _⟩
    case round =>
      obtain ⟨k, hk, rfl, Ha, He, hB⟩ := hrel
      by_cases hlt : k < rs.length
      · obtain ⟨r, hr⟩ : ∃ r, rs[k]? = some r := ⟨rs[k], List.getElem?_eq_getElem hlt⟩
        obtain ⟨hf1, hf2⟩ := hfit r (List.mem_of_getElem? hr)
        have Hr : Hid _ := hr
        obtain ⟨c0, c1, c2, c3⟩ := (hR.keep l1 hB).at hr
        clear hr
        cases k with
        | zero =>
          simp only [Nat.zero_mul, Nat.add_zero] at c0 c1 c2 c3
          have i00 : (0 : Int) < (rs.length : Int) := by omega
          cases q1 : holdB r.h
          · go_wp2_with fail
            go_quiet (first | (go_at_call 110; refine Calls.quiet_of_same (specHold_any r.h _ hf1)) | (go_at_call 65; refine Calls.quiet_of_same (specName_any r.c _ hf2)) | (go_at_call 66; refine Calls.quiet_of_same (specIn_any _ _ _ _)))
            go_wp2
            go_ret
            exact ⟨⟨false, rfl, saysA_no (fun _ _ h => by have := h r (List.mem_of_getElem? Hr.out); simp [askB, *] at this)⟩, bl_drewN (bl_alloc hB _)⟩
          cases q2 : nameB r.c
          · go_wp2_with fail
            go_quiet (first | (go_at_call 110; refine Calls.quiet_of_same (specHold_any r.h _ hf1)) | (go_at_call 65; refine Calls.quiet_of_same (specName_any r.c _ hf2)) | (go_at_call 66; refine Calls.quiet_of_same (specIn_any _ _ _ _)))
            go_wp2
            go_ret
            exact ⟨⟨false, rfl, saysA_no (fun _ _ h => by have := h r (List.mem_of_getElem? Hr.out); simp [askB, *] at this)⟩, bl_drewN (bl_alloc hB _)⟩
          cases q3 : inB r.t 0 clock
          · go_wp2_with fail
            go_quiet (first | (go_at_call 110; refine Calls.quiet_of_same (specHold_any r.h _ hf1)) | (go_at_call 65; refine Calls.quiet_of_same (specName_any r.c _ hf2)) | (go_at_call 66; refine Calls.quiet_of_same (specIn_any _ _ _ _)))
            go_wp2
            go_ret
            exact ⟨⟨false, rfl, saysA_no (fun _ _ h => by have := h r (List.mem_of_getElem? Hr.out); simp [askB, *] at this)⟩, bl_drewN (bl_alloc hB _)⟩
          cases q4 : inB r.f 0 r.t
          · go_wp2_with fail
            go_quiet (first | (go_at_call 110; refine Calls.quiet_of_same (specHold_any r.h _ hf1)) | (go_at_call 65; refine Calls.quiet_of_same (specName_any r.c _ hf2)) | (go_at_call 66; refine Calls.quiet_of_same (specIn_any _ _ _ _)))
            go_wp2
            go_ret
            exact ⟨⟨false, rfl, saysA_no (fun _ _ h => by have := h r (List.mem_of_getElem? Hr.out); simp [askB, *] at this)⟩, bl_drewN (bl_alloc hB _)⟩
          go_wp2_with fail
          go_quiet (first | (go_at_call 110; refine Calls.quiet_of_same (specHold_any r.h _ hf1)) | (go_at_call 65; refine Calls.quiet_of_same (specName_any r.c _ hf2)) | (go_at_call 66; refine Calls.quiet_of_same (specIn_any _ _ _ _)))
          go_wp2
          exact ⟨⟨0 + 1, by omega, by go_num, (fun j q r hj _ _ => by omega), He.out.step Hr.out (by simp [askB, *]), bl_drewN (bl_alloc hB _)⟩, by simp [intOf]; omega⟩
        | succ m =>
          obtain ⟨q, hq⟩ : ∃ q, rs[m]? = some q := ⟨rs[m], List.getElem?_eq_getElem (by omega)⟩
          have Hq : Hid _ := hq
          obtain ⟨e0, -⟩ := (hR.keep l1 hB).at hq
          clear hq
          have bz : b < wr.heap.size := Nat.lt_of_lt_of_le l1 hB.size
          have i0 : (0 : Int) ≤ (m : Int) := by omega
          have i1 : (m : Int) + 1 < (rs.length : Int) := by omega
          have i2 : (m : Int) < (rs.length : Int) := by omega
          have iw : IntKind.i64.wrap (m : Int) = (m : Int) := by rw [IntKind.wrap_i64]; omega
          cases q1 : holdB r.h
          · go_wp2_with fail
            go_quiet (first | (go_at_call 110; refine Calls.quiet_of_same (specHold_any r.h _ hf1)) | (go_at_call 65; refine Calls.quiet_of_same (specName_any r.c _ hf2)) | (go_at_call 66; refine Calls.quiet_of_same (specIn_any _ _ _ _)))
            go_wp2
            go_ret
            exact ⟨⟨false, rfl, saysA_no (fun _ _ h => by have := h r (List.mem_of_getElem? Hr.out); simp [askB, *] at this)⟩, bl_drewN (bl_alloc hB _)⟩
          cases q2 : nameB r.c
          · go_wp2_with fail
            go_quiet (first | (go_at_call 110; refine Calls.quiet_of_same (specHold_any r.h _ hf1)) | (go_at_call 65; refine Calls.quiet_of_same (specName_any r.c _ hf2)) | (go_at_call 66; refine Calls.quiet_of_same (specIn_any _ _ _ _)))
            go_wp2
            go_ret
            exact ⟨⟨false, rfl, saysA_no (fun _ _ h => by have := h r (List.mem_of_getElem? Hr.out); simp [askB, *] at this)⟩, bl_drewN (bl_alloc hB _)⟩
          cases q3 : inB r.t 0 clock
          · go_wp2_with fail
            go_quiet (first | (go_at_call 110; refine Calls.quiet_of_same (specHold_any r.h _ hf1)) | (go_at_call 65; refine Calls.quiet_of_same (specName_any r.c _ hf2)) | (go_at_call 66; refine Calls.quiet_of_same (specIn_any _ _ _ _)))
            go_wp2
            go_ret
            exact ⟨⟨false, rfl, saysA_no (fun _ _ h => by have := h r (List.mem_of_getElem? Hr.out); simp [askB, *] at this)⟩, bl_drewN (bl_alloc hB _)⟩
          cases q4 : inB r.f 0 r.t
          · go_wp2_with fail
            go_quiet (first | (go_at_call 110; refine Calls.quiet_of_same (specHold_any r.h _ hf1)) | (go_at_call 65; refine Calls.quiet_of_same (specName_any r.c _ hf2)) | (go_at_call 66; refine Calls.quiet_of_same (specIn_any _ _ _ _)))
            go_wp2
            go_ret
            exact ⟨⟨false, rfl, saysA_no (fun _ _ h => by have := h r (List.mem_of_getElem? Hr.out); simp [askB, *] at this)⟩, bl_drewN (bl_alloc hB _)⟩
          cases q5 : Op.bytesLess q.h.toList r.h.toList
          · go_wp2_with fail
            go_quiet (first | (go_at_call 110; refine Calls.quiet_of_same (specHold_any r.h _ hf1)) | (go_at_call 65; refine Calls.quiet_of_same (specName_any r.c _ hf2)) | (go_at_call 66; refine Calls.quiet_of_same (specIn_any _ _ _ _)))
            go_wp2
            go_ret
            exact ⟨⟨false, rfl, saysA_no (fun _ h _ => by have := h m q r (by omega) Hq.out Hr.out; rw [q5] at this; cases this)⟩, bl_drewN (bl_alloc hB _)⟩
          · go_wp2_with fail
            go_quiet (first | (go_at_call 110; refine Calls.quiet_of_same (specHold_any r.h _ hf1)) | (go_at_call 65; refine Calls.quiet_of_same (specName_any r.c _ hf2)) | (go_at_call 66; refine Calls.quiet_of_same (specIn_any _ _ _ _)))
            go_wp2
            exact ⟨⟨m + 1 + 1, by omega, by go_num, Ha.out.step Hq.out Hr.out q5, He.out.step Hr.out (by simp [askB, *]), bl_drewN (bl_alloc hB _)⟩, by simp [intOf]; omega⟩
      · go_wp2
        go_ret
        have e : k = rs.length := by omega
        subst e
        exact ⟨⟨true, rfl, ⟨fun _ => ⟨h40, Ha.out, fun r hr => by
          obtain ⟨j, hj⟩ := List.getElem?_of_mem hr
          exact He.out j r (List.getElem?_eq_some_iff.1 hj).1 hj⟩, fun _ => rfl⟩⟩, hB⟩
  · have hi40 : (40 : Int) < (rs.length : Int) := by omega
    have H40 : Hid _ := h40
    clear h40
    go_enter Try.func67, Try.ntmps67
    go_wp2
    go_ret
    exact ⟨⟨false, rfl, ⟨fun h => (by cases h), fun h => absurd h.1 H40.out⟩⟩, Below.refl _ _⟩

/-- Is a hold among asks? -/
def HasA (rs : List AskD) (x : ByteArray) : Prop := ∃ r ∈ rs, (r.h.toList == x.toList) = true
/-- The place of a hold among asks, -1 if it is not there. -/
def askAt (rs : List AskD) (x : ByteArray) : Int := match rs.findIdx? (fun r => r.h.toList == x.toList) with | some i => (i : Int) | none => -1
theorem askAt_some {rs : List AskD} {x : ByteArray} {k : Nat} {r : AskD} (hr : rs[k]? = some r) (he : (r.h.toList == x.toList) = true) (hb : ∀ j r, j < k → rs[j]? = some r → (r.h.toList == x.toList) = false) : askAt rs x = (k : Int) := by
  have hk : k < rs.length := (List.getElem?_eq_some_iff.1 hr).1
  have hrk : rs[k] = r := (List.getElem?_eq_some_iff.1 hr).2
  have : rs.findIdx? (fun r => r.h.toList == x.toList) = some k := by
    rw [List.findIdx?_eq_some_iff_getElem]
    refine ⟨hk, by rw [hrk]; exact he, fun j hj => ?_⟩
    have := hb j rs[j] hj (List.getElem?_eq_getElem (by omega))
    simp only [this]; decide
  simp only [askAt, this]
theorem askAt_none {rs : List AskD} {x : ByteArray} (hb : ∀ j r, j < rs.length → rs[j]? = some r → (r.h.toList == x.toList) = false) : askAt rs x = -1 := by
  have : rs.findIdx? (fun r => r.h.toList == x.toList) = none := by
    rw [List.findIdx?_eq_none_iff]
    intro r hr
    obtain ⟨j, hj⟩ := List.getElem?_of_mem hr
    exact hb j r (List.getElem?_eq_some_iff.1 hj).1 hj
  simp only [askAt, this]
theorem askAt_has (rs : List AskD) (x : ByteArray) : (0 ≤ askAt rs x ↔ HasA rs x) := by
  unfold askAt HasA
  cases h : rs.findIdx? (fun r => r.h.toList == x.toList) with
  | none =>
    rw [List.findIdx?_eq_none_iff] at h
    constructor
    · intro h'; exact absurd h' (by simp)
    · rintro ⟨r, hr, hx⟩; have := h r hr; rw [this] at hx; cases hx
  | some i =>
    rw [List.findIdx?_eq_some_iff_getElem] at h
    obtain ⟨hi, hp, -⟩ := h
    exact ⟨fun _ => ⟨rs[i], List.getElem_mem _, hp⟩, fun _ => by simp⟩
set_option maxHeartbeats 1000000 in
theorem specAsk_x (b off cap : Nat) (rs : List AskD) (x : ByteArray) (w : World) (hR : RowsAt w b off rs) (l1 : b < w.heap.size) (hl : rs.length ≤ 1048576) :
    Calls Try.prog 68 #[.slice (some ⟨b, off, none⟩) rs.length cap, .string x] w fun e w' => e = .returned (.int .i64 (askAt rs x)) ∧ w' = w := by
  go_enter Try.func68, Try.ntmps68
  go_wp2
  go_loop [5] (fun i => ∃ (k : Nat), k ≤ rs.length ∧ i = .int .i64 k ∧ Hid (∀ j r, j < k → rs[j]? = some r → (r.h.toList == x.toList) = false)) (fun i => rs.length - (intOf i).toNat)
  case atStart => exact ⟨0, Nat.zero_le _, rfl, fun j r hj _ => by omega⟩
  case round =>
    obtain ⟨k, hk, rfl, Ha⟩ := hrel
    by_cases hlt : k < rs.length
    · obtain ⟨r, hr⟩ : ∃ r, rs[k]? = some r := ⟨rs[k], List.getElem?_eq_getElem hlt⟩
      have Hr : Hid _ := hr
      obtain ⟨c0, -⟩ := hR.at hr
      clear hr
      cases he : (r.h.toList == x.toList)
      · go_wp2
        exact ⟨⟨k + 1, by omega, by go_num, (fun j q hj hq => by
          by_cases e : j = k
          · subst e; have hh := Hr.out; rw [hh] at hq; cases hq; exact he
          · exact Ha.out j q (by omega) hq)⟩, by simp [intOf]; omega⟩
      · go_wp2
        go_ret
        exact ⟨by rw [askAt_some Hr.out he Ha.out]; rfl, rfl⟩
    · go_wp2
      go_ret
      have e : k = rs.length := by omega
      subst e
      exact ⟨by rw [askAt_none Ha.out]; rfl, rfl⟩
end Go.Proofs.Ytkebokkckmgloaa.A
/- A mate as a value: what is asked of it. -/
namespace Go.Proofs.Ytkebokkckmgloaa
open Go.RowKit
set_option linter.unusedVariables false

structure MateD where
  nm : ByteArray
  up : Bool
  ck : Int
  kn : Bool
  se : Int
  ws : List W.WantD
  rs : List RunD
  qs : List A.AskD
  gs : List A.AskD
structure MateD.fits (m : MateD) : Prop where
  n : m.nm.size ≤ maxLen
  f1 : ∀ r ∈ m.ws, r.fits
  f2 : ∀ r ∈ m.rs, r.fits
  f3 : ∀ r ∈ m.qs, r.fits
  f4 : ∀ r ∈ m.gs, r.fits
  k1 : m.ws.length ≤ 1048576
  k2 : m.rs.length ≤ 1048576
  k3 : m.qs.length ≤ 1048576
  k4 : m.gs.length ≤ 1048576
/-- Is a mate's first part such (the name, the clock, the number)? -/
def partsB (m : MateD) : Bool := nameB m.nm && (inB m.ck 0 1000000 && inB m.se 0 1000000)
def WantsSay (m : MateD) : Prop := m.ws.length ≤ 10 ∧ W.AllW m.ws m.ws.length
def RunsSay (m : MateD) : Prop := m.rs.length ≤ 20 ∧ AllOk m.ck m.rs m.rs.length
def AskSay (c : Int) (l : List A.AskD) : Prop := l.length ≤ 40 ∧ (A.AscN l l.length ∧ ∀ r ∈ l, A.askB c r = true)
def heldB (r : RunD) : Bool := aliveB r.a || !r.h.toList.isEmpty
def DownSay (m : MateD) : Prop := m.kn = false ∧ m.se = 0 ∧ m.ws.length + m.qs.length + m.gs.length = 0 ∧ ∀ r ∈ m.rs, heldB r = true
/-- A mate is valid. -/
def Valid (m : MateD) : Prop := partsB m = true ∧ (WantsSay m ∧ (m.kn = true ∨ m.ws.length = 0)) ∧ RunsSay m ∧ (AskSay m.ck m.qs ∧ AskSay m.ck m.gs) ∧ (∀ r ∈ m.qs, ¬ A.HasA m.gs r.h) ∧ (m.up = true ∨ DownSay m)
end Go.Proofs.Ytkebokkckmgloaa
