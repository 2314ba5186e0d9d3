import Derived.Test.YtehiopokicegeabJ05
import Derived.Deep.RegionHeld3
import Derived.Laws.Pointers
import Derived.StillTactics
import Derived.Laws.EntriesVeiled
import Derived.Test.YtehiopokicegeabJ01
import Derived.Test.YtehiopokicegeabJ02
import Derived.Laws.AppendOwn
import Derived.Laws.BytesString
/- Books that are ok: the program's look at time and grants. -/
namespace Go.Proofs.Ytehiopokicegeab.P
open Go.RowKit
set_option linter.unusedVariables false

theorem timeOk_any (t : Int) (a1 a2 : Option Addr) (n1 c1 n2 c2 : Nat) (w : World) :
    Calls Try.prog 90 #[.agg #[.int .i64 t, .slice a1 n1 c1, .slice a2 n2 c2]] w fun e w' => e = .returned (.bool (timeB t)) ∧ Below w.heap.size w w' := by
  cases q1 : inB t 0 2000000
  · go_enter Try.func90, Try.ntmps90
    go_wp2_with (go_at_call 100; refine (within_any _ _ _ _).mono ?_; rintro e w' ⟨rfl, rfl⟩)
    go_ret
    exact ⟨ret_b (by simp [timeB, q1]), bl_alloc (Below.refl _ _) _⟩
  · have h0 : 0 ≤ t := by simp [inB] at q1; omega
    by_cases q2 : t % 2 = 0
    · go_enter Try.func90, Try.ntmps90
      go_wp2_with (go_at_call 100; refine (within_any _ _ _ _).mono ?_; rintro e w' ⟨rfl, rfl⟩)
      go_ret
      exact ⟨ret_b (by simp [timeB, q1, q2]), bl_alloc (Below.refl _ _) _⟩
    · go_enter Try.func90, Try.ntmps90
      go_wp2_with (go_at_call 100; refine (within_any _ _ _ _).mono ?_; rintro e w' ⟨rfl, rfl⟩)
      go_ret
      exact ⟨ret_b (by simp [timeB, q1, q2]), bl_alloc (Below.refl _ _) _⟩

set_option maxRecDepth 4000 in
set_option maxHeartbeats 1000000 in
theorem grantOk_any (r : G.GrantD) (t : Int) (w : World) (hf : r.fits) (h0 : 0 ≤ t) (h1 : t ≤ 2000000) :
    Calls Try.prog 134 #[.agg #[.string r.h, .string r.b, .string r.c, .int .i64 r.t, .int .i64 r.u], .int .i64 t] w fun e w' => e = .returned (.bool (grantB t r)) ∧ Below w.heap.size w w' := by
  cases q1 : holdB r.h
  · skip
    go_enter Try.func134, Try.ntmps134
    go_wp2_with (first | (go_at_call 155; refine (implHold_any r.h _ hf.1).mono ?_; rintro e w' ⟨rfl, rfl⟩) | (go_at_call 110; refine (implName_any _ _ (by first | exact hf.2.1 | exact hf.2.2)).mono ?_; rintro e w' ⟨rfl, rfl⟩) | (go_at_call 100; refine (within_any _ _ _ _).mono ?_; rintro e w' ⟨rfl, rfl⟩))
    go_ret
    exact ⟨ret_b (by simp [grantB, *]), bl_alloc (Below.refl _ _) _⟩
  cases q2 : nameB r.b
  · skip
    go_enter Try.func134, Try.ntmps134
    go_wp2_with (first | (go_at_call 155; refine (implHold_any r.h _ hf.1).mono ?_; rintro e w' ⟨rfl, rfl⟩) | (go_at_call 110; refine (implName_any _ _ (by first | exact hf.2.1 | exact hf.2.2)).mono ?_; rintro e w' ⟨rfl, rfl⟩) | (go_at_call 100; refine (within_any _ _ _ _).mono ?_; rintro e w' ⟨rfl, rfl⟩))
    go_ret
    exact ⟨ret_b (by simp [grantB, *]), bl_alloc (Below.refl _ _) _⟩
  cases q3 : nameB r.c
  · skip
    go_enter Try.func134, Try.ntmps134
    go_wp2_with (first | (go_at_call 155; refine (implHold_any r.h _ hf.1).mono ?_; rintro e w' ⟨rfl, rfl⟩) | (go_at_call 110; refine (implName_any _ _ (by first | exact hf.2.1 | exact hf.2.2)).mono ?_; rintro e w' ⟨rfl, rfl⟩) | (go_at_call 100; refine (within_any _ _ _ _).mono ?_; rintro e w' ⟨rfl, rfl⟩))
    go_ret
    exact ⟨ret_b (by simp [grantB, *]), bl_alloc (Below.refl _ _) _⟩
  cases q4 : inB r.t 0 1000000
  · skip
    go_enter Try.func134, Try.ntmps134
    go_wp2_with (first | (go_at_call 155; refine (implHold_any r.h _ hf.1).mono ?_; rintro e w' ⟨rfl, rfl⟩) | (go_at_call 110; refine (implName_any _ _ (by first | exact hf.2.1 | exact hf.2.2)).mono ?_; rintro e w' ⟨rfl, rfl⟩) | (go_at_call 100; refine (within_any _ _ _ _).mono ?_; rintro e w' ⟨rfl, rfl⟩))
    go_ret
    exact ⟨ret_b (by simp [grantB, *]), bl_alloc (Below.refl _ _) _⟩
  go_enter Try.func134, Try.ntmps134
  go_wp2_with (first | (go_at_call 155; refine (implHold_any r.h _ hf.1).mono ?_; rintro e w' ⟨rfl, rfl⟩) | (go_at_call 110; refine (implName_any _ _ (by first | exact hf.2.1 | exact hf.2.2)).mono ?_; rintro e w' ⟨rfl, rfl⟩) | (go_at_call 100; refine (within_any _ _ _ _).mono ?_; rintro e w' ⟨rfl, rfl⟩))
  go_ret
  exact ⟨ret_b (by simp [grantB, *]), bl_alloc (Below.refl _ _) _⟩
theorem closGrant (r : G.GrantD) (t : Int) (bk : Nat) (w : World) (hc : w.cell? ⟨bk, 0, none⟩ = some (.int .i64 t)) (lk : bk < w.heap.size) (hf : r.fits) (h0 : 0 ≤ t) (h1 : t ≤ 2000000) :
    Calls Try.prog 133 #[.agg #[.string r.h, .string r.b, .string r.c, .int .i64 r.t, .int .i64 r.u], .pointer (some ⟨bk, 0, none⟩)] w fun e w' => e = .returned (.bool (grantB t r)) ∧ Below w.heap.size w w' := by
  go_enter Try.func133, Try.ntmps133
  go_wp2_with (go_at_call 134; refine (grantOk_any r t _ hf h0 h1).mono ?_; rintro e w' ⟨rfl, hx⟩)
  go_ret
  exact ⟨rfl, bl_trans (bl_alloc (Below.refl _ _) _) hx⟩
end Go.Proofs.Ytehiopokicegeab.P
/- all and ascends, at wants. -/
namespace Go.Proofs.Ytehiopokicegeab.W
open Go.RowKit
set_option linter.unusedVariables false

set_option maxRecDepth 4000 in
set_option maxHeartbeats 1000000 in
theorem allOk (P : WantD → Bool) (b off cap : Nat) (rs : List WantD) (w : World) (hR : RowsAt w b off rs) (l1 : b < w.heap.size) (hl : rs.length ≤ 1048576)
    (hF : ∀ r ∈ rs, ∀ x, Below w.heap.size w x → Calls Try.prog 97 #[.agg #[.string r.c, .int .i64 r.v, .string r.h, .int .i64 r.p, .int .i64 r.s, .int .i64 r.d, .int .i64 r.g]] x fun e x' => e = .returned (.bool (P r)) ∧ Below x.heap.size x x') :
    Calls Try.prog 162 #[.slice (some ⟨b, off, none⟩) rs.length cap, .func (.func 97) #[] #[]] w fun e w' => (∃ q : Bool, e = .returned (.bool q) ∧ (q = true ↔ ∀ r ∈ rs, P r = true)) ∧ Below w.heap.size w w' := by
  have HF : Hid _ := hF
  clear hF
  go_enter Try.func162, Try.ntmps162
  go_wp2
  go_loopw [9] (fun i wx => ∃ (k : Nat), k ≤ rs.length ∧ i = .int .i64 k ∧ Hid (∀ j r, j < k → rs[j]? = some r → P r = true) ∧ Below w.heap.size w wx) (fun i _ => rs.length - (intOf i).toNat)
  case atStart => exact ⟨0, Nat.zero_le _, rfl, fun j r h => by omega, Below.refl _ _⟩
  case round =>
    obtain ⟨k, hk, rfl, Ha, hB⟩ := hrel
    by_cases hlt : k < rs.length
    · obtain ⟨r, hr⟩ : ∃ r, rs[k]? = some r := ⟨rs[k], List.getElem?_eq_getElem hlt⟩
      have Hr : Hid _ := hr
      clear hr
      obtain ⟨c0, c1, c2, c3, c4, c5, c6⟩ := (hR.keep l1 hB).at Hr.out
      go_wp2_with fail
      refine (HF.out r (List.mem_of_getElem? Hr.out) _ (bl_alloc hB _)).mono ?_
      rintro e w1 ⟨rfl, hb⟩
      have hB1 := bl_trans (bl_alloc hB _) hb
      have Hb1 : Hid _ := hB1
      clear hB hb hB1
      cases hP : P r
      · go_wp2
        go_ret
        exact ⟨⟨false, rfl, ⟨fun h => (by cases h), fun h => by have := h r (List.mem_of_getElem? Hr.out); rw [hP] at this; cases this⟩⟩, Hb1.out⟩
      · go_wp2
        exact ⟨⟨k + 1, by omega, by go_num, (fun j q hj hq => by
          by_cases e : j = k
          · subst e; have hh := Hr.out; rw [hh] at hq; cases hq; exact hP
          · exact Ha.out j q (by omega) hq), Hb1.out⟩, by simp [intOf]; omega⟩
    · go_wp2
      go_ret
      exact ⟨⟨true, rfl, ⟨fun _ r hr => by
        obtain ⟨j, hj⟩ := List.getElem?_of_mem hr
        have hjl : j < rs.length := (List.getElem?_eq_some_iff.1 hj).1
        exact Ha.out j r (by omega) hj, fun _ => rfl⟩⟩, hB⟩

theorem name_any (r : WantD) (w : World) :
    Calls Try.prog 164 #[.agg #[.string r.c, .int .i64 r.v, .string r.h, .int .i64 r.p, .int .i64 r.s, .int .i64 r.d, .int .i64 r.g]] w fun e w' => e = .returned (.string r.c) ∧ Below w.heap.size w w' := by
  go_enter Try.func164, Try.ntmps164
  go_wp2
  go_ret
  exact ⟨rfl, by repeat (first | exact Below.refl _ _ | refine bl_alloc ?_ _)⟩
/-- Ascending by their names, the first n. -/
def AscN (rs : List WantD) (n : Nat) : Prop := ∀ j q r, j + 1 < n → rs[j]? = some q → rs[j + 1]? = some r → Op.bytesLess q.c.toList r.c.toList = true
theorem AscN.step {rs : List WantD} {k : Nat} {q r : WantD} (h : AscN rs (k + 1)) (hq : rs[k]? = some q) (hr : rs[k + 1]? = some r) (hs : Op.bytesLess q.c.toList r.c.toList = true) : AscN rs (k + 1 + 1) := by
  intro j q' r' hj hq' hr'
  by_cases e : j = k
  · subst e; rw [hq] at hq'; rw [hr] at hr'; cases hq'; cases hr'; exact hs
  · exact h j q' r' (by omega) hq' hr'
theorem keepAsc {x w' : World} {b off m : Nat} {rs : List WantD} {r q : WantD} (hk : rs[m + 1]? = some r) (hq : rs[m]? = some q) (h1 : RowsAt x b off rs) (l1 : b < x.heap.size) (hb : Below x.heap.size x w') :
    Below x.heap.size x w' ∧ (w'.cell? ⟨b, off + (m + 1) * 7, none⟩ = some (.string r.c) ∧ w'.cell? ⟨b, off + (m + 1) * 7 + 1, none⟩ = some (.int .i64 r.v) ∧ w'.cell? ⟨b, off + (m + 1) * 7 + 2, none⟩ = some (.string r.h) ∧ w'.cell? ⟨b, off + (m + 1) * 7 + 3, none⟩ = some (.int .i64 r.p) ∧ w'.cell? ⟨b, off + (m + 1) * 7 + 4, none⟩ = some (.int .i64 r.s) ∧ w'.cell? ⟨b, off + (m + 1) * 7 + 5, none⟩ = some (.int .i64 r.d) ∧ w'.cell? ⟨b, off + (m + 1) * 7 + 6, none⟩ = some (.int .i64 r.g)) ∧ (w'.cell? ⟨b, off + m * 7, none⟩ = some (.string q.c) ∧ w'.cell? ⟨b, off + m * 7 + 1, none⟩ = some (.int .i64 q.v) ∧ w'.cell? ⟨b, off + m * 7 + 2, none⟩ = some (.string q.h) ∧ w'.cell? ⟨b, off + m * 7 + 3, none⟩ = some (.int .i64 q.p) ∧ w'.cell? ⟨b, off + m * 7 + 4, none⟩ = some (.int .i64 q.s) ∧ w'.cell? ⟨b, off + m * 7 + 5, none⟩ = some (.int .i64 q.d) ∧ w'.cell? ⟨b, off + m * 7 + 6, none⟩ = some (.int .i64 q.g)) := ⟨hb, (h1.keep l1 hb).at hk, (h1.keep l1 hb).at hq⟩

set_option maxRecDepth 4000 in
set_option maxHeartbeats 2000000 in
theorem ascends (b off cap : Nat) (rs : List WantD) (w : World) (hR : RowsAt w b off rs) (l1 : b < w.heap.size) (hl : rs.length ≤ 1048576) :
    Calls Try.prog 163 #[.slice (some ⟨b, off, none⟩) rs.length cap, .func (.func 164) #[] #[]] w fun e w' => (∃ q : Bool, e = .returned (.bool q) ∧ (q = true ↔ AscN rs rs.length)) ∧ Below w.heap.size w w' := by
  go_enter Try.func163, Try.ntmps163
  go_wp2
  go_loopw [5] (fun i wx => ∃ (m : Nat), m ≤ rs.length ∧ i = .int .i64 ((m : Int) + 1) ∧ Hid (AscN rs (m + 1)) ∧ Below w.heap.size w wx) (fun i _ => rs.length + 1 - (intOf i).toNat)
  case atStart => exact ⟨0, Nat.zero_le _, rfl, (fun j q r hj _ _ => by omega), Below.refl _ _⟩
  case round =>
    obtain ⟨m, hk, rfl, Ha, hB⟩ := hrel
    by_cases hlt : m + 1 < rs.length
    · obtain ⟨r, hr⟩ : ∃ r, rs[m + 1]? = some r := ⟨rs[m + 1], List.getElem?_eq_getElem hlt⟩
      obtain ⟨q, hq⟩ : ∃ q, rs[m]? = some q := ⟨rs[m], List.getElem?_eq_getElem (by omega)⟩
      have Hr : Hid _ := hr
      have Hq : Hid _ := hq
      clear hr hq
      have g1 := hR.keep l1 hB
      have z1 : b < wr.heap.size := Nat.lt_of_lt_of_le l1 hB.size
      have i0 : (0 : Int) ≤ (m : Int) := by omega
      have i1 : (m : Int) + 1 < (rs.length : Int) := by omega
      have i2 : (m : Int) < (rs.length : Int) := by omega
      have i3 : (0 : Int) ≤ (m : Int) + 1 := by omega
      have iw : IntKind.i64.wrap (m : Int) = (m : Int) := by rw [IntKind.wrap_i64]; omega
      cases hasc : Op.bytesLess q.c.toList r.c.toList
      · go_wp2_with fail
        go_region_held3 (fun w' => Below wr.heap.size wr w' ∧ (w'.cell? ⟨b, off + (m + 1) * 7, none⟩ = some (.string r.c) ∧ w'.cell? ⟨b, off + (m + 1) * 7 + 1, none⟩ = some (.int .i64 r.v) ∧ w'.cell? ⟨b, off + (m + 1) * 7 + 2, none⟩ = some (.string r.h) ∧ w'.cell? ⟨b, off + (m + 1) * 7 + 3, none⟩ = some (.int .i64 r.p) ∧ w'.cell? ⟨b, off + (m + 1) * 7 + 4, none⟩ = some (.int .i64 r.s) ∧ w'.cell? ⟨b, off + (m + 1) * 7 + 5, none⟩ = some (.int .i64 r.d) ∧ w'.cell? ⟨b, off + (m + 1) * 7 + 6, none⟩ = some (.int .i64 r.g)) ∧ (w'.cell? ⟨b, off + m * 7, none⟩ = some (.string q.c) ∧ w'.cell? ⟨b, off + m * 7 + 1, none⟩ = some (.int .i64 q.v) ∧ w'.cell? ⟨b, off + m * 7 + 2, none⟩ = some (.string q.h) ∧ w'.cell? ⟨b, off + m * 7 + 3, none⟩ = some (.int .i64 q.p) ∧ w'.cell? ⟨b, off + m * 7 + 4, none⟩ = some (.int .i64 q.s) ∧ w'.cell? ⟨b, off + m * 7 + 5, none⟩ = some (.int .i64 q.d) ∧ w'.cell? ⟨b, off + m * 7 + 6, none⟩ = some (.int .i64 q.g)))
          (first | exact keepAsc Hr.out Hq.out g1 z1 (bl_drew (Below.refl _ _)) | exact keepAsc Hr.out Hq.out g1 z1 (bl_trans (bl_drew (Below.refl _ _)) hx) | exact keepAsc Hr.out Hq.out g1 z1 (bl_trans (bl_trans (bl_drew (Below.refl _ _)) hx) hy))
          (first | (go_at_call 164; refine (name_any q _).mono ?_; rintro e w' ⟨rfl, hx⟩) | (go_at_call 164; refine (name_any r _).mono ?_; rintro e w'' ⟨rfl, hy⟩))
        have y1 := bl_trans (bl_trans (bl_drew (Below.refl _ wr)) hx) hy
        have Hb1 : Hid _ := bl_trans hB y1
        clear hx hy y1 hB g1
        go_wp2
        go_ret
        exact ⟨⟨false, rfl, ⟨fun h => (by cases h), fun h => by have := h m q r (by omega) Hq.out Hr.out; rw [hasc] at this; cases this⟩⟩, Hb1.out⟩
      · go_wp2_with fail
        go_region_held3 (fun w' => Below wr.heap.size wr w' ∧ (w'.cell? ⟨b, off + (m + 1) * 7, none⟩ = some (.string r.c) ∧ w'.cell? ⟨b, off + (m + 1) * 7 + 1, none⟩ = some (.int .i64 r.v) ∧ w'.cell? ⟨b, off + (m + 1) * 7 + 2, none⟩ = some (.string r.h) ∧ w'.cell? ⟨b, off + (m + 1) * 7 + 3, none⟩ = some (.int .i64 r.p) ∧ w'.cell? ⟨b, off + (m + 1) * 7 + 4, none⟩ = some (.int .i64 r.s) ∧ w'.cell? ⟨b, off + (m + 1) * 7 + 5, none⟩ = some (.int .i64 r.d) ∧ w'.cell? ⟨b, off + (m + 1) * 7 + 6, none⟩ = some (.int .i64 r.g)) ∧ (w'.cell? ⟨b, off + m * 7, none⟩ = some (.string q.c) ∧ w'.cell? ⟨b, off + m * 7 + 1, none⟩ = some (.int .i64 q.v) ∧ w'.cell? ⟨b, off + m * 7 + 2, none⟩ = some (.string q.h) ∧ w'.cell? ⟨b, off + m * 7 + 3, none⟩ = some (.int .i64 q.p) ∧ w'.cell? ⟨b, off + m * 7 + 4, none⟩ = some (.int .i64 q.s) ∧ w'.cell? ⟨b, off + m * 7 + 5, none⟩ = some (.int .i64 q.d) ∧ w'.cell? ⟨b, off + m * 7 + 6, none⟩ = some (.int .i64 q.g)))
          (first | exact keepAsc Hr.out Hq.out g1 z1 (bl_drew (Below.refl _ _)) | exact keepAsc Hr.out Hq.out g1 z1 (bl_trans (bl_drew (Below.refl _ _)) hx) | exact keepAsc Hr.out Hq.out g1 z1 (bl_trans (bl_trans (bl_drew (Below.refl _ _)) hx) hy))
          (first | (go_at_call 164; refine (name_any q _).mono ?_; rintro e w' ⟨rfl, hx⟩) | (go_at_call 164; refine (name_any r _).mono ?_; rintro e w'' ⟨rfl, hy⟩))
        have y1 := bl_trans (bl_trans (bl_drew (Below.refl _ wr)) hx) hy
        have Hb1 : Hid _ := bl_trans hB y1
        clear hx hy y1 hB g1
        go_wp2
        exact ⟨⟨m + 1, by omega, by go_num, Ha.out.step Hq.out Hr.out hasc, Hb1.out⟩, by simp [intOf]; omega⟩
    · go_wp2
      go_ret
      exact ⟨⟨true, rfl, ⟨fun _ j q r hj hq hr => Ha.out j q r (by omega) hq hr, fun _ => rfl⟩⟩, hB⟩
end Go.Proofs.Ytehiopokicegeab.W
/- MateWantsOk: the program's side. -/
namespace Go.Proofs.Ytehiopokicegeab.W
open Go.RowKit
set_option linter.unusedVariables false

theorem boxlt {w w1 : World} {o : Obj} (h : Below (w.alloc o).heap.size (w.alloc o) w1) : w.heap.size < w1.heap.size := by have := h.size; simp at this; omega
theorem implWant_q (c h : ByteArray) (v p s d g : Int) (w : World) (hc : c.size ≤ maxLen) (hh : h.size ≤ maxLen) (q : Bool) (hq : wantB c h v p s d g = q) :
    Calls Try.prog 97 #[.agg #[.string c, .int .i64 v, .string h, .int .i64 p, .int .i64 s, .int .i64 d, .int .i64 g]] w fun e w' => e = .returned (.bool q) ∧ Below w.heap.size w w' := by
  rw [← hq]; exact implWant_any c h v p s d g w hc hh

theorem fewWants_any (a : Option Addr) (n cap : Nat) (w : World) :
    Calls Try.prog 149 #[.slice a n cap] w fun e w' => e = .returned (.bool (decide (n ≤ 10))) ∧ w' = w := by
  by_cases h : n ≤ 10
  · go_enter Try.func149, Try.ntmps149
    go_wp2
    go_ret
    exact ⟨ret_b (by simp; omega), rfl⟩
  · go_enter Try.func149, Try.ntmps149
    go_wp2
    go_ret
    exact ⟨ret_b (by simp; omega), rfl⟩

theorem each_iff (ws : List WantD) : Each ws ws.length ↔ ∀ r ∈ ws, r.ok = true := by
  constructor
  · intro h r hr
    obtain ⟨j, hj⟩ := List.getElem?_of_mem hr
    exact h j r (List.getElem?_eq_some_iff.1 hj).1 hj
  · intro h j r _ hr
    exact h r (List.mem_of_getElem? hr)

theorem eachWant (b off cap : Nat) (ws : List WantD) (w : World) (hR : RowsAt w b off ws) (l1 : b < w.heap.size) (hfit : ∀ r ∈ ws, r.fits) (hl : ws.length ≤ 10) :
    Calls Try.prog 150 #[.slice (some ⟨b, off, none⟩) ws.length cap] w fun e w' => (∃ q : Bool, e = .returned (.bool q) ∧ (q = true ↔ Each ws ws.length)) ∧ Below w.heap.size w w' := by
  go_enter Try.func150, Try.ntmps150
  go_wp2_with fail
  refine (allOk (fun r => r.ok) b off cap ws w hR l1 (by omega) (fun r hr x _ => implWant_any r.c r.h r.v r.p r.s r.d r.g x (hfit r hr).1 (hfit r hr).2)).mono ?_
  rintro e w1 ⟨⟨q, rfl, h⟩, hb⟩
  have H : Hid _ := h
  clear h
  go_wp2
  go_ret
  exact ⟨⟨q, rfl, by rw [each_iff]; exact H.out⟩, hb⟩

theorem ascendWants (b off cap : Nat) (ws : List WantD) (w : World) (hR : RowsAt w b off ws) (l1 : b < w.heap.size) (hl : ws.length ≤ 10) :
    Calls Try.prog 151 #[.slice (some ⟨b, off, none⟩) ws.length cap] w fun e w' => (∃ q : Bool, e = .returned (.bool q) ∧ (q = true ↔ Asc ws ws.length)) ∧ Below w.heap.size w w' := by
  go_enter Try.func151, Try.ntmps151
  go_wp2_with fail
  refine (ascends b off cap ws w hR l1 (by omega)).mono ?_
  rintro e w1 ⟨⟨q, rfl, h⟩, hb⟩
  have H : Hid _ := h
  clear h
  go_wp2
  go_ret
  exact ⟨⟨q, rfl, H.out⟩, hb⟩

set_option maxHeartbeats 1000000 in
theorem holdsDiffer (b off : Nat) (ws : List WantD) (w : World) (hR : RowsAt w b off ws) (l1 : b < w.heap.size) (hl : ws.length ≤ 10) :
    Calls Try.prog 139 #[.slice (some ⟨b, off, none⟩) ws.length ws.length] w fun e w' => (∃ q : Bool, e = .returned (.bool q) ∧ (q = true ↔ Diff ws ws.length)) ∧ Below w.heap.size w w' := by
  go_enter Try.func139, Try.ntmps139
  go_wp2
  go_loopw [9] (fun i wx => ∃ (k : Nat), k ≤ ws.length ∧ i = .int .i64 k ∧ Hid (Diff ws k) ∧ Below w.heap.size w wx) (fun i _ => ws.length - (intOf i).toNat)
  case atStart => exact ⟨0, Nat.zero_le _, rfl, fun j r h => by omega, Below.refl _ _⟩
  case round =>
    obtain ⟨k, hk, rfl, Ha, hB⟩ := hrel
    by_cases hlt : k < ws.length
    · obtain ⟨r, hr⟩ : ∃ r, ws[k]? = some r := ⟨ws[k], List.getElem?_eq_getElem hlt⟩
      have Hr : Hid _ := hr
      clear hr
      have i0 : (0 : Int) ≤ (k : Int) := by omega
      have i1 : (k : Int) ≤ (ws.length : Int) := by omega
      obtain ⟨c0, c1, c2, c3, c4, c5, c6⟩ := (hR.keep l1 hB).at Hr.out
      obtain ⟨wo, rfl⟩ : ∃ wo : World, wo = wr := ⟨_, rfl⟩
      go_wp2_with fail
      clear c0 c1 c2 c3 c4 c5 c6
      go_loopw [18] (fun j wx => ∃ (n : Nat), n ≤ k ∧ j = .int .i64 n ∧ Hid (NoneOf ws r n) ∧ Below (wo.alloc (.cells #[.string r.c, .int .i64 r.v, .string r.h, .int .i64 r.p, .int .i64 r.s, .int .i64 r.d, .int .i64 r.g] 37)).heap.size (wo.alloc (.cells #[.string r.c, .int .i64 r.v, .string r.h, .int .i64 r.p, .int .i64 r.s, .int .i64 r.d, .int .i64 r.g] 37)) wx) (fun j _ => k - (intOf j).toNat)
      case atStart => exact ⟨0, Nat.zero_le _, rfl, fun i q h => by omega, Below.refl _ _⟩
      case round =>
        obtain ⟨n, hn, rfl, Hn, hBn⟩ := hrel
        have bo : Below w.heap.size w wr := bl_trans (bl_trans hB (bl_alloc (Below.refl _ _) _)) hBn
        by_cases hnl : n < k
        · obtain ⟨t, ht⟩ : ∃ t, ws[n]? = some t := ⟨ws[n], List.getElem?_eq_getElem (by omega)⟩
          have Ht : Hid _ := ht
          clear ht
          have j0 : (0 : Int) ≤ (n : Int) := by omega
          have j1 : (n : Int) < (k : Int) := by omega
          obtain ⟨c0, c1, c2, c3, c4, c5, c6⟩ := (hR.keep l1 bo).at Ht.out
          have hkb := box_keep hBn
          have hzb := boxlt hBn
          cases he : r.h.toList.isEmpty
          · cases hcl : (t.h.toList == r.h.toList)
            · go_wp2
              exact ⟨⟨n + 1, by omega, by go_num, NoneOf.step Hn.out Ht.out (by simp [clash, he, hcl]), bl_trans hBn (bl_alloc (Below.refl _ _) _)⟩, by simp [intOf]; omega⟩
            · go_wp2
              go_ret
              exact ⟨⟨false, rfl, ⟨fun h => (by cases h), fun h => by have := h k r hlt Hr.out n t hnl Ht.out; simp [clash, he, hcl] at this⟩⟩, bl_alloc bo _⟩
          · go_wp2
            exact ⟨⟨n + 1, by omega, by go_num, NoneOf.step Hn.out Ht.out (by simp [clash, he]), bl_trans hBn (bl_alloc (Below.refl _ _) _)⟩, by simp [intOf]; omega⟩
        · have hne : n = k := by omega
          subst hne
          go_wp2
          exact ⟨⟨n + 1, by omega, by go_num, Ha.out.step Hr.out Hn.out, bo⟩, by simp [intOf]; omega⟩
    · go_wp2
      go_ret
      exact ⟨⟨true, rfl, ⟨fun _ j r hj hr => Ha.out j r (by omega) hr, fun _ => rfl⟩⟩, hB⟩

theorem build_all (w : World) : Sem.run Try.prog (Instr.buildSlice 170 4 #[(0, .func (.func 149) #[] #[]), (1, .func (.func 150) #[] #[]), (2, .func (.func 151) #[] #[]), (3, .func (.func 139) #[] #[])]) w = .ok (.slice (some ⟨w.heap.size, 0, none⟩) 4 4) (w.alloc (.cells #[.func (.func 149) #[] #[], .func (.func 150) #[] #[], .func (.func 151) #[] #[], .func (.func 139) #[] #[]] 102)) := by kernel_rfl

set_option maxHeartbeats 1000000 in
theorem implWantsOk (b off : Nat) (ws : List WantD) (w : World) (hR : RowsAt w b off ws) (l1 : b < w.heap.size) (hfit : ∀ r ∈ ws, r.fits) (hl : ws.length ≤ 1048576) :
    Calls Try.prog 111 #[.slice (some ⟨b, off, none⟩) ws.length ws.length] w fun e w' => (∃ q : Bool, e = .returned (.bool q) ∧ Says q ws) ∧ Below w.heap.size w w' := by
  have hba := build_all
  by_cases h10 : ws.length ≤ 10
  · go_enter Try.func111, Try.ntmps111
    go_wp2_with go_in
    clear hba
    refine wp_loop_rounds 5 ?_
    rw [rounds_succ]
    go_wp2_with fail
    refine (fewWants_any _ _ _ _).mono ?_
    rintro e w1 ⟨rfl, rfl⟩
    have d10 : decide (ws.length ≤ 10) = true := by simpa using h10
    go_wp2_with fail
    rw [rounds_succ]
    go_wp2_with fail
    have R0 := hR.keep l1 (bl_alloc (Below.refl _ _) (.cells #[.func (.func 149) #[] #[], .func (.func 150) #[] #[], .func (.func 151) #[] #[], .func (.func 139) #[] #[]] 102))
    have z0 : b < (w.alloc (.cells #[.func (.func 149) #[] #[], .func (.func 150) #[] #[], .func (.func 151) #[] #[], .func (.func 139) #[] #[]] 102)).heap.size := by simp; omega
    refine (eachWant b off _ ws _ R0 z0 hfit h10).mono ?_
    rintro e w2 ⟨⟨q2, rfl, h2⟩, b2⟩
    have k2 := box_keep b2
    cases q2
    · go_wp2
      go_ret
      exact ⟨⟨false, rfl, says_no (fun _ h => by have := h2.2 h.1; cases this)⟩, bl_trans (bl_alloc (Below.refl _ _) _) b2⟩
    have e2 : Hid _ := h2.1 rfl
    clear h2
    go_wp2_with fail
    rw [rounds_succ]
    go_wp2_with fail
    have R2 := R0.keep z0 b2
    have z2 : b < w2.heap.size := Nat.lt_of_lt_of_le z0 b2.size
    refine (ascendWants b off _ ws _ R2 z2 h10).mono ?_
    rintro e w3 ⟨⟨q3, rfl, h3⟩, b3⟩
    have b3' := bl_trans b2 b3
    clear k2
    have k3 := box_keep b3'
    cases q3
    · go_wp2
      go_ret
      exact ⟨⟨false, rfl, says_no (fun _ h => by have := h3.2 h.2.1; cases this)⟩, bl_trans (bl_alloc (Below.refl _ _) _) b3'⟩
    have e3 : Hid _ := h3.1 rfl
    clear h3
    go_wp2_with fail
    rw [rounds_succ]
    go_wp2_with fail
    have R3 := R2.keep z2 b3
    have z3 : b < w3.heap.size := Nat.lt_of_lt_of_le z2 b3.size
    refine (holdsDiffer b off ws _ R3 z3 h10).mono ?_
    rintro e w4 ⟨⟨q4, rfl, h4⟩, b4⟩
    have b4' := bl_trans b3' b4
    clear k3
    cases q4
    · go_wp2
      go_ret
      exact ⟨⟨false, rfl, says_no (fun _ h => by have := h4.2 h.2.2; cases this)⟩, bl_trans (bl_alloc (Below.refl _ _) _) b4'⟩
    have e4 : Hid _ := h4.1 rfl
    clear h4
    go_wp2_with fail
    rw [rounds_succ]
    go_wp2
    go_ret
    exact ⟨⟨true, rfl, says_yes ⟨e2.out, e3.out, e4.out⟩ (Nat.le_refl _) h10⟩, bl_trans (bl_alloc (Below.refl _ _) _) b4'⟩
  · go_enter Try.func111, Try.ntmps111
    go_wp2_with go_in
    clear hba
    refine wp_loop_rounds 1 ?_
    rw [rounds_succ]
    go_wp2_with fail
    refine (fewWants_any _ _ _ _).mono ?_
    rintro e w1 ⟨rfl, rfl⟩
    have d10 : decide (ws.length ≤ 10) = false := by simpa using h10
    go_wp2
    go_ret
    exact ⟨⟨false, rfl, says_no (fun h _ => h10 h)⟩, bl_alloc (Below.refl _ _) _⟩
end Go.Proofs.Ytehiopokicegeab.W
/- Books that are ok: the program's look at grants and places. -/
namespace Go.Proofs.Ytehiopokicegeab.P
open Go.RowKit
set_option linter.unusedVariables false

def SaysG (q : Bool) (t : Int) (gs : List G.GrantD) : Prop := q = true ↔ GrantsSay t gs
def SaysP (q : Bool) (ps : List PlaceD) : Prop := q = true ↔ PlacesSay ps
def SaysF (q : Bool) (b : ByteArray) (s : Int) (ws : List W.WantD) : Prop := q = true ↔ nameB b = true ∧ (inB s 1 1000000 = true ∧ (ws.length ≤ 10 ∧ W.AllW ws ws.length))
theorem ml_box {w w' : World} {t : Int} {gs : List G.GrantD} {ps : List PlaceD} {b1 b2 : Nat} (hb : Below (w.alloc (.cells #[.int .i64 t, .slice (some ⟨b1, 0, none⟩) gs.length gs.length, .slice (some ⟨b2, 0, none⟩) ps.length ps.length] 72)).heap.size (w.alloc (.cells #[.int .i64 t, .slice (some ⟨b1, 0, none⟩) gs.length gs.length, .slice (some ⟨b2, 0, none⟩) ps.length ps.length] 72)) w') : (∀ k, w'.cell? ⟨w.heap.size, k, none⟩ = (#[.int .i64 t, .slice (some ⟨b1, 0, none⟩) gs.length gs.length, .slice (some ⟨b2, 0, none⟩) ps.length ps.length] : Array Value)[k]?) ∧ w.heap.size < w'.heap.size := by
  constructor
  · intro k
    rw [hb.cell (p := ⟨w.heap.size, k, none⟩) (by simp)]
    simp [go_sem]
  · have := hb.size; simp at this; omega

set_option maxRecDepth 4000 in
set_option maxHeartbeats 1000000 in
theorem grantsOk_any (t : Int) (gs : List G.GrantD) (ps : List PlaceD) (b1 b2 : Nat) (w : World) (hA : LandAt w gs ps b1 b2) (hF : Fit gs ps) (h0 : 0 ≤ t) (h1 : t ≤ 2000000) :
    Calls Try.prog 91 #[.agg #[.int .i64 t, .slice (some ⟨b1, 0, none⟩) gs.length gs.length, .slice (some ⟨b2, 0, none⟩) ps.length ps.length]] w fun e w' => (∃ q : Bool, e = .returned (.bool q) ∧ SaysG q t gs) ∧ Below w.heap.size w w' := by
  have HA : Hid (LandAt w gs ps b1 b2) := hA
  have HF : Hid (Fit gs ps) := hF
  have hgl := hF.gl
  clear hA hF
  by_cases h40 : gs.length ≤ 40
  · have hi40 : (gs.length : Int) ≤ 40 := by omega
    go_enter Try.func91, Try.ntmps91
    go_wp2_with fail
    have hb0 : Below w.heap.size w (w.alloc (.cells #[.int .i64 t, .slice (some ⟨b1, 0, none⟩) gs.length gs.length, .slice (some ⟨b2, 0, none⟩) ps.length ps.length] 72)) := bl_alloc (Below.refl _ _) _
    refine (G.ascends b1 0 gs.length gs _ (HA.out.keep hb0).g (HA.out.keep hb0).g1 hgl).mono ?_
    rintro e w1 ⟨⟨q1, rfl, k1⟩, c1⟩
    have B1 : Hid (Below w.heap.size w w1) := bl_trans hb0 c1
    have H0 : Hid _ := k1
    obtain ⟨kb, kz⟩ := ml_box c1
    clear k1 hb0 c1
    cases q1
    · go_wp2
      go_ret
      exact ⟨⟨false, rfl, ⟨fun h => (by cases h), fun h => by have := H0.out.2 h.2.1; cases this⟩⟩, B1.out⟩
    · have H1 : Hid _ := H0.out.1 rfl
      have Hck : Hid (w1.cell? ⟨w.heap.size, 0, none⟩ = some (.int .i64 t)) := kb 0
      clear H0
      go_wp2_with fail
      refine (G.allOk w.heap.size (grantB t) b1 0 gs.length gs w1 (HA.out.keep B1.out).g (HA.out.keep B1.out).g1 hgl (fun r hr x hx => closGrant r t w.heap.size x ((hx.cell (p := ⟨w.heap.size, 0, none⟩) kz).trans Hck.out) (Nat.lt_of_lt_of_le kz hx.size) (HF.out.g r hr) h0 h1)).mono ?_
      rintro e w2 ⟨⟨q2, rfl, k2⟩, c2⟩
      have B2 : Hid _ := bl_trans B1.out c2
      have H2 : Hid _ := k2
      clear c2 k2 kb
      go_wp2
      go_ret
      exact ⟨⟨q2, rfl, ⟨fun h => ⟨h40, H1.out, H2.out.1 h⟩, fun h => H2.out.2 h.2.2⟩⟩, B2.out⟩
  · have hi40 : (40 : Int) < (gs.length : Int) := by omega
    have H40 : Hid _ := h40
    clear h40
    go_enter Try.func91, Try.ntmps91
    go_wp2
    go_ret
    first
    | exact ⟨Or.inl ⟨rfl, ⟨fun h => (by cases h), fun h => absurd h.1 H40.out⟩⟩, bl_alloc (Below.refl _ _) _⟩
    | exact ⟨⟨false, rfl, ⟨fun h => (by cases h), fun h => absurd h.1 H40.out⟩⟩, bl_alloc (Below.refl _ _) _⟩

set_option maxRecDepth 4000 in
set_option maxHeartbeats 1000000 in
theorem placeOk_q (b : ByteArray) (s : Int) (g : Nat) (ws : List W.WantD) (w : World) (hb : b.size ≤ maxLen) (hg : g < w.heap.size) (hR : W.RowsAt w g 0 ws) (hfit : ∀ r ∈ ws, r.fits) (hl : ws.length ≤ 1048576) :
    Calls Try.prog 138 #[.agg #[.string b, .int .i64 s, .slice (some ⟨g, 0, none⟩) ws.length ws.length]] w fun e w' => (∃ q : Bool, e = .returned (.bool q) ∧ SaysF q b s ws) ∧ Below w.heap.size w w' := by
  have HR : Hid (W.RowsAt w g 0 ws) := hR
  have HF : Hid _ := hfit
  clear hR hfit
  have hb0 : Hid (Below w.heap.size w (w.alloc (.cells #[.string b, .int .i64 s, .slice (some ⟨g, 0, none⟩) ws.length ws.length] 151))) := bl_alloc (Below.refl _ _) _
  cases q1 : nameB b
  · go_enter Try.func138, Try.ntmps138
    go_wp2_with (first | (go_at_call 110; refine (implName_any _ _ hb).mono ?_; rintro e w' ⟨rfl, rfl⟩) | (go_at_call 100; refine (within_any _ _ _ _).mono ?_; rintro e w' ⟨rfl, rfl⟩))
    go_ret
    exact ⟨⟨false, rfl, ⟨fun h => (by cases h), fun h => by have := h.1; rw [q1] at this; cases this⟩⟩, hb0.out⟩
  cases q2 : inB s 1 1000000
  · go_enter Try.func138, Try.ntmps138
    go_wp2_with (first | (go_at_call 110; refine (implName_any _ _ hb).mono ?_; rintro e w' ⟨rfl, rfl⟩) | (go_at_call 100; refine (within_any _ _ _ _).mono ?_; rintro e w' ⟨rfl, rfl⟩))
    go_ret
    exact ⟨⟨false, rfl, ⟨fun h => (by cases h), fun h => by have := h.2.1; rw [q2] at this; cases this⟩⟩, hb0.out⟩
  · go_enter Try.func138, Try.ntmps138
    go_wp2_with (first | (go_at_call 110; refine (implName_any _ _ hb).mono ?_; rintro e w' ⟨rfl, rfl⟩) | (go_at_call 100; refine (within_any _ _ _ _).mono ?_; rintro e w' ⟨rfl, rfl⟩))
    refine (W.implWantsOk g 0 ws _ (HR.out.keep hg hb0.out) (Nat.lt_of_lt_of_le hg hb0.out.size) HF.out hl).mono ?_
    rintro e w1 ⟨⟨q, rfl, k⟩, c⟩
    have K : Hid _ := k
    have B1 : Hid _ := bl_trans hb0.out c
    clear k c
    go_wp2
    go_ret
    exact ⟨⟨q, rfl, ⟨fun h => ⟨q1, q2, K.out.1 h⟩, fun h => K.out.2 h.2.2⟩⟩, B1.out⟩
open Classical in
noncomputable def fineB (r : PlaceD) : Bool := decide r.fine
theorem fineB_iff (r : PlaceD) : fineB r = true ↔ r.fine := by
  classical
  unfold fineB
  exact decide_eq_true_iff
theorem fineB_of {r : PlaceD} {q : Bool} (k : q = true ↔ r.fine) : q = fineB r := by
  have h := k.trans (fineB_iff r).symm
  cases q <;> cases hf : fineB r <;> simp_all
theorem placeOk_any (r : PlaceD) (w : World) (hk : r.blk 0 w) (hb : r.b.size ≤ maxLen) (hfit : ∀ q ∈ r.ws, q.fits) (hl : r.ws.length ≤ 1048576) :
    Calls Try.prog 138 #[.agg #[.string r.b, .int .i64 r.s, .slice r.a r.ws.length r.c]] w fun e w' => e = .returned (.bool (fineB r)) ∧ Below w.heap.size w w' := by
  obtain ⟨b, s, a, c, ws⟩ := r
  obtain ⟨g, e1, e2, -, h3, h4⟩ := hk
  simp only at e1 e2 hb hfit hl h4
  subst e1 e2
  refine (placeOk_q b s g ws w hb h3 h4 hfit hl).mono ?_
  rintro e w' ⟨⟨q, rfl, k⟩, c⟩
  refine ⟨?_, c⟩
  have : q = fineB ⟨b, s, some ⟨g, 0, none⟩, ws.length, ws⟩ := fineB_of k
  rw [this]

set_option maxRecDepth 4000 in
set_option maxHeartbeats 1000000 in
theorem placesOk_any (t : Int) (gs : List G.GrantD) (ps : List PlaceD) (b1 b2 : Nat) (w : World) (hA : LandAt w gs ps b1 b2) (hF : Fit gs ps) :
    Calls Try.prog 92 #[.agg #[.int .i64 t, .slice (some ⟨b1, 0, none⟩) gs.length gs.length, .slice (some ⟨b2, 0, none⟩) ps.length ps.length]] w fun e w' => (∃ q : Bool, e = .returned (.bool q) ∧ SaysP q ps) ∧ Below w.heap.size w w' := by
  have HA : Hid (LandAt w gs ps b1 b2) := hA
  have HF : Hid (Fit gs ps) := hF
  have hpl := hF.pl
  clear hA hF
  by_cases h4 : ps.length ≤ 4
  · have hi4 : (ps.length : Int) ≤ 4 := by omega
    go_enter Try.func92, Try.ntmps92
    go_wp2_with fail
    have hb0 : Below w.heap.size w (w.alloc (.cells #[.int .i64 t, .slice (some ⟨b1, 0, none⟩) gs.length gs.length, .slice (some ⟨b2, 0, none⟩) ps.length ps.length] 72)) := bl_alloc (Below.refl _ _) _
    refine (ascends b2 0 ps.length ps _ (HA.out.keep hb0).p (HA.out.keep hb0).p1 hpl).mono ?_
    rintro e w1 ⟨⟨q1, rfl, k1⟩, c1⟩
    have B1 : Hid (Below w.heap.size w w1) := bl_trans hb0 c1
    have H0 : Hid _ := k1
    obtain ⟨kb, kz⟩ := ml_box c1
    clear k1 hb0 c1
    cases q1
    · go_wp2
      go_ret
      exact ⟨⟨false, rfl, ⟨fun h => (by cases h), fun h => by have := H0.out.2 h.2.1; cases this⟩⟩, B1.out⟩
    · have H1 : Hid _ := H0.out.1 rfl
      clear H0
      go_wp2_with fail
      refine (allOk fineB b2 0 ps.length ps w1 (HA.out.keep B1.out).p (HA.out.keep B1.out).p1 hpl (fun r hr x hx => placeOk_any r x (((HA.out.keep B1.out).k r hr).keep hx) (HF.out.p r hr).1 (HF.out.p r hr).2 (HF.out.ln r hr))).mono ?_
      rintro e w2 ⟨⟨q2, rfl, k2⟩, c2⟩
      have B2 : Hid _ := bl_trans B1.out c2
      have H2 : Hid _ := k2
      clear c2 k2 kb
      go_wp2
      go_ret
      exact ⟨⟨q2, rfl, ⟨fun h => ⟨h4, H1.out, fun p hp => (fineB_iff p).1 (H2.out.1 h p hp)⟩, fun h => H2.out.2 (fun p hp => (fineB_iff p).2 (h.2.2 p hp))⟩⟩, B2.out⟩
  · have hi4 : (4 : Int) < (ps.length : Int) := by omega
    have H4 : Hid _ := h4
    clear h4
    go_enter Try.func92, Try.ntmps92
    go_wp2
    go_ret
    first
    | exact ⟨Or.inl ⟨rfl, ⟨fun h => (by cases h), fun h => absurd h.1 H4.out⟩⟩, bl_alloc (Below.refl _ _) _⟩
    | exact ⟨⟨false, rfl, ⟨fun h => (by cases h), fun h => absurd h.1 H4.out⟩⟩, bl_alloc (Below.refl _ _) _⟩
end Go.Proofs.Ytehiopokicegeab.P
/- A list of runs in a row that the call itself made. -/
namespace Go.Proofs.Ytehiopokicegeab.W
open Go.RowKit
set_option linter.unusedVariables false

def flatR (rs : List WantD) : List Value := rs.flatMap WantD.cells
theorem flatR_len : ∀ rs : List WantD, (flatR rs).length = rs.length * 7
  | [] => rfl
  | r :: rs => by
    have := flatR_len rs
    simp only [flatR, List.flatMap_cons, List.length_append] at this ⊢
    simp only [this, List.length_cons]
    show 7 + rs.length * 7 = _
    omega
theorem flatR_snoc (rs : List WantD) (r : WantD) : flatR (rs ++ [r]) = flatR rs ++ r.cells := by simp [flatR]
theorem flatR_at : ∀ (rs : List WantD) (k : Nat) (r : WantD), rs[k]? = some r → ∀ j, j < 7 → (flatR rs)[k * 7 + j]? = r.cells[j]?
  | [], k, r, h, j, hj => by simp at h
  | q :: rs, 0, r, h, j, hj => by
    simp at h; subst h
    rw [flatR, List.flatMap_cons, List.getElem?_append_left (by show _ < 7; omega)]
    simp
  | q :: rs, k + 1, r, h, j, hj => by
    have ih := flatR_at rs k r (by simpa using h) j hj
    rw [flatR, List.flatMap_cons, List.getElem?_append_right (by show 7 ≤ _; omega)]
    rw [← ih]
    show (flatR rs)[(k + 1) * 7 + j - 7]? = _
    rw [show (k + 1) * 7 + j - 7 = k * 7 + j from by omega]
theorem flatR_one (rs : List WantD) : ∀ u ∈ flatR rs, u.oneCell' = true := by
  intro u hu
  obtain ⟨r, -, h⟩ := List.mem_flatMap.1 hu
  simp [WantD.cells] at h
  rcases h with rfl | rfl | rfl | rfl | rfl | rfl | rfl <;> rfl

theorem rows_of_owns {w : World} {base : Nat} {v : Value} {rs : List WantD} (h : w.ownsRow base 37 7 v rs.length (flatR rs)) :
    (v = .slice none 0 0 ∧ rs = []) ∨ ∃ g cap, v = .slice (some ⟨g, 0, none⟩) rs.length cap ∧ base ≤ g ∧ g < w.heap.size ∧ RowsAt w g 0 rs ∧ w.there g 0 (rs.length * 7) := by
  obtain ⟨hl, ⟨rfl, hn⟩ | ⟨g, cap, cur, rfl, hb, hg, hnc, hcm, hcs, htk⟩⟩ := h
  · exact Or.inl ⟨rfl, List.length_eq_zero_iff.1 hn⟩
  · refine Or.inr ⟨g, cap, rfl, hb, (Array.getElem?_eq_some_iff.1 hg).1, ?_, ?_⟩
    · intro k r hk j u hj
      have hjn : j < 7 := by
        rcases Nat.lt_or_ge j 7 with h' | h'
        · exact h'
        · rw [List.getElem?_eq_none (by simpa [WantD.cells] using h')] at hj; cases hj
      have hf := flatR_at rs k r hk j hjn
      rw [hj, ← htk, List.getElem?_take] at hf
      split at hf
      · rw [cell_of_row w g _ cur _ (0, 0) hg, Nat.zero_add]
        simpa using hf
      · cases hf
    · intro j hj
      have hlt : j < cur.size := by
        have : rs.length * 7 ≤ cap * 7 := Nat.mul_le_mul_right 7 hnc
        omega
      refine ⟨?_, ?_⟩
      · rw [cell_of_row w g _ cur _ (0, 0) hg, Nat.zero_add]
        simp [Array.getElem?_eq_getElem hlt]
      · simp [World.frozen?, hg]

theorem owns_below {x y : World} {base : Nat} {e : TypeId} {size : Nat} {v : Value} {n : Nat} {xs : List Value} (h : x.ownsRow base e size v n xs) (hb : Below x.heap.size x y) : y.ownsRow base e size v n xs :=
  h.kept (row := none) ⟨hb.os, hb.tape, hb.output, hb.size, fun k hk _ => hb.block k hk⟩ (by cases hv : v.ownBlock <;> simp)
theorem owns_ge {x : World} {base : Nat} {e : TypeId} {size : Nat} {v : Value} {n : Nat} {xs : List Value} (h : x.ownsRow base e size v n xs) : ∀ k, v.ownBlock = some k → base ≤ k := fun k hk => (h.lt k hk).1
theorem new_cells (x : World) (N : Nat) (hN : N = x.heap.size) (arr : Array Value) (t : TypeId) (vs : List Value) (hv : arr.toList = vs) : ∀ j u, vs[j]? = some u → (x.alloc (.cells arr t)).cell? ((⟨N, 0, none⟩ : Addr).add j) = some u := by
  intro j u hj
  subst hN hv
  rw [Addr.add_mid, Nat.zero_add, World.cell?_alloc_new]
  simpa using hj
theorem cellsR_one (r : WantD) : ∀ u ∈ r.cells, u.oneCell' = true := fun u hu => flatR_one [r] u (by simpa [flatR] using hu)
theorem infoR : (Try.prog.info? 37).map (fun i => (i.zero, i.size, i.bytes)) = some (some (.agg #[.string ⟨#[]⟩, .int .i64 0, .string ⟨#[]⟩, .int .i64 0, .int .i64 0, .int .i64 0, .int .i64 0]), 7, 72) := by kernel_rfl
end Go.Proofs.Ytehiopokicegeab.W
/- Marks: the text of a number. -/
namespace Go.Proofs.Ytehiopokicegeab
open Go.RowKit
set_option linter.unusedVariables false

def mkGo : Nat → Int → ByteArray → ByteArray
  | 0, _, s => s
  | f + 1, k, s => if 0 < k then mkGo f (k / 10) ({ data := #[UInt8.ofNat (48 + k % 10).toNat] } ++ s) else s
/-- The text of a mark. -/
def markB (k : Int) : ByteArray := if k ≤ 0 then { data := #[109, 48] } else { data := #[109] } ++ mkGo 13 k { data := #[] }
theorem mkGo_end (f : Nat) (k : Int) (s : ByteArray) (h : k ≤ 0) : mkGo f k s = s := by
  cases f with
  | zero => rfl
  | succ f => exact if_neg (by omega)
theorem mkGo_step (f : Nat) (k : Int) (s : ByteArray) (h : 0 < k) : mkGo (f + 1) k s = mkGo f (k / 10) ({ data := #[UInt8.ofNat (48 + k % 10).toNat] } ++ s) := if_pos h

theorem size_front (c : UInt8) (t : ByteArray) : (({ data := #[c] } : ByteArray) ++ t).size = 1 + t.size := by rw [ByteArray.size_append']; rfl

theorem build_byte (n : Int) (w : World) : Sem.run Try.prog (Instr.buildSlice 129 1 #[(0, .int .u8 n)]) w = .ok (.slice (some ⟨w.heap.size, 0, none⟩) 1 1) (w.alloc (.cells #[.int .u8 n] 5)) := by kernel_rfl
theorem conv_byte (n : Int) (w : World) : Sem.run Try.prog (convert 129 9 (.slice (some ⟨w.heap.size, 0, none⟩) 1 1)) (w.alloc (.cells #[.int .u8 n] 5)) = .ok (.string ⟨#[UInt8.ofNat n.toNat]⟩) (w.alloc (.cells #[.int .u8 n] 5)) := by
  rw [run_convert_bytes_string _ _ _ 5 _ _ _ Try.underlying129 Try.underlying5 Try.underlying9]
  rw [run_bytesToString _ _ _ _ [n] (by simp [loadCells, go_sem])]
  rfl

theorem markText_any (k : Int) (hk : k ≤ 1000000000000) (w : World) : Calls Try.prog 53 #[.int .i64 k] w fun e w' => e = .returned (.string (markB k)) ∧ Below w.heap.size w w' := by
  by_cases h0 : k ≤ 0
  · have Hm : Hid (markB k = { data := #[109, 48] }) := if_pos h0
    go_enter Try.func53, Try.ntmps53
    go_wp2
    go_ret
    exact ⟨by rw [Hm.out]; rfl, Below.refl _ _⟩
  · have Hm : Hid (markB k = { data := #[109] } ++ mkGo 13 k { data := #[] }) := if_neg h0
    have hb := build_byte
    have hc := conv_byte
    go_enter Try.func53, Try.ntmps53
    go_wp2
    go_loopw [0, 3] (fun i s wx => ∃ (n : Int) (t : ByteArray), 0 ≤ n ∧ n ≤ 1000000000000 ∧ t.size ≤ 20 ∧ i = .int .i64 n ∧ s = .string t ∧ Hid (∃ f : Nat, n < (10 : Int) ^ f ∧ t.size + f ≤ 20 ∧ mkGo f n t = mkGo 13 k { data := #[] }) ∧ Below w.heap.size w wx) (fun i _ _ => (intOf i).toNat)
    case atStart => exact ⟨k, _, by omega, hk, by decide, rfl, rfl, ⟨13, by omega, by decide, rfl⟩, Below.refl _ _⟩
    case round =>
      obtain ⟨n, t, n0, n1, t1, rfl, rfl, Hf, hB⟩ := hrel
      by_cases hlt : 0 < n
      · go_wp2
        have hs : ∃ f : Nat, n / 10 < (10 : Int) ^ f ∧ 1 + t.size + f ≤ 20 ∧ mkGo f (n / 10) ({ data := #[UInt8.ofNat (48 + n % 10).toNat] } ++ t) = mkGo 13 k { data := #[] } := by
          obtain ⟨f, f1, f2, f3⟩ := Hf.out
          cases f with
          | zero => simp at f1; omega
          | succ f => exact ⟨f, by rw [Int.pow_succ] at f1; omega, by omega, by rw [← mkGo_step f n t hlt]; exact f3⟩
        obtain ⟨f, f1, f2, f3⟩ := hs
        exact ⟨⟨n / 10, _, by omega, by omega, by rw [size_front]; omega, rfl, rfl, ⟨f, f1, by rw [size_front]; omega, f3⟩, bl_alloc hB _⟩, by simp [intOf]; omega⟩
      · go_wp2
        go_ret
        obtain ⟨f, f1, f2, f3⟩ := Hf.out
        rw [mkGo_end f n t (by omega)] at f3
        exact ⟨by rw [Hm.out, ← f3]; rfl, hB⟩
end Go.Proofs.Ytehiopokicegeab
