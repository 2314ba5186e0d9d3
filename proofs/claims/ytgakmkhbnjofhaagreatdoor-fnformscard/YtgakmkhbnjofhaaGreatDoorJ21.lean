import Derived.Test.YtgakmkhbnjofhaaGreatDoorJ07
import Derived.Deep.RegionHeld3
import Derived.Laws.Pointers
import Derived.StillTactics
import Derived.Laws.EntriesVeiled
import Derived.Test.YtgakmkhbnjofhaaGreatDoorJ20
import Derived.Test.YtgakmkhbnjofhaaGreatDoorJ19
/- all and ascends, at wants. -/
namespace Go.Proofs.YtgakmkhbnjofhaaGreatDoor.W
open Go.RowKit
set_option linter.unusedVariables false

set_option maxRecDepth 4000 in
set_option maxHeartbeats 1000000 in
theorem allOk (P : WantD → Bool) (b off cap : Nat) (rs : List WantD) (w : World) (hR : RowsAt w b off rs) (l1 : b < w.heap.size) (hl : rs.length ≤ 1048576)
    (hF : ∀ r ∈ rs, ∀ x, Below w.heap.size w x → Calls Tryz.prog 62 #[.agg #[.string r.c, .int .i64 r.v, .string r.h, .int .i64 r.p, .int .i64 r.s, .int .i64 r.d, .int .i64 r.g]] x fun e x' => e = .returned (.bool (P r)) ∧ Below x.heap.size x x') :
    Calls Tryz.prog 61 #[.slice (some ⟨b, off, none⟩) rs.length cap, .func (.func 62) #[] #[]] w fun e w' => (∃ q : Bool, e = .returned (.bool q) ∧ (q = true ↔ ∀ r ∈ rs, P r = true)) ∧ Below w.heap.size w w' := by
  have HF : Hid _ := hF
  clear hF
  go_enter Tryz.func61, Tryz.ntmps61
  go_wp2
  go_loopw [9] (fun i wx => ∃ (k : Nat), k ≤ rs.length ∧ i = .int .i64 k ∧ Hid (∀ j r, j < k → rs[j]? = some r → P r = true) ∧ Below w.heap.size w wx) (fun i _ => rs.length - (intOf i).toNat)
  case atStart => exact ⟨0, Nat.zero_le _, rfl, fun j r h => by omega, Below.refl _ _⟩
  case round =>
    obtain ⟨k, hk, rfl, Ha, hB⟩ := hrel
    by_cases hlt : k < rs.length
    · obtain ⟨r, hr⟩ : ∃ r, rs[k]? = some r := ⟨rs[k], List.getElem?_eq_getElem hlt⟩
      have Hr : Hid _ := hr
      clear hr
      obtain ⟨c0, c1, c2, c3, c4, c5, c6⟩ := (hR.keep l1 hB).at Hr.out
      go_wp2_with fail
      refine (HF.out r (List.mem_of_getElem? Hr.out) _ (bl_alloc hB _)).mono ?_
      rintro e w1 ⟨rfl, hb⟩
      have hB1 := bl_trans (bl_alloc hB _) hb
      have Hb1 : Hid _ := hB1
      clear hB hb hB1
      cases hP : P r
      · go_wp2
        go_ret
        exact ⟨⟨false, rfl, ⟨fun h => (by cases h), fun h => by have := h r (List.mem_of_getElem? Hr.out); rw [hP] at this; cases this⟩⟩, Hb1.out⟩
      · go_wp2
        exact ⟨⟨k + 1, by omega, by go_num, (fun j q hj hq => by
          by_cases e : j = k
          · subst e; have hh := Hr.out; rw [hh] at hq; cases hq; exact hP
          · exact Ha.out j q (by omega) hq), Hb1.out⟩, by simp [intOf]; omega⟩
    · go_wp2
      go_ret
      exact ⟨⟨true, rfl, ⟨fun _ r hr => by
        obtain ⟨j, hj⟩ := List.getElem?_of_mem hr
        have hjl : j < rs.length := (List.getElem?_eq_some_iff.1 hj).1
        exact Ha.out j r (by omega) hj, fun _ => rfl⟩⟩, hB⟩

theorem name_any (r : WantD) (w : World) :
    Calls Tryz.prog 64 #[.agg #[.string r.c, .int .i64 r.v, .string r.h, .int .i64 r.p, .int .i64 r.s, .int .i64 r.d, .int .i64 r.g]] w fun e w' => e = .returned (.string r.c) ∧ Below w.heap.size w w' := by
  go_enter Tryz.func64, Tryz.ntmps64
  go_wp2
  go_ret
  exact ⟨rfl, by repeat (first | exact Below.refl _ _ | refine bl_alloc ?_ _)⟩
/-- Ascending by their names, the first n. -/
def AscN (rs : List WantD) (n : Nat) : Prop := ∀ j q r, j + 1 < n → rs[j]? = some q → rs[j + 1]? = some r → Op.bytesLess q.c.toList r.c.toList = true
theorem AscN.step {rs : List WantD} {k : Nat} {q r : WantD} (h : AscN rs (k + 1)) (hq : rs[k]? = some q) (hr : rs[k + 1]? = some r) (hs : Op.bytesLess q.c.toList r.c.toList = true) : AscN rs (k + 1 + 1) := by
  intro j q' r' hj hq' hr'
  by_cases e : j = k
  · subst e; rw [hq] at hq'; rw [hr] at hr'; cases hq'; cases hr'; exact hs
  · exact h j q' r' (by omega) hq' hr'
theorem keepAsc {x w' : World} {b off m : Nat} {rs : List WantD} {r q : WantD} (hk : rs[m + 1]? = some r) (hq : rs[m]? = some q) (h1 : RowsAt x b off rs) (l1 : b < x.heap.size) (hb : Below x.heap.size x w') :
    Below x.heap.size x w' ∧ (w'.cell? ⟨b, off + (m + 1) * 7, none⟩ = some (.string r.c) ∧ w'.cell? ⟨b, off + (m + 1) * 7 + 1, none⟩ = some (.int .i64 r.v) ∧ w'.cell? ⟨b, off + (m + 1) * 7 + 2, none⟩ = some (.string r.h) ∧ w'.cell? ⟨b, off + (m + 1) * 7 + 3, none⟩ = some (.int .i64 r.p) ∧ w'.cell? ⟨b, off + (m + 1) * 7 + 4, none⟩ = some (.int .i64 r.s) ∧ w'.cell? ⟨b, off + (m + 1) * 7 + 5, none⟩ = some (.int .i64 r.d) ∧ w'.cell? ⟨b, off + (m + 1) * 7 + 6, none⟩ = some (.int .i64 r.g)) ∧ (w'.cell? ⟨b, off + m * 7, none⟩ = some (.string q.c) ∧ w'.cell? ⟨b, off + m * 7 + 1, none⟩ = some (.int .i64 q.v) ∧ w'.cell? ⟨b, off + m * 7 + 2, none⟩ = some (.string q.h) ∧ w'.cell? ⟨b, off + m * 7 + 3, none⟩ = some (.int .i64 q.p) ∧ w'.cell? ⟨b, off + m * 7 + 4, none⟩ = some (.int .i64 q.s) ∧ w'.cell? ⟨b, off + m * 7 + 5, none⟩ = some (.int .i64 q.d) ∧ w'.cell? ⟨b, off + m * 7 + 6, none⟩ = some (.int .i64 q.g)) := ⟨hb, (h1.keep l1 hb).at hk, (h1.keep l1 hb).at hq⟩

set_option maxRecDepth 4000 in
set_option maxHeartbeats 2000000 in
theorem ascends (b off cap : Nat) (rs : List WantD) (w : World) (hR : RowsAt w b off rs) (l1 : b < w.heap.size) (hl : rs.length ≤ 1048576) :
    Calls Tryz.prog 63 #[.slice (some ⟨b, off, none⟩) rs.length cap, .func (.func 64) #[] #[]] w fun e w' => (∃ q : Bool, e = .returned (.bool q) ∧ (q = true ↔ AscN rs rs.length)) ∧ Below w.heap.size w w' := by
  go_enter Tryz.func63, Tryz.ntmps63
  go_wp2
  go_loopw [5] (fun i wx => ∃ (m : Nat), m ≤ rs.length ∧ i = .int .i64 ((m : Int) + 1) ∧ Hid (AscN rs (m + 1)) ∧ Below w.heap.size w wx) (fun i _ => rs.length + 1 - (intOf i).toNat)
  case atStart => exact ⟨0, Nat.zero_le _, rfl, (fun j q r hj _ _ => by omega), Below.refl _ _⟩
  case round =>
    obtain ⟨m, hk, rfl, Ha, hB⟩ := hrel
    by_cases hlt : m + 1 < rs.length
    · obtain ⟨r, hr⟩ : ∃ r, rs[m + 1]? = some r := ⟨rs[m + 1], List.getElem?_eq_getElem hlt⟩
      obtain ⟨q, hq⟩ : ∃ q, rs[m]? = some q := ⟨rs[m], List.getElem?_eq_getElem (by omega)⟩
      have Hr : Hid _ := hr
      have Hq : Hid _ := hq
      clear hr hq
      have g1 := hR.keep l1 hB
      have z1 : b < wr.heap.size := Nat.lt_of_lt_of_le l1 hB.size
      have i0 : (0 : Int) ≤ (m : Int) := by omega
      have i1 : (m : Int) + 1 < (rs.length : Int) := by omega
      have i2 : (m : Int) < (rs.length : Int) := by omega
      have i3 : (0 : Int) ≤ (m : Int) + 1 := by omega
      have iw : IntKind.i64.wrap (m : Int) = (m : Int) := by rw [IntKind.wrap_i64]; omega
      cases hasc : Op.bytesLess q.c.toList r.c.toList
      · go_wp2_with fail
        go_region_held3 (fun w' => Below wr.heap.size wr w' ∧ (w'.cell? ⟨b, off + (m + 1) * 7, none⟩ = some (.string r.c) ∧ w'.cell? ⟨b, off + (m + 1) * 7 + 1, none⟩ = some (.int .i64 r.v) ∧ w'.cell? ⟨b, off + (m + 1) * 7 + 2, none⟩ = some (.string r.h) ∧ w'.cell? ⟨b, off + (m + 1) * 7 + 3, none⟩ = some (.int .i64 r.p) ∧ w'.cell? ⟨b, off + (m + 1) * 7 + 4, none⟩ = some (.int .i64 r.s) ∧ w'.cell? ⟨b, off + (m + 1) * 7 + 5, none⟩ = some (.int .i64 r.d) ∧ w'.cell? ⟨b, off + (m + 1) * 7 + 6, none⟩ = some (.int .i64 r.g)) ∧ (w'.cell? ⟨b, off + m * 7, none⟩ = some (.string q.c) ∧ w'.cell? ⟨b, off + m * 7 + 1, none⟩ = some (.int .i64 q.v) ∧ w'.cell? ⟨b, off + m * 7 + 2, none⟩ = some (.string q.h) ∧ w'.cell? ⟨b, off + m * 7 + 3, none⟩ = some (.int .i64 q.p) ∧ w'.cell? ⟨b, off + m * 7 + 4, none⟩ = some (.int .i64 q.s) ∧ w'.cell? ⟨b, off + m * 7 + 5, none⟩ = some (.int .i64 q.d) ∧ w'.cell? ⟨b, off + m * 7 + 6, none⟩ = some (.int .i64 q.g)))
          (first | exact keepAsc Hr.out Hq.out g1 z1 (bl_drew (Below.refl _ _)) | exact keepAsc Hr.out Hq.out g1 z1 (bl_trans (bl_drew (Below.refl _ _)) hx) | exact keepAsc Hr.out Hq.out g1 z1 (bl_trans (bl_trans (bl_drew (Below.refl _ _)) hx) hy))
          (first | (go_at_call 64; refine (name_any q _).mono ?_; rintro e w' ⟨rfl, hx⟩) | (go_at_call 64; refine (name_any r _).mono ?_; rintro e w'' ⟨rfl, hy⟩))
        have y1 := bl_trans (bl_trans (bl_drew (Below.refl _ wr)) hx) hy
        have Hb1 : Hid _ := bl_trans hB y1
        clear hx hy y1 hB g1
        go_wp2
        go_ret
        exact ⟨⟨false, rfl, ⟨fun h => (by cases h), fun h => by have := h m q r (by omega) Hq.out Hr.out; rw [hasc] at this; cases this⟩⟩, Hb1.out⟩
      · go_wp2_with fail
        go_region_held3 (fun w' => Below wr.heap.size wr w' ∧ (w'.cell? ⟨b, off + (m + 1) * 7, none⟩ = some (.string r.c) ∧ w'.cell? ⟨b, off + (m + 1) * 7 + 1, none⟩ = some (.int .i64 r.v) ∧ w'.cell? ⟨b, off + (m + 1) * 7 + 2, none⟩ = some (.string r.h) ∧ w'.cell? ⟨b, off + (m + 1) * 7 + 3, none⟩ = some (.int .i64 r.p) ∧ w'.cell? ⟨b, off + (m + 1) * 7 + 4, none⟩ = some (.int .i64 r.s) ∧ w'.cell? ⟨b, off + (m + 1) * 7 + 5, none⟩ = some (.int .i64 r.d) ∧ w'.cell? ⟨b, off + (m + 1) * 7 + 6, none⟩ = some (.int .i64 r.g)) ∧ (w'.cell? ⟨b, off + m * 7, none⟩ = some (.string q.c) ∧ w'.cell? ⟨b, off + m * 7 + 1, none⟩ = some (.int .i64 q.v) ∧ w'.cell? ⟨b, off + m * 7 + 2, none⟩ = some (.string q.h) ∧ w'.cell? ⟨b, off + m * 7 + 3, none⟩ = some (.int .i64 q.p) ∧ w'.cell? ⟨b, off + m * 7 + 4, none⟩ = some (.int .i64 q.s) ∧ w'.cell? ⟨b, off + m * 7 + 5, none⟩ = some (.int .i64 q.d) ∧ w'.cell? ⟨b, off + m * 7 + 6, none⟩ = some (.int .i64 q.g)))
          (first | exact keepAsc Hr.out Hq.out g1 z1 (bl_drew (Below.refl _ _)) | exact keepAsc Hr.out Hq.out g1 z1 (bl_trans (bl_drew (Below.refl _ _)) hx) | exact keepAsc Hr.out Hq.out g1 z1 (bl_trans (bl_trans (bl_drew (Below.refl _ _)) hx) hy))
          (first | (go_at_call 64; refine (name_any q _).mono ?_; rintro e w' ⟨rfl, hx⟩) | (go_at_call 64; refine (name_any r _).mono ?_; rintro e w'' ⟨rfl, hy⟩))
        have y1 := bl_trans (bl_trans (bl_drew (Below.refl _ wr)) hx) hy
        have Hb1 : Hid _ := bl_trans hB y1
        clear hx hy y1 hB g1
        go_wp2
        exact ⟨⟨m + 1, by omega, by go_num, Ha.out.step Hq.out Hr.out hasc, Hb1.out⟩, by simp [intOf]; omega⟩
    · go_wp2
      go_ret
      exact ⟨⟨true, rfl, ⟨fun _ j q r hj hq hr => Ha.out j q r (by omega) hq hr, fun _ => rfl⟩⟩, hB⟩
end Go.Proofs.YtgakmkhbnjofhaaGreatDoor.W
/- MateWantsOk: the program's side. -/
namespace Go.Proofs.YtgakmkhbnjofhaaGreatDoor.W
open Go.RowKit
set_option linter.unusedVariables false

theorem boxlt {w w1 : World} {o : Obj} (h : Below (w.alloc o).heap.size (w.alloc o) w1) : w.heap.size < w1.heap.size := by have := h.size; simp at this; omega
theorem fewWants_any (a : Option Addr) (n cap : Nat) (w : World) :
    Calls Tryz.prog 40 #[.slice a n cap] w fun e w' => e = .returned (.bool (decide (n ≤ 10))) ∧ w' = w := by
  by_cases h : n ≤ 10
  · go_enter Tryz.func40, Tryz.ntmps40
    go_wp2
    go_ret
    exact ⟨ret_b (by simp; omega), rfl⟩
  · go_enter Tryz.func40, Tryz.ntmps40
    go_wp2
    go_ret
    exact ⟨ret_b (by simp; omega), rfl⟩

theorem each_iff (ws : List WantD) : Each ws ws.length ↔ ∀ r ∈ ws, r.ok = true := by
  constructor
  · intro h r hr
    obtain ⟨j, hj⟩ := List.getElem?_of_mem hr
    exact h j r (List.getElem?_eq_some_iff.1 hj).1 hj
  · intro h j r _ hr
    exact h r (List.mem_of_getElem? hr)

theorem eachWant (b off cap : Nat) (ws : List WantD) (w : World) (hR : RowsAt w b off ws) (l1 : b < w.heap.size) (hfit : ∀ r ∈ ws, r.fits) (hl : ws.length ≤ 10) :
    Calls Tryz.prog 41 #[.slice (some ⟨b, off, none⟩) ws.length cap] w fun e w' => (∃ q : Bool, e = .returned (.bool q) ∧ (q = true ↔ Each ws ws.length)) ∧ Below w.heap.size w w' := by
  go_enter Tryz.func41, Tryz.ntmps41
  go_wp2_with fail
  refine (allOk (fun r => r.ok) b off cap ws w hR l1 (by omega) (fun r hr x _ => implWant_any r.c r.h r.v r.p r.s r.d r.g x (hfit r hr).1 (hfit r hr).2)).mono ?_
  rintro e w1 ⟨⟨q, rfl, h⟩, hb⟩
  have H : Hid _ := h
  clear h
  go_wp2
  go_ret
  exact ⟨⟨q, rfl, by rw [each_iff]; exact H.out⟩, hb⟩

theorem ascendWants (b off cap : Nat) (ws : List WantD) (w : World) (hR : RowsAt w b off ws) (l1 : b < w.heap.size) (hl : ws.length ≤ 10) :
    Calls Tryz.prog 42 #[.slice (some ⟨b, off, none⟩) ws.length cap] w fun e w' => (∃ q : Bool, e = .returned (.bool q) ∧ (q = true ↔ Asc ws ws.length)) ∧ Below w.heap.size w w' := by
  go_enter Tryz.func42, Tryz.ntmps42
  go_wp2_with fail
  refine (ascends b off cap ws w hR l1 (by omega)).mono ?_
  rintro e w1 ⟨⟨q, rfl, h⟩, hb⟩
  have H : Hid _ := h
  clear h
  go_wp2
  go_ret
  exact ⟨⟨q, rfl, H.out⟩, hb⟩

theorem build_all (w : World) : Sem.run Tryz.prog (Instr.buildSlice 76 4 #[(0, .func (.func 40) #[] #[]), (1, .func (.func 41) #[] #[]), (2, .func (.func 42) #[] #[]), (3, .func (.func 43) #[] #[])]) w = .ok (.slice (some ⟨w.heap.size, 0, none⟩) 4 4) (w.alloc (.cells #[.func (.func 40) #[] #[], .func (.func 41) #[] #[], .func (.func 42) #[] #[], .func (.func 43) #[] #[]] 36)) := by kernel_rfl

end Go.Proofs.YtgakmkhbnjofhaaGreatDoor.W
/- What fits a parcel's kind: the program. -/
namespace Go.Proofs.YtgakmkhbnjofhaaGreatDoor
open Go.RowKit
set_option linter.unusedVariables false

def noHoldB (h c : ByteArray) (t : Int) : Bool := h.toList.isEmpty && (c.toList.isEmpty && (t == 0))
def noWantsB (se : Int) (n : Nat) : Bool := (se == 0) && ((n : Int) == 0)
def namesB (b h c : ByteArray) (t : Int) : Bool := nameB b && (nameB c && (holdB h && inB t 0 1000000))
set_option maxRecDepth 4000 in
set_option maxHeartbeats 2000000 in
theorem noHold_any (k : Int) (b : ByteArray) (se : Int) (v3 : Option Addr) (n cap : Nat) (h c : ByteArray) (t : Int) (w : World) :
    Calls Tryz.prog 96 #[.agg #[.int .i64 k, .string b, .int .i64 se, .slice v3 n cap, .string h, .string c, .int .i64 t]] w fun e w' => e = .returned (.bool (noHoldB h c t)) ∧ Below w.heap.size w w' := by
  go_enter Tryz.func96, Tryz.ntmps96
  go_wp2_with fail
  all_goals (go_ret; refine ⟨ret_b ?_, ?_⟩)
  all_goals first | exact bl_alloc (Below.refl _ _) _ | simp [noHoldB, *]
set_option maxRecDepth 4000 in
set_option maxHeartbeats 2000000 in
theorem noWants_any (k : Int) (b : ByteArray) (se : Int) (v3 : Option Addr) (n cap : Nat) (h c : ByteArray) (t : Int) (w : World) :
    Calls Tryz.prog 98 #[.agg #[.int .i64 k, .string b, .int .i64 se, .slice v3 n cap, .string h, .string c, .int .i64 t]] w fun e w' => e = .returned (.bool (noWantsB se n)) ∧ Below w.heap.size w w' := by
  go_enter Tryz.func98, Tryz.ntmps98
  go_wp2_with fail
  all_goals (go_ret; refine ⟨ret_b ?_, ?_⟩)
  all_goals first | exact bl_alloc (Below.refl _ _) _ | simp [noWantsB, *]
set_option maxRecDepth 4000 in
set_option maxHeartbeats 2000000 in
theorem names_any (k : Int) (b : ByteArray) (se : Int) (v3 : Option Addr) (n cap : Nat) (h c : ByteArray) (t : Int) (w : World) (zb : b.size ≤ maxLen) (zh : h.size ≤ maxLen) (zc : c.size ≤ maxLen) :
    Calls Tryz.prog 97 #[.agg #[.int .i64 k, .string b, .int .i64 se, .slice v3 n cap, .string h, .string c, .int .i64 t]] w fun e w' => e = .returned (.bool (namesB b h c t)) ∧ Below w.heap.size w w' := by
  go_enter Tryz.func97, Tryz.ntmps97
  go_wp2_with (first | (go_at_call 95; refine (implName_any _ _ (by assumption)).mono ?_; rintro e w' ⟨rfl, rfl⟩) | (go_at_call 99; refine (implHold_any _ _ (by assumption)).mono ?_; rintro e w' ⟨rfl, rfl⟩) | (go_at_call 67; refine (within_any _ _ _ _).mono ?_; rintro e w' ⟨rfl, rfl⟩))
  all_goals (go_ret; refine ⟨ret_b ?_, ?_⟩)
  all_goals first | exact bl_alloc (Below.refl _ _) _ | simp [namesB, *]
set_option maxRecDepth 4000 in
set_option maxHeartbeats 2000000 in
theorem fitsHold_any (k : Int) (b : ByteArray) (se : Int) (v3 : Option Addr) (n cap : Nat) (h c : ByteArray) (t : Int) (w : World) (zb : b.size ≤ maxLen) (zh : h.size ≤ maxLen) (zc : c.size ≤ maxLen) :
    Calls Tryz.prog 76 #[.agg #[.int .i64 k, .string b, .int .i64 se, .slice v3 n cap, .string h, .string c, .int .i64 t]] w fun e w' => e = .returned (.bool (namesB b h c t && noWantsB se n)) ∧ Below w.heap.size w w' := by
  go_enter Tryz.func76, Tryz.ntmps76
  go_wp2_with (first | (go_at_call 97; refine (names_any k b se v3 n cap h c t _ zb zh zc).mono ?_; rintro e w1 ⟨rfl, b1⟩; have kb1 := box_keep b1; have HB1 : Hid (Below w.heap.size w w1) := bl_trans (bl_alloc (Below.refl _ _) _) b1; clear b1) | (go_at_call 98; refine (noWants_any k b se v3 n cap h c t _).mono ?_; rintro e w2 ⟨rfl, b2⟩; have HB2 : Hid (Below w.heap.size w w2) := bl_trans HB1.out b2; clear b2))
  all_goals (go_ret; refine ⟨ret_b ?_, ?_⟩)
  all_goals first | exact HB2.out | exact HB1.out | simp [*]
def gotB (b h c : ByteArray) (se t : Int) (n : Nat) : Bool := nameB b && (holdB h && (inB t 0 1000000 && (c.toList.isEmpty && noWantsB se n)))
set_option maxRecDepth 4000 in
set_option maxHeartbeats 2000000 in
theorem fitsGot_any (k : Int) (b : ByteArray) (se : Int) (v3 : Option Addr) (n cap : Nat) (h c : ByteArray) (t : Int) (w : World) (zb : b.size ≤ maxLen) (zh : h.size ≤ maxLen) (zc : c.size ≤ maxLen) :
    Calls Tryz.prog 79 #[.agg #[.int .i64 k, .string b, .int .i64 se, .slice v3 n cap, .string h, .string c, .int .i64 t]] w fun e w' => e = .returned (.bool (gotB b h c se t n)) ∧ Below w.heap.size w w' := by
  go_enter Tryz.func79, Tryz.ntmps79
  go_wp2_with (first | (go_at_call 95; refine (implName_any _ _ (by assumption)).mono ?_; rintro e w' ⟨rfl, rfl⟩) | (go_at_call 99; refine (implHold_any _ _ (by assumption)).mono ?_; rintro e w' ⟨rfl, rfl⟩) | (go_at_call 67; refine (within_any _ _ _ _).mono ?_; rintro e w' ⟨rfl, rfl⟩) | (go_at_call 98; refine (noWants_any k b se v3 n cap h c t _).mono ?_; rintro e w2 ⟨rfl, b2⟩; have HB2 : Hid (Below w.heap.size w w2) := bl_trans (bl_alloc (Below.refl _ _) _) b2; clear b2))
  all_goals (go_ret; refine ⟨ret_b ?_, ?_⟩)
  all_goals first | exact HB2.out | exact bl_alloc (Below.refl _ _) _ | simp [gotB, *]
def hereB (b h c : ByteArray) (se t : Int) (n : Nat) : Bool := nameB b && (inB se 0 1000000 && (((n : Int) == 0) && noHoldB h c t))
set_option maxRecDepth 4000 in
set_option maxHeartbeats 2000000 in
theorem fitsHere_any (k : Int) (b : ByteArray) (se : Int) (v3 : Option Addr) (n cap : Nat) (h c : ByteArray) (t : Int) (w : World) (zb : b.size ≤ maxLen) (zh : h.size ≤ maxLen) (zc : c.size ≤ maxLen) :
    Calls Tryz.prog 82 #[.agg #[.int .i64 k, .string b, .int .i64 se, .slice v3 n cap, .string h, .string c, .int .i64 t]] w fun e w' => e = .returned (.bool (hereB b h c se t n)) ∧ Below w.heap.size w w' := by
  go_enter Tryz.func82, Tryz.ntmps82
  go_wp2_with (first | (go_at_call 95; refine (implName_any _ _ (by assumption)).mono ?_; rintro e w' ⟨rfl, rfl⟩) | (go_at_call 67; refine (within_any _ _ _ _).mono ?_; rintro e w' ⟨rfl, rfl⟩) | (go_at_call 96; refine (noHold_any k b se v3 _ cap h c t _).mono ?_; rintro e w2 ⟨rfl, b2⟩; have HB2 : Hid (Below w.heap.size w w2) := bl_trans (bl_alloc (Below.refl _ _) _) b2; clear b2))
  all_goals (go_ret; refine ⟨ret_b ?_, ?_⟩)
  all_goals first | exact HB2.out | exact bl_alloc (Below.refl _ _) _ | simp [hereB, *]
end Go.Proofs.YtgakmkhbnjofhaaGreatDoor
/- What fits a parcel that tells wants: the program. -/
namespace Go.Proofs.YtgakmkhbnjofhaaGreatDoor
open Go.RowKit
set_option linter.unusedVariables false

noncomputable def toldB (b h c : ByteArray) (se t : Int) (ws : List W.WantD) : Bool := nameB b && (inB se 1 1000000 && (wantsB ws && noHoldB h c t))
end Go.Proofs.YtgakmkhbnjofhaaGreatDoor
/- A parcel's text: as the program's lines. -/
namespace Go.Proofs.YtgakmkhbnjofhaaGreatDoor
open Go.RowKit
set_option linter.unusedVariables false

theorem ParIn.keep {w w' : World} {P : ParD} {g : Nat} (h : ParIn w P g) (hb : Below w.heap.size w w') : ParIn w' P g := ⟨h.b, h.h, h.c, h.l, h.f, h.r.keep h.g hb, Nat.lt_of_lt_of_le h.g hb.size⟩
theorem told_yes {b h c : ByteArray} {se t : Int} {ws : List W.WantD} (hh : toldB b h c se t ws = true) : formT ⟨1, b, se, ws, h, c, t⟩ = tailT ws (lineT (wd [116, 111, 108, 100]) [b, decT se]) := by
  unfold toldB noHoldB at hh
  simp only [Bool.and_eq_true, beq_iff_eq] at hh
  obtain ⟨h1, h2, h3, h4, h5, h6⟩ := hh
  rw [line2]
  simp [formT, h1, h2, h3, h4, h5, h6, wd]
theorem told_no {b h c : ByteArray} {se t : Int} {ws : List W.WantD} (hh : toldB b h c se t ws = false) : formT ⟨1, b, se, ws, h, c, t⟩ = { data := #[] } := by
  unfold toldB noHoldB at hh
  unfold formT
  cases h1 : nameB b
  · rfl
  · rw [if_neg (by simp), if_neg (by simp), if_pos rfl, if_neg]
    rintro ⟨h3, h2, h4, h5, h6⟩
    simp only at h1 h2 h3 h4 h5 h6
    rw [h1, h2, h3, h4, h5, h6] at hh
    simp at hh
theorem hold_yes {k : Int} {b h c : ByteArray} {se t : Int} {ws : List W.WantD} (hk : k = 2 ∨ k = 3 ∨ k = 4) (l : List UInt8) (hl : wordT k = wd (l ++ [32])) (hh : (namesB b h c t && noWantsB se ws.length) = true) : formT ⟨k, b, se, ws, h, c, t⟩ = lineT (wd l) [b, h, c, decT t] := by
  unfold namesB noWantsB at hh
  simp only [Bool.and_eq_true, beq_iff_eq] at hh
  obtain ⟨⟨h1, h2, h3, h4⟩, h5, h6⟩ := hh
  have hw : ws.length = 0 := by omega
  rw [line4, ← hl]
  have k1 : k ≠ 1 := by omega
  simp [formT, h1, h2, h3, h4, h5, hw, hk, k1]
theorem hold_no {k : Int} {b h c : ByteArray} {se t : Int} {ws : List W.WantD} (hk : k = 2 ∨ k = 3 ∨ k = 4) (hh : (namesB b h c t && noWantsB se ws.length) = false) : formT ⟨k, b, se, ws, h, c, t⟩ = { data := #[] } := by
  unfold namesB noWantsB at hh
  unfold formT
  have k1 : k ≠ 1 := by omega
  have k6 : k ≠ 6 := by omega
  cases h1 : nameB b
  · rfl
  · rw [if_neg (by simp)]
    by_cases h5 : (k ≠ 1 ∧ 0 < ws.length) ∨ (k ≠ 1 ∧ k ≠ 6 ∧ se ≠ 0)
    · rw [if_pos h5]
    · rw [if_neg h5, if_neg k1, if_pos hk, if_neg]
      rintro ⟨h3, h4, h2⟩
      have hw : ws.length = 0 := by
        rcases Nat.eq_zero_or_pos ws.length with e | e
        · exact e
        · exact absurd (Or.inl ⟨k1, e⟩) h5
      have hs : se = 0 := Decidable.byContradiction fun e => h5 (Or.inr ⟨k1, k6, e⟩)
      simp only at h1 h2 h3 h4
      rw [h1, h2, h3, h4, hw, hs] at hh
      simp at hh
theorem got_yes {b h c : ByteArray} {se t : Int} {ws : List W.WantD} (hh : gotB b h c se t ws.length = true) : formT ⟨5, b, se, ws, h, c, t⟩ = lineT (wd [103, 111, 116, 98, 97, 99, 107]) [b, h, decT t] := by
  unfold gotB noWantsB at hh
  simp only [Bool.and_eq_true, beq_iff_eq] at hh
  obtain ⟨h1, h2, h3, h4, h5, h6⟩ := hh
  have hw : ws.length = 0 := by omega
  rw [line3]
  simp [formT, h1, h2, h3, h4, h5, hw, wd]
theorem got_no {b h c : ByteArray} {se t : Int} {ws : List W.WantD} (hh : gotB b h c se t ws.length = false) : formT ⟨5, b, se, ws, h, c, t⟩ = { data := #[] } := by
  unfold gotB noWantsB at hh
  unfold formT
  cases h1 : nameB b
  · rfl
  · rw [if_neg (by simp)]
    by_cases h5 : ((5 : Int) ≠ 1 ∧ 0 < ws.length) ∨ ((5 : Int) ≠ 1 ∧ (5 : Int) ≠ 6 ∧ se ≠ 0)
    · rw [if_pos h5]
    · rw [if_neg h5, if_neg (by simp), if_neg (by simp), if_pos rfl, if_neg]
      rintro ⟨h3, h4, h2⟩
      have hw : ws.length = 0 := by
        rcases Nat.eq_zero_or_pos ws.length with e | e
        · exact e
        · exact absurd (Or.inl ⟨by decide, e⟩) h5
      have hs : se = 0 := Decidable.byContradiction fun e => h5 (Or.inr ⟨by decide, by decide, e⟩)
      simp only at h1 h2 h3 h4
      rw [h1, h2, h3, h4, hw, hs] at hh
      simp at hh
theorem here_yes {b h c : ByteArray} {se t : Int} {ws : List W.WantD} (hh : hereB b h c se t ws.length = true) : formT ⟨6, b, se, ws, h, c, t⟩ = lineT (wd [104, 101, 114, 101]) [b, decT se] := by
  unfold hereB noHoldB at hh
  simp only [Bool.and_eq_true, beq_iff_eq] at hh
  obtain ⟨h1, h2, h3, h4, h5, h6⟩ := hh
  have hw : ws.length = 0 := by omega
  rw [line2]
  simp [formT, h1, h2, h4, h5, h6, hw, wd]
theorem here_no {b h c : ByteArray} {se t : Int} {ws : List W.WantD} (hh : hereB b h c se t ws.length = false) : formT ⟨6, b, se, ws, h, c, t⟩ = { data := #[] } := by
  unfold hereB noHoldB at hh
  unfold formT
  cases h1 : nameB b
  · rfl
  · rw [if_neg (by simp)]
    by_cases h5 : ((6 : Int) ≠ 1 ∧ 0 < ws.length) ∨ ((6 : Int) ≠ 1 ∧ (6 : Int) ≠ 6 ∧ se ≠ 0)
    · rw [if_pos h5]
    · rw [if_neg h5, if_neg (by simp), if_neg (by simp), if_neg (by simp), if_pos rfl, if_neg]
      rintro ⟨h3, h4, h2, h6⟩
      have hw : ws.length = 0 := by
        rcases Nat.eq_zero_or_pos ws.length with e | e
        · exact e
        · exact absurd (Or.inl ⟨by decide, e⟩) h5
      simp only at h1 h2 h3 h4 h6
      rw [h1, h2, h3, h4, hw, h6] at hh
      simp at hh
theorem other_no {k : Int} {b h c : ByteArray} {se t : Int} {ws : List W.WantD} (hk : ¬ (1 ≤ k ∧ k ≤ 6)) : formT ⟨k, b, se, ws, h, c, t⟩ = { data := #[] } := by
  have e1 : k ≠ 1 := by omega
  have e2 : k ≠ 2 := by omega
  have e3 : k ≠ 3 := by omega
  have e4 : k ≠ 4 := by omega
  have e5 : k ≠ 5 := by omega
  have e6 : k ≠ 6 := by omega
  simp [formT, e1, e2, e3, e4, e5, e6]
end Go.Proofs.YtgakmkhbnjofhaaGreatDoor
