import Derived.Test.YtefkdohkjdopeaaGreatDoorJ07
import Derived.Deep.RegionHeld3
import Derived.Laws.Pointers
import Derived.StillTactics
import Derived.Laws.EntriesVeiled
import Derived.Test.YtefkdohkjdopeaaGreatDoorJ11
import Derived.Test.YtefkdohkjdopeaaGreatDoorJ03
import Derived.Test.YtefkdohkjdopeaaGreatDoorJ06
import Derived.Deep.QuietTactic
import Derived.BigQuiet
import Derived.Test.YtefkdohkjdopeaaGreatDoorJ08
namespace Go.Proofs.YtefkdohkjdopeaaGreatDoor.W
open Go.RowKit
set_option linter.unusedVariables false
set_option maxRecDepth 4000 in
set_option maxHeartbeats 1000000 in
theorem allOk (P : WantD → Bool) (b off cap : Nat) (rs : List WantD) (w : World) (hR : RowsAt w b off rs) (l1 : b < w.heap.size) (hl : rs.length ≤ 1048576)
  (hF : ∀ r ∈ rs, ∀ x, Below w.heap.size w x → Calls Tryz.prog 112 #[.agg #[.string r.c, .int .i64 r.v, .string r.h, .int .i64 r.p, .int .i64 r.s, .int .i64 r.d, .int .i64 r.g]] x fun e x' => e = .returned (.bool (P r)) ∧ Below x.heap.size x x') :
  Calls Tryz.prog 111 #[.slice (some ⟨b, off, none⟩) rs.length cap, .func (.func 112) #[] #[]] w fun e w' => (∃ q : Bool, e = .returned (.bool q) ∧ (q = true ↔ ∀ r ∈ rs, P r = true)) ∧ Below w.heap.size w w' := by
 have HF : Hid _ := hF
 clear hF
 go_enter Tryz.func111, Tryz.ntmps111
 go_wp2
 go_loopw [9] (fun i wx => ∃ (k : Nat), k ≤ rs.length ∧ i = .int .i64 k ∧ Hid (∀ j r, j < k → rs[j]? = some r → P r = true) ∧ Below w.heap.size w wx) (fun i _ => rs.length - (intOf i).toNat)
 case atStart => exact ⟨0, Nat.zero_le _, rfl, fun j r h => by omega, Below.refl _ _⟩
 case round =>
  obtain ⟨k, hk, rfl, Ha, hB⟩ := hrel
  by_cases hlt : k < rs.length
  ·
   obtain ⟨r, hr⟩ : ∃ r, rs[k]? = some r := ⟨rs[k], List.getElem?_eq_getElem hlt⟩
   have Hr : Hid _ := hr
   clear hr
   obtain ⟨c0, c1, c2, c3, c4, c5, c6⟩ := (hR.keep l1 hB).at Hr.out
   go_wp2_with fail
   refine (HF.out r (List.mem_of_getElem? Hr.out) _ (bl_alloc hB _)).mono ?_
   rintro e w1 ⟨rfl, hb⟩
   have hB1 := bl_trans (bl_alloc hB _) hb
   have Hb1 : Hid _ := hB1
   clear hB hb hB1
   cases hP : P r
   ·
    go_wp2
    go_ret
    exact ⟨⟨false, rfl, ⟨fun h => (by cases h), fun h => by have := h r (List.mem_of_getElem? Hr.out); rw [hP] at this; cases this⟩⟩, Hb1.out⟩
   ·
    go_wp2
    exact ⟨⟨k + 1, by omega, by go_num, (fun j q hj hq => by
     by_cases e : j = k
     ·
      subst e; have hh := Hr.out; rw [hh] at hq; cases hq; exact hP
     ·
      exact Ha.out j q (by omega) hq), Hb1.out⟩, by simp [intOf]; omega⟩
  ·
   go_wp2
   go_ret
   exact ⟨⟨true, rfl, ⟨fun _ r hr => by
    obtain ⟨j, hj⟩ := List.getElem?_of_mem hr
    have hjl : j < rs.length := (List.getElem?_eq_some_iff.1 hj).1
    exact Ha.out j r (by omega) hj, fun _ => rfl⟩⟩, hB⟩
theorem name_any (r : WantD) (w : World) :
  Calls Tryz.prog 114 #[.agg #[.string r.c, .int .i64 r.v, .string r.h, .int .i64 r.p, .int .i64 r.s, .int .i64 r.d, .int .i64 r.g]] w fun e w' => e = .returned (.string r.c) ∧ Below w.heap.size w w' := by
 go_enter Tryz.func114, Tryz.ntmps114
 go_wp2
 go_ret
 exact ⟨rfl, by repeat (first | exact Below.refl _ _ | refine bl_alloc ?_ _)⟩
def AscN (rs : List WantD) (n : Nat) : Prop := ∀ j q r, j + 1 < n → rs[j]? = some q → rs[j + 1]? = some r → Op.bytesLess q.c.toList r.c.toList = true
theorem AscN.step {rs : List WantD} {k : Nat} {q r : WantD} (h : AscN rs (k + 1)) (hq : rs[k]? = some q) (hr : rs[k + 1]? = some r) (hs : Op.bytesLess q.c.toList r.c.toList = true) : AscN rs (k + 1 + 1) := by
 intro j q' r' hj hq' hr'
 by_cases e : j = k
 ·
  subst e; rw [hq] at hq'; rw [hr] at hr'; cases hq'; cases hr'; exact hs
 ·
  exact h j q' r' (by omega) hq' hr'
theorem keepAsc {x w' : World} {b off m : Nat} {rs : List WantD} {r q : WantD} (hk : rs[m + 1]? = some r) (hq : rs[m]? = some q) (h1 : RowsAt x b off rs) (l1 : b < x.heap.size) (hb : Below x.heap.size x w') :
  Below x.heap.size x w' ∧ (w'.cell? ⟨b, off + (m + 1) * 7, none⟩ = some (.string r.c) ∧ w'.cell? ⟨b, off + (m + 1) * 7 + 1, none⟩ = some (.int .i64 r.v) ∧ w'.cell? ⟨b, off + (m + 1) * 7 + 2, none⟩ = some (.string r.h) ∧ w'.cell? ⟨b, off + (m + 1) * 7 + 3, none⟩ = some (.int .i64 r.p) ∧ w'.cell? ⟨b, off + (m + 1) * 7 + 4, none⟩ = some (.int .i64 r.s) ∧ w'.cell? ⟨b, off + (m + 1) * 7 + 5, none⟩ = some (.int .i64 r.d) ∧ w'.cell? ⟨b, off + (m + 1) * 7 + 6, none⟩ = some (.int .i64 r.g)) ∧ (w'.cell? ⟨b, off + m * 7, none⟩ = some (.string q.c) ∧ w'.cell? ⟨b, off + m * 7 + 1, none⟩ = some (.int .i64 q.v) ∧ w'.cell? ⟨b, off + m * 7 + 2, none⟩ = some (.string q.h) ∧ w'.cell? ⟨b, off + m * 7 + 3, none⟩ = some (.int .i64 q.p) ∧ w'.cell? ⟨b, off + m * 7 + 4, none⟩ = some (.int .i64 q.s) ∧ w'.cell? ⟨b, off + m * 7 + 5, none⟩ = some (.int .i64 q.d) ∧ w'.cell? ⟨b, off + m * 7 + 6, none⟩ = some (.int .i64 q.g)) := ⟨hb, (h1.keep l1 hb).at hk, (h1.keep l1 hb).at hq⟩
set_option maxRecDepth 4000 in
set_option maxHeartbeats 2000000 in
theorem ascends (b off cap : Nat) (rs : List WantD) (w : World) (hR : RowsAt w b off rs) (l1 : b < w.heap.size) (hl : rs.length ≤ 1048576) :
  Calls Tryz.prog 113 #[.slice (some ⟨b, off, none⟩) rs.length cap, .func (.func 114) #[] #[]] w fun e w' => (∃ q : Bool, e = .returned (.bool q) ∧ (q = true ↔ AscN rs rs.length)) ∧ Below w.heap.size w w' := by
 go_enter Tryz.func113, Tryz.ntmps113
 go_wp2
 go_loopw [5] (fun i wx => ∃ (m : Nat), m ≤ rs.length ∧ i = .int .i64 ((m : Int) + 1) ∧ Hid (AscN rs (m + 1)) ∧ Below w.heap.size w wx) (fun i _ => rs.length + 1 - (intOf i).toNat)
 case atStart => exact ⟨0, Nat.zero_le _, rfl, (fun j q r hj _ _ => by omega), Below.refl _ _⟩
 case round =>
  obtain ⟨m, hk, rfl, Ha, hB⟩ := hrel
  by_cases hlt : m + 1 < rs.length
  ·
   obtain ⟨r, hr⟩ : ∃ r, rs[m + 1]? = some r := ⟨rs[m + 1], List.getElem?_eq_getElem hlt⟩
   obtain ⟨q, hq⟩ : ∃ q, rs[m]? = some q := ⟨rs[m], List.getElem?_eq_getElem (by omega)⟩
   have Hr : Hid _ := hr
   have Hq : Hid _ := hq
   clear hr hq
   have g1 := hR.keep l1 hB
   have z1 : b < wr.heap.size := Nat.lt_of_lt_of_le l1 hB.size
   have i0 : (0 : Int) ≤ (m : Int) := by omega
   have i1 : (m : Int) + 1 < (rs.length : Int) := by omega
   have i2 : (m : Int) < (rs.length : Int) := by omega
   have i3 : (0 : Int) ≤ (m : Int) + 1 := by omega
   have iw : IntKind.i64.wrap (m : Int) = (m : Int) := by rw [IntKind.wrap_i64]; omega
   cases hasc : Op.bytesLess q.c.toList r.c.toList
   ·
    go_wp2_with fail
    go_region_held3 (fun w' => Below wr.heap.size wr w' ∧ (w'.cell? ⟨b, off + (m + 1) * 7, none⟩ = some (.string r.c) ∧ w'.cell? ⟨b, off + (m + 1) * 7 + 1, none⟩ = some (.int .i64 r.v) ∧ w'.cell? ⟨b, off + (m + 1) * 7 + 2, none⟩ = some (.string r.h) ∧ w'.cell? ⟨b, off + (m + 1) * 7 + 3, none⟩ = some (.int .i64 r.p) ∧ w'.cell? ⟨b, off + (m + 1) * 7 + 4, none⟩ = some (.int .i64 r.s) ∧ w'.cell? ⟨b, off + (m + 1) * 7 + 5, none⟩ = some (.int .i64 r.d) ∧ w'.cell? ⟨b, off + (m + 1) * 7 + 6, none⟩ = some (.int .i64 r.g)) ∧ (w'.cell? ⟨b, off + m * 7, none⟩ = some (.string q.c) ∧ w'.cell? ⟨b, off + m * 7 + 1, none⟩ = some (.int .i64 q.v) ∧ w'.cell? ⟨b, off + m * 7 + 2, none⟩ = some (.string q.h) ∧ w'.cell? ⟨b, off + m * 7 + 3, none⟩ = some (.int .i64 q.p) ∧ w'.cell? ⟨b, off + m * 7 + 4, none⟩ = some (.int .i64 q.s) ∧ w'.cell? ⟨b, off + m * 7 + 5, none⟩ = some (.int .i64 q.d) ∧ w'.cell? ⟨b, off + m * 7 + 6, none⟩ = some (.int .i64 q.g)))
     (first | exact keepAsc Hr.out Hq.out g1 z1 (bl_drew (Below.refl _ _)) | exact keepAsc Hr.out Hq.out g1 z1 (bl_trans (bl_drew (Below.refl _ _)) hx) | exact keepAsc Hr.out Hq.out g1 z1 (bl_trans (bl_trans (bl_drew (Below.refl _ _)) hx) hy))
     (first | (go_at_call 114; refine (name_any q _).mono ?_; rintro e w' ⟨rfl, hx⟩) | (go_at_call 114; refine (name_any r _).mono ?_; rintro e w'' ⟨rfl, hy⟩))
    have y1 := bl_trans (bl_trans (bl_drew (Below.refl _ wr)) hx) hy
    have Hb1 : Hid _ := bl_trans hB y1
    clear hx hy y1 hB g1
    go_wp2
    go_ret
    exact ⟨⟨false, rfl, ⟨fun h => (by cases h), fun h => by have := h m q r (by omega) Hq.out Hr.out; rw [hasc] at this; cases this⟩⟩, Hb1.out⟩
   ·
    go_wp2_with fail
    go_region_held3 (fun w' => Below wr.heap.size wr w' ∧ (w'.cell? ⟨b, off + (m + 1) * 7, none⟩ = some (.string r.c) ∧ w'.cell? ⟨b, off + (m + 1) * 7 + 1, none⟩ = some (.int .i64 r.v) ∧ w'.cell? ⟨b, off + (m + 1) * 7 + 2, none⟩ = some (.string r.h) ∧ w'.cell? ⟨b, off + (m + 1) * 7 + 3, none⟩ = some (.int .i64 r.p) ∧ w'.cell? ⟨b, off + (m + 1) * 7 + 4, none⟩ = some (.int .i64 r.s) ∧ w'.cell? ⟨b, off + (m + 1) * 7 + 5, none⟩ = some (.int .i64 r.d) ∧ w'.cell? ⟨b, off + (m + 1) * 7 + 6, none⟩ = some (.int .i64 r.g)) ∧ (w'.cell? ⟨b, off + m * 7, none⟩ = some (.string q.c) ∧ w'.cell? ⟨b, off + m * 7 + 1, none⟩ = some (.int .i64 q.v) ∧ w'.cell? ⟨b, off + m * 7 + 2, none⟩ = some (.string q.h) ∧ w'.cell? ⟨b, off + m * 7 + 3, none⟩ = some (.int .i64 q.p) ∧ w'.cell? ⟨b, off + m * 7 + 4, none⟩ = some (.int .i64 q.s) ∧ w'.cell? ⟨b, off + m * 7 + 5, none⟩ = some (.int .i64 q.d) ∧ w'.cell? ⟨b, off + m * 7 + 6, none⟩ = some (.int .i64 q.g)))
     (first | exact keepAsc Hr.out Hq.out g1 z1 (bl_drew (Below.refl _ _)) | exact keepAsc Hr.out Hq.out g1 z1 (bl_trans (bl_drew (Below.refl _ _)) hx) | exact keepAsc Hr.out Hq.out g1 z1 (bl_trans (bl_trans (bl_drew (Below.refl _ _)) hx) hy))
     (first | (go_at_call 114; refine (name_any q _).mono ?_; rintro e w' ⟨rfl, hx⟩) | (go_at_call 114; refine (name_any r _).mono ?_; rintro e w'' ⟨rfl, hy⟩))
    have y1 := bl_trans (bl_trans (bl_drew (Below.refl _ wr)) hx) hy
    have Hb1 : Hid _ := bl_trans hB y1
    clear hx hy y1 hB g1
    go_wp2
    exact ⟨⟨m + 1, by omega, by go_num, Ha.out.step Hq.out Hr.out hasc, Hb1.out⟩, by simp [intOf]; omega⟩
  ·
   go_wp2
   go_ret
   exact ⟨⟨true, rfl, ⟨fun _ j q r hj hq hr => Ha.out j q r (by omega) hq hr, fun _ => rfl⟩⟩, hB⟩
end Go.Proofs.YtefkdohkjdopeaaGreatDoor.W
namespace Go.Proofs.YtefkdohkjdopeaaGreatDoor.W
open Go.RowKit
set_option linter.unusedVariables false
theorem boxlt {w w1 : World} {o : Obj} (h : Below (w.alloc o).heap.size (w.alloc o) w1) : w.heap.size < w1.heap.size := by have := h.size; simp at this; omega
theorem fewWants_any (a : Option Addr) (n cap : Nat) (w : World) :
  Calls Tryz.prog 105 #[.slice a n cap] w fun e w' => e = .returned (.bool (decide (n ≤ 10))) ∧ w' = w := by
 by_cases h : n ≤ 10
 ·
  go_enter Tryz.func105, Tryz.ntmps105
  go_wp2
  go_ret
  exact ⟨ret_b (by simp; omega), rfl⟩
 ·
  go_enter Tryz.func105, Tryz.ntmps105
  go_wp2
  go_ret
  exact ⟨ret_b (by simp; omega), rfl⟩
theorem each_iff (ws : List WantD) : Each ws ws.length ↔ ∀ r ∈ ws, r.ok = true := by
 constructor
 ·
  intro h r hr
  obtain ⟨j, hj⟩ := List.getElem?_of_mem hr
  exact h j r (List.getElem?_eq_some_iff.1 hj).1 hj
 ·
  intro h j r _ hr
  exact h r (List.mem_of_getElem? hr)
theorem eachWant (b off cap : Nat) (ws : List WantD) (w : World) (hR : RowsAt w b off ws) (l1 : b < w.heap.size) (hfit : ∀ r ∈ ws, r.fits) (hl : ws.length ≤ 10) :
  Calls Tryz.prog 106 #[.slice (some ⟨b, off, none⟩) ws.length cap] w fun e w' => (∃ q : Bool, e = .returned (.bool q) ∧ (q = true ↔ Each ws ws.length)) ∧ Below w.heap.size w w' := by
 go_enter Tryz.func106, Tryz.ntmps106
 go_wp2_with fail
 refine (allOk (fun r => r.ok) b off cap ws w hR l1 (by omega) (fun r hr x _ => implWant_any r.c r.h r.v r.p r.s r.d r.g x (hfit r hr).1 (hfit r hr).2)).mono ?_
 rintro e w1 ⟨⟨q, rfl, h⟩, hb⟩
 have H : Hid _ := h
 clear h
 go_wp2
 go_ret
 exact ⟨⟨q, rfl, by rw [each_iff]; exact H.out⟩, hb⟩
theorem ascendWants (b off cap : Nat) (ws : List WantD) (w : World) (hR : RowsAt w b off ws) (l1 : b < w.heap.size) (hl : ws.length ≤ 10) :
  Calls Tryz.prog 107 #[.slice (some ⟨b, off, none⟩) ws.length cap] w fun e w' => (∃ q : Bool, e = .returned (.bool q) ∧ (q = true ↔ Asc ws ws.length)) ∧ Below w.heap.size w w' := by
 go_enter Tryz.func107, Tryz.ntmps107
 go_wp2_with fail
 refine (ascends b off cap ws w hR l1 (by omega)).mono ?_
 rintro e w1 ⟨⟨q, rfl, h⟩, hb⟩
 have H : Hid _ := h
 clear h
 go_wp2
 go_ret
 exact ⟨⟨q, rfl, H.out⟩, hb⟩
set_option maxHeartbeats 1000000 in
theorem holdsDiffer (b off : Nat) (ws : List WantD) (w : World) (hR : RowsAt w b off ws) (l1 : b < w.heap.size) (hl : ws.length ≤ 10) :
  Calls Tryz.prog 88 #[.slice (some ⟨b, off, none⟩) ws.length ws.length] w fun e w' => (∃ q : Bool, e = .returned (.bool q) ∧ (q = true ↔ Diff ws ws.length)) ∧ Below w.heap.size w w' := by
 go_enter Tryz.func88, Tryz.ntmps88
 go_wp2
 go_loopw [9] (fun i wx => ∃ (k : Nat), k ≤ ws.length ∧ i = .int .i64 k ∧ Hid (Diff ws k) ∧ Below w.heap.size w wx) (fun i _ => ws.length - (intOf i).toNat)
 case atStart => exact ⟨0, Nat.zero_le _, rfl, fun j r h => by omega, Below.refl _ _⟩
 case round =>
  obtain ⟨k, hk, rfl, Ha, hB⟩ := hrel
  by_cases hlt : k < ws.length
  ·
   obtain ⟨r, hr⟩ : ∃ r, ws[k]? = some r := ⟨ws[k], List.getElem?_eq_getElem hlt⟩
   have Hr : Hid _ := hr
   clear hr
   have i0 : (0 : Int) ≤ (k : Int) := by omega
   have i1 : (k : Int) ≤ (ws.length : Int) := by omega
   obtain ⟨c0, c1, c2, c3, c4, c5, c6⟩ := (hR.keep l1 hB).at Hr.out
   obtain ⟨wo, rfl⟩ : ∃ wo : World, wo = wr := ⟨_, rfl⟩
   go_wp2_with fail
   clear c0 c1 c2 c3 c4 c5 c6
   go_loopw [18] (fun j wx => ∃ (n : Nat), n ≤ k ∧ j = .int .i64 n ∧ Hid (NoneOf ws r n) ∧ Below (wo.alloc (.cells #[.string r.c, .int .i64 r.v, .string r.h, .int .i64 r.p, .int .i64 r.s, .int .i64 r.d, .int .i64 r.g] 94)).heap.size (wo.alloc (.cells #[.string r.c, .int .i64 r.v, .string r.h, .int .i64 r.p, .int .i64 r.s, .int .i64 r.d, .int .i64 r.g] 94)) wx) (fun j _ => k - (intOf j).toNat)
   case atStart => exact ⟨0, Nat.zero_le _, rfl, fun i q h => by omega, Below.refl _ _⟩
   case round =>
    obtain ⟨n, hn, rfl, Hn, hBn⟩ := hrel
    have bo : Below w.heap.size w wr := bl_trans (bl_trans hB (bl_alloc (Below.refl _ _) _)) hBn
    by_cases hnl : n < k
    ·
     obtain ⟨t, ht⟩ : ∃ t, ws[n]? = some t := ⟨ws[n], List.getElem?_eq_getElem (by omega)⟩
     have Ht : Hid _ := ht
     clear ht
     have j0 : (0 : Int) ≤ (n : Int) := by omega
     have j1 : (n : Int) < (k : Int) := by omega
     obtain ⟨c0, c1, c2, c3, c4, c5, c6⟩ := (hR.keep l1 bo).at Ht.out
     have hkb := box_keep hBn
     have hzb := boxlt hBn
     cases he : r.h.toList.isEmpty
     ·
      cases hcl : (t.h.toList == r.h.toList)
      ·
       go_wp2
       exact ⟨⟨n + 1, by omega, by go_num, NoneOf.step Hn.out Ht.out (by simp [clash, he, hcl]), bl_trans hBn (bl_alloc (Below.refl _ _) _)⟩, by simp [intOf]; omega⟩
      ·
       go_wp2
       go_ret
       exact ⟨⟨false, rfl, ⟨fun h => (by cases h), fun h => by have := h k r hlt Hr.out n t hnl Ht.out; simp [clash, he, hcl] at this⟩⟩, bl_alloc bo _⟩
     ·
      go_wp2
      exact ⟨⟨n + 1, by omega, by go_num, NoneOf.step Hn.out Ht.out (by simp [clash, he]), bl_trans hBn (bl_alloc (Below.refl _ _) _)⟩, by simp [intOf]; omega⟩
    ·
     have hne : n = k := by omega
     subst hne
     go_wp2
     exact ⟨⟨n + 1, by omega, by go_num, Ha.out.step Hr.out Hn.out, bo⟩, by simp [intOf]; omega⟩
  ·
   go_wp2
   go_ret
   exact ⟨⟨true, rfl, ⟨fun _ j r hj hr => Ha.out j r (by omega) hr, fun _ => rfl⟩⟩, hB⟩
theorem build_all (w : World) : Sem.run Tryz.prog (Instr.buildSlice 140 4 #[(0, .func (.func 105) #[] #[]), (1, .func (.func 106) #[] #[]), (2, .func (.func 107) #[] #[]), (3, .func (.func 88) #[] #[])]) w = .ok (.slice (some ⟨w.heap.size, 0, none⟩) 4 4) (w.alloc (.cells #[.func (.func 105) #[] #[], .func (.func 106) #[] #[], .func (.func 107) #[] #[], .func (.func 88) #[] #[]] 104)) := by kernel_rfl
set_option maxHeartbeats 1000000 in
theorem implWantsOk (b off : Nat) (ws : List WantD) (w : World) (hR : RowsAt w b off ws) (l1 : b < w.heap.size) (hfit : ∀ r ∈ ws, r.fits) (hl : ws.length ≤ 1048576) :
  Calls Tryz.prog 98 #[.slice (some ⟨b, off, none⟩) ws.length ws.length] w fun e w' => (∃ q : Bool, e = .returned (.bool q) ∧ Says q ws) ∧ Below w.heap.size w w' := by
 have hba := build_all
 by_cases h10 : ws.length ≤ 10
 ·
  go_enter Tryz.func98, Tryz.ntmps98
  go_wp2_with go_in
  clear hba
  refine wp_loop_rounds 5 ?_
  rw [rounds_succ]
  go_wp2_with fail
  refine (fewWants_any _ _ _ _).mono ?_
  rintro e w1 ⟨rfl, rfl⟩
  have d10 : decide (ws.length ≤ 10) = true := by simpa using h10
  go_wp2_with fail
  rw [rounds_succ]
  go_wp2_with fail
  have R0 := hR.keep l1 (bl_alloc (Below.refl _ _) (.cells #[.func (.func 105) #[] #[], .func (.func 106) #[] #[], .func (.func 107) #[] #[], .func (.func 88) #[] #[]] 104))
  have z0 : b < (w.alloc (.cells #[.func (.func 105) #[] #[], .func (.func 106) #[] #[], .func (.func 107) #[] #[], .func (.func 88) #[] #[]] 104)).heap.size := by simp; omega
  refine (eachWant b off _ ws _ R0 z0 hfit h10).mono ?_
  rintro e w2 ⟨⟨q2, rfl, h2⟩, b2⟩
  have k2 := box_keep b2
  cases q2
  ·
   go_wp2
   go_ret
   exact ⟨⟨false, rfl, says_no (fun _ h => by have := h2.2 h.1; cases this)⟩, bl_trans (bl_alloc (Below.refl _ _) _) b2⟩
  have e2 : Hid _ := h2.1 rfl
  clear h2
  go_wp2_with fail
  rw [rounds_succ]
  go_wp2_with fail
  have R2 := R0.keep z0 b2
  have z2 : b < w2.heap.size := Nat.lt_of_lt_of_le z0 b2.size
  refine (ascendWants b off _ ws _ R2 z2 h10).mono ?_
  rintro e w3 ⟨⟨q3, rfl, h3⟩, b3⟩
  have b3' := bl_trans b2 b3
  clear k2
  have k3 := box_keep b3'
  cases q3
  ·
   go_wp2
   go_ret
   exact ⟨⟨false, rfl, says_no (fun _ h => by have := h3.2 h.2.1; cases this)⟩, bl_trans (bl_alloc (Below.refl _ _) _) b3'⟩
  have e3 : Hid _ := h3.1 rfl
  clear h3
  go_wp2_with fail
  rw [rounds_succ]
  go_wp2_with fail
  have R3 := R2.keep z2 b3
  have z3 : b < w3.heap.size := Nat.lt_of_lt_of_le z2 b3.size
  refine (holdsDiffer b off ws _ R3 z3 h10).mono ?_
  rintro e w4 ⟨⟨q4, rfl, h4⟩, b4⟩
  have b4' := bl_trans b3' b4
  clear k3
  cases q4
  ·
   go_wp2
   go_ret
   exact ⟨⟨false, rfl, says_no (fun _ h => by have := h4.2 h.2.2; cases this)⟩, bl_trans (bl_alloc (Below.refl _ _) _) b4'⟩
  have e4 : Hid _ := h4.1 rfl
  clear h4
  go_wp2_with fail
  rw [rounds_succ]
  go_wp2
  go_ret
  exact ⟨⟨true, rfl, says_yes ⟨e2.out, e3.out, e4.out⟩ (Nat.le_refl _) h10⟩, bl_trans (bl_alloc (Below.refl _ _) _) b4'⟩
 ·
  go_enter Tryz.func98, Tryz.ntmps98
  go_wp2_with go_in
  clear hba
  refine wp_loop_rounds 1 ?_
  rw [rounds_succ]
  go_wp2_with fail
  refine (fewWants_any _ _ _ _).mono ?_
  rintro e w1 ⟨rfl, rfl⟩
  have d10 : decide (ws.length ≤ 10) = false := by simpa using h10
  go_wp2
  go_ret
  exact ⟨⟨false, rfl, says_no (fun h _ => h10 h)⟩, bl_alloc (Below.refl _ _) _⟩
end Go.Proofs.YtefkdohkjdopeaaGreatDoor.W
namespace Go.Proofs.YtefkdohkjdopeaaGreatDoor
open Go.RowKit
set_option linter.unusedVariables false
def AscN (rs : List RunD) (n : Nat) : Prop := ∀ j q r, j + 1 < n → rs[j]? = some q → rs[j + 1]? = some r → Op.bytesLess q.c.toList r.c.toList = true
theorem AscN.step {rs : List RunD} {k : Nat} {q r : RunD} (h : AscN rs (k + 1)) (hq : rs[k]? = some q) (hr : rs[k + 1]? = some r) (hs : Op.bytesLess q.c.toList r.c.toList = true) : AscN rs (k + 1 + 1) := by
 intro j q' r' hj hq' hr'
 by_cases e : j = k
 ·
  subst e; rw [hq] at hq'; rw [hr] at hr'; cases hq'; cases hr'; exact hs
 ·
  exact h j q' r' (by omega) hq' hr'
theorem keepAsc {x w' : World} {b off m : Nat} {rs : List RunD} {r q : RunD} (hk : rs[m + 1]? = some r) (hq : rs[m]? = some q) (h1 : RowsAt x b off rs) (l1 : b < x.heap.size) (hb : Below x.heap.size x w') :
  Below x.heap.size x w' ∧ (w'.cell? ⟨b, off + (m + 1) * 11, none⟩ = some (.string r.c) ∧ w'.cell? ⟨b, off + (m + 1) * 11 + 1, none⟩ = some (.int .i64 r.v) ∧ w'.cell? ⟨b, off + (m + 1) * 11 + 2, none⟩ = some (.string r.h) ∧ w'.cell? ⟨b, off + (m + 1) * 11 + 3, none⟩ = some (.int .i64 r.p) ∧ w'.cell? ⟨b, off + (m + 1) * 11 + 4, none⟩ = some (.int .i64 r.s) ∧ w'.cell? ⟨b, off + (m + 1) * 11 + 5, none⟩ = some (.int .i64 r.d) ∧ w'.cell? ⟨b, off + (m + 1) * 11 + 6, none⟩ = some (.int .i64 r.g) ∧ w'.cell? ⟨b, off + (m + 1) * 11 + 7, none⟩ = some (.int .i64 r.a) ∧ w'.cell? ⟨b, off + (m + 1) * 11 + 8, none⟩ = some (.int .i64 r.b) ∧ w'.cell? ⟨b, off + (m + 1) * 11 + 9, none⟩ = some (.int .i64 r.i) ∧ w'.cell? ⟨b, off + (m + 1) * 11 + 10, none⟩ = some (.int .i64 r.u)) ∧ (w'.cell? ⟨b, off + m * 11, none⟩ = some (.string q.c) ∧ w'.cell? ⟨b, off + m * 11 + 1, none⟩ = some (.int .i64 q.v) ∧ w'.cell? ⟨b, off + m * 11 + 2, none⟩ = some (.string q.h) ∧ w'.cell? ⟨b, off + m * 11 + 3, none⟩ = some (.int .i64 q.p) ∧ w'.cell? ⟨b, off + m * 11 + 4, none⟩ = some (.int .i64 q.s) ∧ w'.cell? ⟨b, off + m * 11 + 5, none⟩ = some (.int .i64 q.d) ∧ w'.cell? ⟨b, off + m * 11 + 6, none⟩ = some (.int .i64 q.g) ∧ w'.cell? ⟨b, off + m * 11 + 7, none⟩ = some (.int .i64 q.a) ∧ w'.cell? ⟨b, off + m * 11 + 8, none⟩ = some (.int .i64 q.b) ∧ w'.cell? ⟨b, off + m * 11 + 9, none⟩ = some (.int .i64 q.i) ∧ w'.cell? ⟨b, off + m * 11 + 10, none⟩ = some (.int .i64 q.u)) := ⟨hb, (h1.keep l1 hb).at hk, (h1.keep l1 hb).at hq⟩
def SaysP (q : Bool) (m : MateD) : Prop := q = true ↔ partsB m = true
end Go.Proofs.YtefkdohkjdopeaaGreatDoor
namespace Go.Proofs.YtefkdohkjdopeaaGreatDoor.P
open Go.RowKit
set_option linter.unusedVariables false
theorem timeOk_any (t : Int) (a1 a2 : Option Addr) (n1 c1 n2 c2 : Nat) (w : World) :
  Calls Tryz.prog 63 #[.agg #[.int .i64 t, .slice a1 n1 c1, .slice a2 n2 c2]] w fun e w' => e = .returned (.bool (timeB t)) ∧ Below w.heap.size w w' := by
 cases q1 : inB t 0 2000000
 ·
  go_enter Tryz.func63, Tryz.ntmps63
  go_wp2_with (go_at_call 76; refine (within_any _ _ _ _).mono ?_; rintro e w' ⟨rfl, rfl⟩)
  go_ret
  exact ⟨ret_b (by simp [timeB, q1]), bl_alloc (Below.refl _ _) _⟩
 ·
  have h0 : 0 ≤ t := by simp [inB] at q1; omega
  by_cases q2 : t % 2 = 0
  ·
   go_enter Tryz.func63, Tryz.ntmps63
   go_wp2_with (go_at_call 76; refine (within_any _ _ _ _).mono ?_; rintro e w' ⟨rfl, rfl⟩)
   go_ret
   exact ⟨ret_b (by simp [timeB, q1, q2]), bl_alloc (Below.refl _ _) _⟩
  ·
   go_enter Tryz.func63, Tryz.ntmps63
   go_wp2_with (go_at_call 76; refine (within_any _ _ _ _).mono ?_; rintro e w' ⟨rfl, rfl⟩)
   go_ret
   exact ⟨ret_b (by simp [timeB, q1, q2]), bl_alloc (Below.refl _ _) _⟩
set_option maxRecDepth 4000 in
set_option maxHeartbeats 1000000 in
theorem grantOk_any (r : G.GrantD) (t : Int) (w : World) (hf : r.fits) (h0 : 0 ≤ t) (h1 : t ≤ 2000000) :
  Calls Tryz.prog 84 #[.agg #[.string r.h, .string r.b, .string r.c, .int .i64 r.t, .int .i64 r.u], .int .i64 t] w fun e w' => e = .returned (.bool (grantB t r)) ∧ Below w.heap.size w w' := by
 cases q1 : holdB r.h
 ·
  skip
  go_enter Tryz.func84, Tryz.ntmps84
  go_wp2_with (first | (go_at_call 75; refine (implHold_any r.h _ hf.1).mono ?_; rintro e w' ⟨rfl, rfl⟩) | (go_at_call 74; refine (implName_any _ _ (by first | exact hf.2.1 | exact hf.2.2)).mono ?_; rintro e w' ⟨rfl, rfl⟩) | (go_at_call 76; refine (within_any _ _ _ _).mono ?_; rintro e w' ⟨rfl, rfl⟩))
  go_ret
  exact ⟨ret_b (by simp [grantB, *]), bl_alloc (Below.refl _ _) _⟩
 cases q2 : nameB r.b
 ·
  skip
  go_enter Tryz.func84, Tryz.ntmps84
  go_wp2_with (first | (go_at_call 75; refine (implHold_any r.h _ hf.1).mono ?_; rintro e w' ⟨rfl, rfl⟩) | (go_at_call 74; refine (implName_any _ _ (by first | exact hf.2.1 | exact hf.2.2)).mono ?_; rintro e w' ⟨rfl, rfl⟩) | (go_at_call 76; refine (within_any _ _ _ _).mono ?_; rintro e w' ⟨rfl, rfl⟩))
  go_ret
  exact ⟨ret_b (by simp [grantB, *]), bl_alloc (Below.refl _ _) _⟩
 cases q3 : nameB r.c
 ·
  skip
  go_enter Tryz.func84, Tryz.ntmps84
  go_wp2_with (first | (go_at_call 75; refine (implHold_any r.h _ hf.1).mono ?_; rintro e w' ⟨rfl, rfl⟩) | (go_at_call 74; refine (implName_any _ _ (by first | exact hf.2.1 | exact hf.2.2)).mono ?_; rintro e w' ⟨rfl, rfl⟩) | (go_at_call 76; refine (within_any _ _ _ _).mono ?_; rintro e w' ⟨rfl, rfl⟩))
  go_ret
  exact ⟨ret_b (by simp [grantB, *]), bl_alloc (Below.refl _ _) _⟩
 cases q4 : inB r.t 0 1000000
 ·
  skip
  go_enter Tryz.func84, Tryz.ntmps84
  go_wp2_with (first | (go_at_call 75; refine (implHold_any r.h _ hf.1).mono ?_; rintro e w' ⟨rfl, rfl⟩) | (go_at_call 74; refine (implName_any _ _ (by first | exact hf.2.1 | exact hf.2.2)).mono ?_; rintro e w' ⟨rfl, rfl⟩) | (go_at_call 76; refine (within_any _ _ _ _).mono ?_; rintro e w' ⟨rfl, rfl⟩))
  go_ret
  exact ⟨ret_b (by simp [grantB, *]), bl_alloc (Below.refl _ _) _⟩
 go_enter Tryz.func84, Tryz.ntmps84
 go_wp2_with (first | (go_at_call 75; refine (implHold_any r.h _ hf.1).mono ?_; rintro e w' ⟨rfl, rfl⟩) | (go_at_call 74; refine (implName_any _ _ (by first | exact hf.2.1 | exact hf.2.2)).mono ?_; rintro e w' ⟨rfl, rfl⟩) | (go_at_call 76; refine (within_any _ _ _ _).mono ?_; rintro e w' ⟨rfl, rfl⟩))
 go_ret
 exact ⟨ret_b (by simp [grantB, *]), bl_alloc (Below.refl _ _) _⟩
theorem closGrant (r : G.GrantD) (t : Int) (bk : Nat) (w : World) (hc : w.cell? ⟨bk, 0, none⟩ = some (.int .i64 t)) (lk : bk < w.heap.size) (hf : r.fits) (h0 : 0 ≤ t) (h1 : t ≤ 2000000) :
  Calls Tryz.prog 83 #[.agg #[.string r.h, .string r.b, .string r.c, .int .i64 r.t, .int .i64 r.u], .pointer (some ⟨bk, 0, none⟩)] w fun e w' => e = .returned (.bool (grantB t r)) ∧ Below w.heap.size w w' := by
 go_enter Tryz.func83, Tryz.ntmps83
 go_wp2_with (go_at_call 84; refine (grantOk_any r t _ hf h0 h1).mono ?_; rintro e w' ⟨rfl, hx⟩)
 go_ret
 exact ⟨rfl, bl_trans (bl_alloc (Below.refl _ _) _) hx⟩
end Go.Proofs.YtefkdohkjdopeaaGreatDoor.P
