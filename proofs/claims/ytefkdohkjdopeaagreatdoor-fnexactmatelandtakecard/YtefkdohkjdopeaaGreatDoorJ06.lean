import Derived.Test.YtefkdohkjdopeaaGreatDoorJ03
import Derived.Deep.RegionHeld3
import Derived.Laws.Pointers
import Derived.StillTactics
import Derived.Test.YtefkdohkjdopeaaGreatDoorJ01
namespace Go.Proofs.YtefkdohkjdopeaaGreatDoor.P
open Go.RowKit
set_option linter.unusedVariables false
set_option maxRecDepth 4000 in
set_option maxHeartbeats 1000000 in
theorem allOk (P : PlaceD → Bool) (b off cap : Nat) (rs : List PlaceD) (w : World) (hR : RowsAt w b off rs) (l1 : b < w.heap.size) (hl : rs.length ≤ 1048576)
  (hF : ∀ r ∈ rs, ∀ x, Below w.heap.size w x → Calls Tryz.prog 87 #[.agg #[.string r.b, .int .i64 r.s, .slice r.a r.ws.length r.c]] x fun e x' => e = .returned (.bool (P r)) ∧ Below x.heap.size x x') :
  Calls Tryz.prog 86 #[.slice (some ⟨b, off, none⟩) rs.length cap, .func (.func 87) #[] #[]] w fun e w' => (∃ q : Bool, e = .returned (.bool q) ∧ (q = true ↔ ∀ r ∈ rs, P r = true)) ∧ Below w.heap.size w w' := by
 have HF : Hid _ := hF
 clear hF
 go_enter Tryz.func86, Tryz.ntmps86
 go_wp2
 go_loopw [9] (fun i wx => ∃ (k : Nat), k ≤ rs.length ∧ i = .int .i64 k ∧ Hid (∀ j r, j < k → rs[j]? = some r → P r = true) ∧ Below w.heap.size w wx) (fun i _ => rs.length - (intOf i).toNat)
 case atStart => exact ⟨0, Nat.zero_le _, rfl, fun j r h => by omega, Below.refl _ _⟩
 case round =>
  obtain ⟨k, hk, rfl, Ha, hB⟩ := hrel
  by_cases hlt : k < rs.length
  ·
   obtain ⟨r, hr⟩ : ∃ r, rs[k]? = some r := ⟨rs[k], List.getElem?_eq_getElem hlt⟩
   have Hr : Hid _ := hr
   clear hr
   obtain ⟨c0, c1, c2⟩ := (hR.keep l1 hB).at Hr.out
   go_wp2_with fail
   refine (HF.out r (List.mem_of_getElem? Hr.out) _ (bl_alloc hB _)).mono ?_
   rintro e w1 ⟨rfl, hb⟩
   have hB1 := bl_trans (bl_alloc hB _) hb
   have Hb1 : Hid _ := hB1
   clear hB hb hB1
   cases hP : P r
   ·
    go_wp2
    go_ret
    exact ⟨⟨false, rfl, ⟨fun h => (by cases h), fun h => by have := h r (List.mem_of_getElem? Hr.out); rw [hP] at this; cases this⟩⟩, Hb1.out⟩
   ·
    go_wp2
    exact ⟨⟨k + 1, by omega, by go_num, (fun j q hj hq => by
     by_cases e : j = k
     ·
      subst e; have hh := Hr.out; rw [hh] at hq; cases hq; exact hP
     ·
      exact Ha.out j q (by omega) hq), Hb1.out⟩, by simp [intOf]; omega⟩
  ·
   go_wp2
   go_ret
   exact ⟨⟨true, rfl, ⟨fun _ r hr => by
    obtain ⟨j, hj⟩ := List.getElem?_of_mem hr
    have hjl : j < rs.length := (List.getElem?_eq_some_iff.1 hj).1
    exact Ha.out j r (by omega) hj, fun _ => rfl⟩⟩, hB⟩
theorem name_any (r : PlaceD) (w : World) :
  Calls Tryz.prog 70 #[.agg #[.string r.b, .int .i64 r.s, .slice r.a r.ws.length r.c]] w fun e w' => e = .returned (.string r.b) ∧ Below w.heap.size w w' := by
 go_enter Tryz.func70, Tryz.ntmps70
 go_wp2
 go_ret
 exact ⟨rfl, by repeat (first | exact Below.refl _ _ | refine bl_alloc ?_ _)⟩
def AscN (rs : List PlaceD) (n : Nat) : Prop := ∀ j q r, j + 1 < n → rs[j]? = some q → rs[j + 1]? = some r → Op.bytesLess q.b.toList r.b.toList = true
theorem AscN.step {rs : List PlaceD} {k : Nat} {q r : PlaceD} (h : AscN rs (k + 1)) (hq : rs[k]? = some q) (hr : rs[k + 1]? = some r) (hs : Op.bytesLess q.b.toList r.b.toList = true) : AscN rs (k + 1 + 1) := by
 intro j q' r' hj hq' hr'
 by_cases e : j = k
 ·
  subst e; rw [hq] at hq'; rw [hr] at hr'; cases hq'; cases hr'; exact hs
 ·
  exact h j q' r' (by omega) hq' hr'
theorem keepAsc {x w' : World} {b off m : Nat} {rs : List PlaceD} {r q : PlaceD} (hk : rs[m + 1]? = some r) (hq : rs[m]? = some q) (h1 : RowsAt x b off rs) (l1 : b < x.heap.size) (hb : Below x.heap.size x w') :
  Below x.heap.size x w' ∧ (w'.cell? ⟨b, off + (m + 1) * 3, none⟩ = some (.string r.b) ∧ w'.cell? ⟨b, off + (m + 1) * 3 + 1, none⟩ = some (.int .i64 r.s) ∧ w'.cell? ⟨b, off + (m + 1) * 3 + 2, none⟩ = some (.slice r.a r.ws.length r.c)) ∧ (w'.cell? ⟨b, off + m * 3, none⟩ = some (.string q.b) ∧ w'.cell? ⟨b, off + m * 3 + 1, none⟩ = some (.int .i64 q.s) ∧ w'.cell? ⟨b, off + m * 3 + 2, none⟩ = some (.slice q.a q.ws.length q.c)) := ⟨hb, (h1.keep l1 hb).at hk, (h1.keep l1 hb).at hq⟩
set_option maxRecDepth 4000 in
set_option maxHeartbeats 2000000 in
theorem ascends (b off cap : Nat) (rs : List PlaceD) (w : World) (hR : RowsAt w b off rs) (l1 : b < w.heap.size) (hl : rs.length ≤ 1048576) :
  Calls Tryz.prog 85 #[.slice (some ⟨b, off, none⟩) rs.length cap, .func (.func 70) #[] #[]] w fun e w' => (∃ q : Bool, e = .returned (.bool q) ∧ (q = true ↔ AscN rs rs.length)) ∧ Below w.heap.size w w' := by
 go_enter Tryz.func85, Tryz.ntmps85
 go_wp2
 go_loopw [5] (fun i wx => ∃ (m : Nat), m ≤ rs.length ∧ i = .int .i64 ((m : Int) + 1) ∧ Hid (AscN rs (m + 1)) ∧ Below w.heap.size w wx) (fun i _ => rs.length + 1 - (intOf i).toNat)
 case atStart => exact ⟨0, Nat.zero_le _, rfl, (fun j q r hj _ _ => by omega), Below.refl _ _⟩
 case round =>
  obtain ⟨m, hk, rfl, Ha, hB⟩ := hrel
  by_cases hlt : m + 1 < rs.length
  ·
   obtain ⟨r, hr⟩ : ∃ r, rs[m + 1]? = some r := ⟨rs[m + 1], List.getElem?_eq_getElem hlt⟩
   obtain ⟨q, hq⟩ : ∃ q, rs[m]? = some q := ⟨rs[m], List.getElem?_eq_getElem (by omega)⟩
   have Hr : Hid _ := hr
   have Hq : Hid _ := hq
   clear hr hq
   have g1 := hR.keep l1 hB
   have z1 : b < wr.heap.size := Nat.lt_of_lt_of_le l1 hB.size
   have i0 : (0 : Int) ≤ (m : Int) := by omega
   have i1 : (m : Int) + 1 < (rs.length : Int) := by omega
   have i2 : (m : Int) < (rs.length : Int) := by omega
   have i3 : (0 : Int) ≤ (m : Int) + 1 := by omega
   have iw : IntKind.i64.wrap (m : Int) = (m : Int) := by rw [IntKind.wrap_i64]; omega
   cases hasc : Op.bytesLess q.b.toList r.b.toList
   ·
    go_wp2_with fail
    go_region_held3 (fun w' => Below wr.heap.size wr w' ∧ (w'.cell? ⟨b, off + (m + 1) * 3, none⟩ = some (.string r.b) ∧ w'.cell? ⟨b, off + (m + 1) * 3 + 1, none⟩ = some (.int .i64 r.s) ∧ w'.cell? ⟨b, off + (m + 1) * 3 + 2, none⟩ = some (.slice r.a r.ws.length r.c)) ∧ (w'.cell? ⟨b, off + m * 3, none⟩ = some (.string q.b) ∧ w'.cell? ⟨b, off + m * 3 + 1, none⟩ = some (.int .i64 q.s) ∧ w'.cell? ⟨b, off + m * 3 + 2, none⟩ = some (.slice q.a q.ws.length q.c)))
     (first | exact keepAsc Hr.out Hq.out g1 z1 (bl_drew (Below.refl _ _)) | exact keepAsc Hr.out Hq.out g1 z1 (bl_trans (bl_drew (Below.refl _ _)) hx) | exact keepAsc Hr.out Hq.out g1 z1 (bl_trans (bl_trans (bl_drew (Below.refl _ _)) hx) hy))
     (first | (go_at_call 70; refine (name_any q _).mono ?_; rintro e w' ⟨rfl, hx⟩) | (go_at_call 70; refine (name_any r _).mono ?_; rintro e w'' ⟨rfl, hy⟩))
    have y1 := bl_trans (bl_trans (bl_drew (Below.refl _ wr)) hx) hy
    have Hb1 : Hid _ := bl_trans hB y1
    clear hx hy y1 hB g1
    go_wp2
    go_ret
    exact ⟨⟨false, rfl, ⟨fun h => (by cases h), fun h => by have := h m q r (by omega) Hq.out Hr.out; rw [hasc] at this; cases this⟩⟩, Hb1.out⟩
   ·
    go_wp2_with fail
    go_region_held3 (fun w' => Below wr.heap.size wr w' ∧ (w'.cell? ⟨b, off + (m + 1) * 3, none⟩ = some (.string r.b) ∧ w'.cell? ⟨b, off + (m + 1) * 3 + 1, none⟩ = some (.int .i64 r.s) ∧ w'.cell? ⟨b, off + (m + 1) * 3 + 2, none⟩ = some (.slice r.a r.ws.length r.c)) ∧ (w'.cell? ⟨b, off + m * 3, none⟩ = some (.string q.b) ∧ w'.cell? ⟨b, off + m * 3 + 1, none⟩ = some (.int .i64 q.s) ∧ w'.cell? ⟨b, off + m * 3 + 2, none⟩ = some (.slice q.a q.ws.length q.c)))
     (first | exact keepAsc Hr.out Hq.out g1 z1 (bl_drew (Below.refl _ _)) | exact keepAsc Hr.out Hq.out g1 z1 (bl_trans (bl_drew (Below.refl _ _)) hx) | exact keepAsc Hr.out Hq.out g1 z1 (bl_trans (bl_trans (bl_drew (Below.refl _ _)) hx) hy))
     (first | (go_at_call 70; refine (name_any q _).mono ?_; rintro e w' ⟨rfl, hx⟩) | (go_at_call 70; refine (name_any r _).mono ?_; rintro e w'' ⟨rfl, hy⟩))
    have y1 := bl_trans (bl_trans (bl_drew (Below.refl _ wr)) hx) hy
    have Hb1 : Hid _ := bl_trans hB y1
    clear hx hy y1 hB g1
    go_wp2
    exact ⟨⟨m + 1, by omega, by go_num, Ha.out.step Hq.out Hr.out hasc, Hb1.out⟩, by simp [intOf]; omega⟩
  ·
   go_wp2
   go_ret
   exact ⟨⟨true, rfl, ⟨fun _ j q r hj hq hr => Ha.out j q r (by omega) hq hr, fun _ => rfl⟩⟩, hB⟩
end Go.Proofs.YtefkdohkjdopeaaGreatDoor.P
namespace Go.Proofs.YtefkdohkjdopeaaGreatDoor
open Go.RowKit
set_option linter.unusedVariables false
def inB (n low high : Int) : Bool := decide (low ≤ n) && decide (n ≤ high)
def okc (c : UInt8) : Bool := decide (33 ≤ (c.toNat : Int)) && decide ((c.toNat : Int) ≤ 126)
def nameB (s : ByteArray) : Bool := inB s.size 1 20 && s.data.toList.all okc
theorem specIn_any (n low high : Int) (w : World) : Calls Tryz.prog 25 #[.int .i64 n, .int .i64 low, .int .i64 high] w fun e w' => e = .returned (.bool (inB n low high)) ∧ w' = w := by
 unfold inB
 by_cases h1 : low ≤ n
 ·
  rw [decide_eq_true h1, Bool.true_and]
  go_enter Tryz.func25, Tryz.ntmps25
  go_wp2
  go_ret
  exact ⟨rfl, rfl⟩
 ·
  rw [decide_eq_false h1, Bool.false_and]
  go_enter Tryz.func25, Tryz.ntmps25
  go_wp2
  go_ret
  exact ⟨rfl, rfl⟩
theorem within_any (n low high : Int) (w : World) : Calls Tryz.prog 76 #[.int .i64 n, .int .i64 low, .int .i64 high] w fun e w' => e = .returned (.bool (inB n low high)) ∧ w' = w := by
 unfold inB
 by_cases h1 : low ≤ n
 ·
  rw [decide_eq_true h1, Bool.true_and]
  go_enter Tryz.func76, Tryz.ntmps76
  go_wp2
  go_ret
  exact ⟨rfl, rfl⟩
 ·
  rw [decide_eq_false h1, Bool.false_and]
  go_enter Tryz.func76, Tryz.ntmps76
  go_wp2
  go_ret
  exact ⟨rfl, rfl⟩
theorem ret_b {a b : Bool} (h : a = b) : Ending.returned (.bool a) = .returned (.bool b) := by rw [h]
theorem take_snoc (s : ByteArray) (k : Nat) (h : k < s.size) : s.data.toList.take (k + 1) = s.data.toList.take k ++ [s[k]] := by
 rw [List.take_succ_eq_append_getElem (by simpa using h)]; rfl
theorem all_snoc (s : ByteArray) (k : Nat) (h : k < s.size) (ha : (s.data.toList.take k).all okc = true) (hc : okc s[k] = true) : (s.data.toList.take (k + 1)).all okc = true := by
 rw [take_snoc s k h, List.all_append, ha]; simp [hc]
theorem all_bad (s : ByteArray) (k : Nat) (h : k < s.size) (hc : okc s[k] = false) : s.data.toList.all okc = false := by
 rw [List.all_eq_false]
 exact ⟨s.data.toList[k]'(by simpa using h), List.getElem_mem _, by show ¬ okc s[k] = true; simp [hc]⟩
theorem all_end (s : ByteArray) (k : Nat) (h : s.size ≤ k) (ha : (s.data.toList.take k).all okc = true) : s.data.toList.all okc = true := by
 rwa [List.take_of_length_le (by simpa using h)] at ha
set_option maxHeartbeats 400000 in
theorem specName_any (s : ByteArray) (w : World) (hs : s.size ≤ maxLen) :
  Calls Tryz.prog 23 #[.string s] w fun e w' => e = .returned (.bool (nameB s)) ∧ w' = w := by
 unfold maxLen at hs
 cases hin : inB s.size 1 20
 ·
  rw [show nameB s = false from by simp [nameB, hin]]
  go_enter Tryz.func23, Tryz.ntmps23
  go_wp2_with (go_at_call 25; refine (specIn_any _ _ _ _).mono ?_; rintro e w' ⟨rfl, rfl⟩)
  go_ret
  exact ⟨rfl, rfl⟩
 ·
  have hl : s.size ≤ 20 := by simp [inB] at hin; omega
  have Hn : Hid (nameB s = s.data.toList.all okc) := by show nameB s = _; simp [nameB, hin]
  go_enter Tryz.func23, Tryz.ntmps23
  go_wp2_with (go_at_call 25; refine (specIn_any _ _ _ _).mono ?_; rintro e w' ⟨rfl, rfl⟩)
  go_loop [3] (fun i => ∃ k : Nat, k ≤ s.size ∧ i = .int .i64 k ∧ (s.data.toList.take k).all okc = true) (fun i => s.size - (intOf i).toNat)
  case atStart => exact ⟨0, Nat.zero_le _, rfl, rfl⟩
  case round =>
   obtain ⟨k, hk, rfl, hall⟩ := hrel
   have Ha : Hid _ := hall
   clear hall
   by_cases hlt : k < s.size
   ·
    by_cases b1 : (s[k].toNat : Int) < 33
    ·
     go_wp2
     go_ret
     exact ⟨ret_b (by rw [Hn.out, all_bad s k hlt (by simp [okc]; omega)]), rfl⟩
    ·
     by_cases b2 : 126 < (s[k].toNat : Int)
     ·
      go_wp2
      go_ret
      exact ⟨ret_b (by rw [Hn.out, all_bad s k hlt (by simp [okc]; omega)]), rfl⟩
     ·
      have Hc : Hid (okc s[k] = true) := by show okc s[k] = true; simp [okc]; omega
      go_wp2
      exact ⟨⟨k + 1, by omega, by go_num, all_snoc s k hlt Ha.out Hc.out⟩, by simp [intOf]; omega⟩
   ·
    go_wp2
    go_ret
    exact ⟨ret_b (by rw [Hn.out, all_end s k (by omega) Ha.out]), rfl⟩
set_option maxHeartbeats 400000 in
theorem implName_any (s : ByteArray) (w : World) (hs : s.size ≤ maxLen) :
  Calls Tryz.prog 74 #[.string s] w fun e w' => e = .returned (.bool (nameB s)) ∧ w' = w := by
 unfold maxLen at hs
 cases hin : inB s.size 1 20
 ·
  rw [show nameB s = false from by simp [nameB, hin]]
  go_enter Tryz.func74, Tryz.ntmps74
  go_wp2_with (go_at_call 76; refine (within_any _ _ _ _).mono ?_; rintro e w' ⟨rfl, rfl⟩)
  go_ret
  exact ⟨rfl, rfl⟩
 ·
  have hl : s.size ≤ 20 := by simp [inB] at hin; omega
  have Hn : Hid (nameB s = s.data.toList.all okc) := by show nameB s = _; simp [nameB, hin]
  go_enter Tryz.func74, Tryz.ntmps74
  go_wp2_with (go_at_call 76; refine (within_any _ _ _ _).mono ?_; rintro e w' ⟨rfl, rfl⟩)
  go_loop [10] (fun i => ∃ k : Nat, k ≤ s.size ∧ i = .int .i64 k ∧ (s.data.toList.take k).all okc = true) (fun i => s.size - (intOf i).toNat)
  case atStart => exact ⟨0, Nat.zero_le _, rfl, rfl⟩
  case round =>
   obtain ⟨k, hk, rfl, hall⟩ := hrel
   have Ha : Hid _ := hall
   clear hall
   by_cases hlt : k < s.size
   ·
    by_cases b1 : (s[k].toNat : Int) < 33
    ·
     go_wp2
     go_ret
     exact ⟨ret_b (by rw [Hn.out, all_bad s k hlt (by simp [okc]; omega)]), rfl⟩
    ·
     by_cases b2 : 126 < (s[k].toNat : Int)
     ·
      go_wp2
      go_ret
      exact ⟨ret_b (by rw [Hn.out, all_bad s k hlt (by simp [okc]; omega)]), rfl⟩
     ·
      have Hc : Hid (okc s[k] = true) := by show okc s[k] = true; simp [okc]; omega
      go_wp2
      exact ⟨⟨k + 1, by omega, by go_num, all_snoc s k hlt Ha.out Hc.out⟩, by simp [intOf]; omega⟩
   ·
    go_wp2
    go_ret
    exact ⟨ret_b (by rw [Hn.out, all_end s k (by omega) Ha.out]), rfl⟩
def holdB (s : ByteArray) : Bool := nameB s && !(s.toList == [42])
theorem specHold_any (s : ByteArray) (w : World) (hs : s.size ≤ maxLen) :
  Calls Tryz.prog 24 #[.string s] w fun e w' => e = .returned (.bool (holdB s)) ∧ w' = w := by
 unfold holdB
 cases hn : nameB s
 ·
  go_enter Tryz.func24, Tryz.ntmps24
  go_wp2_with (go_at_call 23; refine (specName_any s _ hs).mono ?_; rintro e w' ⟨rfl, rfl⟩)
  go_ret
  exact ⟨rfl, rfl⟩
 ·
  go_enter Tryz.func24, Tryz.ntmps24
  go_wp2_with (go_at_call 23; refine (specName_any s _ hs).mono ?_; rintro e w' ⟨rfl, rfl⟩)
  go_ret
  exact ⟨rfl, rfl⟩
theorem implHold_any (s : ByteArray) (w : World) (hs : s.size ≤ maxLen) :
  Calls Tryz.prog 75 #[.string s] w fun e w' => e = .returned (.bool (holdB s)) ∧ w' = w := by
 unfold holdB
 cases hn : nameB s
 ·
  go_enter Tryz.func75, Tryz.ntmps75
  go_wp2_with (go_at_call 74; refine (implName_any s _ hs).mono ?_; rintro e w' ⟨rfl, rfl⟩)
  go_ret
  exact ⟨rfl, rfl⟩
 ·
  go_enter Tryz.func75, Tryz.ntmps75
  go_wp2_with (go_at_call 74; refine (implName_any s _ hs).mono ?_; rintro e w' ⟨rfl, rfl⟩)
  go_ret
  exact ⟨rfl, rfl⟩
end Go.Proofs.YtefkdohkjdopeaaGreatDoor
