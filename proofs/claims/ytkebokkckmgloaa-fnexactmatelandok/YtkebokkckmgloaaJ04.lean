import Derived.Test.YtkebokkckmgloaaJ02
import Derived.Deep.RegionHeld3
import Derived.Laws.Pointers
import Derived.StillTactics
import Derived.Test.YtkebokkckmgloaaJ01
import Derived.Laws.EntriesVeiled
import Derived.Test.YtkebokkckmgloaaJ03
/- all and ascends, at places. -/
namespace Go.Proofs.Ytkebokkckmgloaa.P
open Go.RowKit
set_option linter.unusedVariables false

set_option maxRecDepth 4000 in
set_option maxHeartbeats 1000000 in
theorem allOk (P : PlaceD → Bool) (b off cap : Nat) (rs : List PlaceD) (w : World) (hR : RowsAt w b off rs) (l1 : b < w.heap.size) (hl : rs.length ≤ 1048576)
    (hF : ∀ r ∈ rs, ∀ x, Below w.heap.size w x → Calls Try.prog 165 #[.agg #[.string r.b, .int .i64 r.s, .slice r.a r.ws.length r.c]] x fun e x' => e = .returned (.bool (P r)) ∧ Below x.heap.size x x') :
    Calls Try.prog 164 #[.slice (some ⟨b, off, none⟩) rs.length cap, .func (.func 165) #[] #[]] w fun e w' => (∃ q : Bool, e = .returned (.bool q) ∧ (q = true ↔ ∀ r ∈ rs, P r = true)) ∧ Below w.heap.size w w' := by
  have HF : Hid _ := hF
  clear hF
  go_enter Try.func164, Try.ntmps164
  go_wp2
  go_loopw [9] (fun i wx => ∃ (k : Nat), k ≤ rs.length ∧ i = .int .i64 k ∧ Hid (∀ j r, j < k → rs[j]? = some r → P r = true) ∧ Below w.heap.size w wx) (fun i _ => rs.length - (intOf i).toNat)
  case atStart => exact ⟨0, Nat.zero_le _, rfl, fun j r h => by omega, Below.refl _ _⟩
  case round =>
    obtain ⟨k, hk, rfl, Ha, hB⟩ := hrel
    by_cases hlt : k < rs.length
    · obtain ⟨r, hr⟩ : ∃ r, rs[k]? = some r := ⟨rs[k], List.getElem?_eq_getElem hlt⟩
      have Hr : Hid _ := hr
      clear hr
      obtain ⟨c0, c1, c2⟩ := (hR.keep l1 hB).at Hr.out
      go_wp2_with fail
      refine (HF.out r (List.mem_of_getElem? Hr.out) _ (bl_alloc hB _)).mono ?_
      rintro e w1 ⟨rfl, hb⟩
      have hB1 := bl_trans (bl_alloc hB _) hb
      have Hb1 : Hid _ := hB1
      clear hB hb hB1
      cases hP : P r
      · go_wp2
        go_ret
        exact ⟨⟨false, rfl, ⟨fun h => (by cases h), fun h => by have := h r (List.mem_of_getElem? Hr.out); rw [hP] at this; cases this⟩⟩, Hb1.out⟩
      · go_wp2
        exact ⟨⟨k + 1, by omega, by go_num, (fun j q hj hq => by
          by_cases e : j = k
          · subst e; have hh := Hr.out; rw [hh] at hq; cases hq; exact hP
          · exact Ha.out j q (by omega) hq), Hb1.out⟩, by simp [intOf]; omega⟩
    · go_wp2
      go_ret
      exact ⟨⟨true, rfl, ⟨fun _ r hr => by
        obtain ⟨j, hj⟩ := List.getElem?_of_mem hr
        have hjl : j < rs.length := (List.getElem?_eq_some_iff.1 hj).1
        exact Ha.out j r (by omega) hj, fun _ => rfl⟩⟩, hB⟩

theorem name_any (r : PlaceD) (w : World) :
    Calls Try.prog 163 #[.agg #[.string r.b, .int .i64 r.s, .slice r.a r.ws.length r.c]] w fun e w' => e = .returned (.string r.b) ∧ Below w.heap.size w w' := by
  go_enter Try.func163, Try.ntmps163
  go_wp2
  go_ret
  exact ⟨rfl, by repeat (first | exact Below.refl _ _ | refine bl_alloc ?_ _)⟩
/-- Ascending by their names, the first n. -/
def AscN (rs : List PlaceD) (n : Nat) : Prop := ∀ j q r, j + 1 < n → rs[j]? = some q → rs[j + 1]? = some r → Op.bytesLess q.b.toList r.b.toList = true
theorem AscN.step {rs : List PlaceD} {k : Nat} {q r : PlaceD} (h : AscN rs (k + 1)) (hq : rs[k]? = some q) (hr : rs[k + 1]? = some r) (hs : Op.bytesLess q.b.toList r.b.toList = true) : AscN rs (k + 1 + 1) := by
  intro j q' r' hj hq' hr'
  by_cases e : j = k
  · subst e; rw [hq] at hq'; rw [hr] at hr'; cases hq'; cases hr'; exact hs
  · exact h j q' r' (by omega) hq' hr'
theorem keepAsc {x w' : World} {b off m : Nat} {rs : List PlaceD} {r q : PlaceD} (hk : rs[m + 1]? = some r) (hq : rs[m]? = some q) (h1 : RowsAt x b off rs) (l1 : b < x.heap.size) (hb : Below x.heap.size x w') :
    Below x.heap.size x w' ∧ (w'.cell? ⟨b, off + (m + 1) * 3, none⟩ = some (.string r.b) ∧ w'.cell? ⟨b, off + (m + 1) * 3 + 1, none⟩ = some (.int .i64 r.s) ∧ w'.cell? ⟨b, off + (m + 1) * 3 + 2, none⟩ = some (.slice r.a r.ws.length r.c)) ∧ (w'.cell? ⟨b, off + m * 3, none⟩ = some (.string q.b) ∧ w'.cell? ⟨b, off + m * 3 + 1, none⟩ = some (.int .i64 q.s) ∧ w'.cell? ⟨b, off + m * 3 + 2, none⟩ = some (.slice q.a q.ws.length q.c)) := ⟨hb, (h1.keep l1 hb).at hk, (h1.keep l1 hb).at hq⟩

set_option maxRecDepth 4000 in
set_option maxHeartbeats 2000000 in
theorem ascends (b off cap : Nat) (rs : List PlaceD) (w : World) (hR : RowsAt w b off rs) (l1 : b < w.heap.size) (hl : rs.length ≤ 1048576) :
    Calls Try.prog 162 #[.slice (some ⟨b, off, none⟩) rs.length cap, .func (.func 163) #[] #[]] w fun e w' => (∃ q : Bool, e = .returned (.bool q) ∧ (q = true ↔ AscN rs rs.length)) ∧ Below w.heap.size w w' := by
  go_enter Try.func162, Try.ntmps162
  go_wp2
  go_loopw [5] (fun i wx => ∃ (m : Nat), m ≤ rs.length ∧ i = .int .i64 ((m : Int) + 1) ∧ Hid (AscN rs (m + 1)) ∧ Below w.heap.size w wx) (fun i _ => rs.length + 1 - (intOf i).toNat)
  case atStart => exact ⟨0, Nat.zero_le _, rfl, (fun j q r hj _ _ => by omega), Below.refl _ _⟩
  case round =>
    obtain ⟨m, hk, rfl, Ha, hB⟩ := hrel
    by_cases hlt : m + 1 < rs.length
    · obtain ⟨r, hr⟩ : ∃ r, rs[m + 1]? = some r := ⟨rs[m + 1], List.getElem?_eq_getElem hlt⟩
      obtain ⟨q, hq⟩ : ∃ q, rs[m]? = some q := ⟨rs[m], List.getElem?_eq_getElem (by omega)⟩
      have Hr : Hid _ := hr
      have Hq : Hid _ := hq
      clear hr hq
      have g1 := hR.keep l1 hB
      have z1 : b < wr.heap.size := Nat.lt_of_lt_of_le l1 hB.size
      have i0 : (0 : Int) ≤ (m : Int) := by omega
      have i1 : (m : Int) + 1 < (rs.length : Int) := by omega
      have i2 : (m : Int) < (rs.length : Int) := by omega
      have i3 : (0 : Int) ≤ (m : Int) + 1 := by omega
      have iw : IntKind.i64.wrap (m : Int) = (m : Int) := by rw [IntKind.wrap_i64]; omega
      cases hasc : Op.bytesLess q.b.toList r.b.toList
      · go_wp2_with fail
        go_region_held3 (fun w' => Below wr.heap.size wr w' ∧ (w'.cell? ⟨b, off + (m + 1) * 3, none⟩ = some (.string r.b) ∧ w'.cell? ⟨b, off + (m + 1) * 3 + 1, none⟩ = some (.int .i64 r.s) ∧ w'.cell? ⟨b, off + (m + 1) * 3 + 2, none⟩ = some (.slice r.a r.ws.length r.c)) ∧ (w'.cell? ⟨b, off + m * 3, none⟩ = some (.string q.b) ∧ w'.cell? ⟨b, off + m * 3 + 1, none⟩ = some (.int .i64 q.s) ∧ w'.cell? ⟨b, off + m * 3 + 2, none⟩ = some (.slice q.a q.ws.length q.c)))
          (first | exact keepAsc Hr.out Hq.out g1 z1 (bl_drew (Below.refl _ _)) | exact keepAsc Hr.out Hq.out g1 z1 (bl_trans (bl_drew (Below.refl _ _)) hx) | exact keepAsc Hr.out Hq.out g1 z1 (bl_trans (bl_trans (bl_drew (Below.refl _ _)) hx) hy))
          (first | (go_at_call 163; refine (name_any q _).mono ?_; rintro e w' ⟨rfl, hx⟩) | (go_at_call 163; refine (name_any r _).mono ?_; rintro e w'' ⟨rfl, hy⟩))
        have y1 := bl_trans (bl_trans (bl_drew (Below.refl _ wr)) hx) hy
        have Hb1 : Hid _ := bl_trans hB y1
        clear hx hy y1 hB g1
        go_wp2
        go_ret
        exact ⟨⟨false, rfl, ⟨fun h => (by cases h), fun h => by have := h m q r (by omega) Hq.out Hr.out; rw [hasc] at this; cases this⟩⟩, Hb1.out⟩
      · go_wp2_with fail
        go_region_held3 (fun w' => Below wr.heap.size wr w' ∧ (w'.cell? ⟨b, off + (m + 1) * 3, none⟩ = some (.string r.b) ∧ w'.cell? ⟨b, off + (m + 1) * 3 + 1, none⟩ = some (.int .i64 r.s) ∧ w'.cell? ⟨b, off + (m + 1) * 3 + 2, none⟩ = some (.slice r.a r.ws.length r.c)) ∧ (w'.cell? ⟨b, off + m * 3, none⟩ = some (.string q.b) ∧ w'.cell? ⟨b, off + m * 3 + 1, none⟩ = some (.int .i64 q.s) ∧ w'.cell? ⟨b, off + m * 3 + 2, none⟩ = some (.slice q.a q.ws.length q.c)))
          (first | exact keepAsc Hr.out Hq.out g1 z1 (bl_drew (Below.refl _ _)) | exact keepAsc Hr.out Hq.out g1 z1 (bl_trans (bl_drew (Below.refl _ _)) hx) | exact keepAsc Hr.out Hq.out g1 z1 (bl_trans (bl_trans (bl_drew (Below.refl _ _)) hx) hy))
          (first | (go_at_call 163; refine (name_any q _).mono ?_; rintro e w' ⟨rfl, hx⟩) | (go_at_call 163; refine (name_any r _).mono ?_; rintro e w'' ⟨rfl, hy⟩))
        have y1 := bl_trans (bl_trans (bl_drew (Below.refl _ wr)) hx) hy
        have Hb1 : Hid _ := bl_trans hB y1
        clear hx hy y1 hB g1
        go_wp2
        exact ⟨⟨m + 1, by omega, by go_num, Ha.out.step Hq.out Hr.out hasc, Hb1.out⟩, by simp [intOf]; omega⟩
    · go_wp2
      go_ret
      exact ⟨⟨true, rfl, ⟨fun _ j q r hj hq hr => Ha.out j q r (by omega) hq hr, fun _ => rfl⟩⟩, hB⟩
end Go.Proofs.Ytkebokkckmgloaa.P
/- Names, holds and numbers within bounds: both sides. -/
namespace Go.Proofs.Ytkebokkckmgloaa
open Go.RowKit
set_option linter.unusedVariables false

/-- A number within bounds. -/
def inB (n low high : Int) : Bool := decide (low ≤ n) && decide (n ≤ high)
/-- A byte that a name may hold. -/
def okc (c : UInt8) : Bool := decide (33 ≤ (c.toNat : Int)) && decide ((c.toNat : Int) ≤ 126)
def nameB (s : ByteArray) : Bool := inB s.size 1 20 && s.data.toList.all okc

theorem specIn_any (n low high : Int) (w : World) : Calls Try.prog 66 #[.int .i64 n, .int .i64 low, .int .i64 high] w fun e w' => e = .returned (.bool (inB n low high)) ∧ w' = w := by
  unfold inB
  by_cases h1 : low ≤ n
  · rw [decide_eq_true h1, Bool.true_and]
    go_enter Try.func66, Try.ntmps66
    go_wp2
    go_ret
    exact ⟨rfl, rfl⟩
  · rw [decide_eq_false h1, Bool.false_and]
    go_enter Try.func66, Try.ntmps66
    go_wp2
    go_ret
    exact ⟨rfl, rfl⟩

theorem within_any (n low high : Int) (w : World) : Calls Try.prog 130 #[.int .i64 n, .int .i64 low, .int .i64 high] w fun e w' => e = .returned (.bool (inB n low high)) ∧ w' = w := by
  unfold inB
  by_cases h1 : low ≤ n
  · rw [decide_eq_true h1, Bool.true_and]
    go_enter Try.func130, Try.ntmps130
    go_wp2
    go_ret
    exact ⟨rfl, rfl⟩
  · rw [decide_eq_false h1, Bool.false_and]
    go_enter Try.func130, Try.ntmps130
    go_wp2
    go_ret
    exact ⟨rfl, rfl⟩

theorem ret_b {a b : Bool} (h : a = b) : Ending.returned (.bool a) = .returned (.bool b) := by rw [h]
theorem take_snoc (s : ByteArray) (k : Nat) (h : k < s.size) : s.data.toList.take (k + 1) = s.data.toList.take k ++ [s[k]] := by
  rw [List.take_succ_eq_append_getElem (by simpa using h)]; rfl
theorem all_snoc (s : ByteArray) (k : Nat) (h : k < s.size) (ha : (s.data.toList.take k).all okc = true) (hc : okc s[k] = true) : (s.data.toList.take (k + 1)).all okc = true := by
  rw [take_snoc s k h, List.all_append, ha]; simp [hc]
theorem all_bad (s : ByteArray) (k : Nat) (h : k < s.size) (hc : okc s[k] = false) : s.data.toList.all okc = false := by
  rw [List.all_eq_false]
  exact ⟨s.data.toList[k]'(by simpa using h), List.getElem_mem _, by show ¬ okc s[k] = true; simp [hc]⟩
theorem all_end (s : ByteArray) (k : Nat) (h : s.size ≤ k) (ha : (s.data.toList.take k).all okc = true) : s.data.toList.all okc = true := by
  rwa [List.take_of_length_le (by simpa using h)] at ha

set_option maxHeartbeats 400000 in
theorem specName_any (s : ByteArray) (w : World) (hs : s.size ≤ maxLen) :
    Calls Try.prog 65 #[.string s] w fun e w' => e = .returned (.bool (nameB s)) ∧ w' = w := by
  unfold maxLen at hs
  cases hin : inB s.size 1 20
  · rw [show nameB s = false from by simp [nameB, hin]]
    go_enter Try.func65, Try.ntmps65
    go_wp2_with (go_at_call 66; refine (specIn_any _ _ _ _).mono ?_; rintro e w' ⟨rfl, rfl⟩)
    go_ret
    exact ⟨rfl, rfl⟩
  · have hl : s.size ≤ 20 := by simp [inB] at hin; omega
    have Hn : Hid (nameB s = s.data.toList.all okc) := by show nameB s = _; simp [nameB, hin]
    go_enter Try.func65, Try.ntmps65
    go_wp2_with (go_at_call 66; refine (specIn_any _ _ _ _).mono ?_; rintro e w' ⟨rfl, rfl⟩)
    go_loop [3] (fun i => ∃ k : Nat, k ≤ s.size ∧ i = .int .i64 k ∧ (s.data.toList.take k).all okc = true) (fun i => s.size - (intOf i).toNat)
    case atStart => exact ⟨0, Nat.zero_le _, rfl, rfl⟩
    case round =>
      obtain ⟨k, hk, rfl, hall⟩ := hrel
      have Ha : Hid _ := hall
      clear hall
      by_cases hlt : k < s.size
      · by_cases b1 : (s[k].toNat : Int) < 33
        · go_wp2
          go_ret
          exact ⟨ret_b (by rw [Hn.out, all_bad s k hlt (by simp [okc]; omega)]), rfl⟩
        · by_cases b2 : 126 < (s[k].toNat : Int)
          · go_wp2
            go_ret
            exact ⟨ret_b (by rw [Hn.out, all_bad s k hlt (by simp [okc]; omega)]), rfl⟩
          · have Hc : Hid (okc s[k] = true) := by show okc s[k] = true; simp [okc]; omega
            go_wp2
            exact ⟨⟨k + 1, by omega, by go_num, all_snoc s k hlt Ha.out Hc.out⟩, by simp [intOf]; omega⟩
      · go_wp2
        go_ret
        exact ⟨ret_b (by rw [Hn.out, all_end s k (by omega) Ha.out]), rfl⟩

set_option maxHeartbeats 400000 in
theorem implName_any (s : ByteArray) (w : World) (hs : s.size ≤ maxLen) :
    Calls Try.prog 129 #[.string s] w fun e w' => e = .returned (.bool (nameB s)) ∧ w' = w := by
  unfold maxLen at hs
  cases hin : inB s.size 1 20
  · rw [show nameB s = false from by simp [nameB, hin]]
    go_enter Try.func129, Try.ntmps129
    go_wp2_with (go_at_call 130; refine (within_any _ _ _ _).mono ?_; rintro e w' ⟨rfl, rfl⟩)
    go_ret
    exact ⟨rfl, rfl⟩
  · have hl : s.size ≤ 20 := by simp [inB] at hin; omega
    have Hn : Hid (nameB s = s.data.toList.all okc) := by show nameB s = _; simp [nameB, hin]
    go_enter Try.func129, Try.ntmps129
    go_wp2_with (go_at_call 130; refine (within_any _ _ _ _).mono ?_; rintro e w' ⟨rfl, rfl⟩)
    go_loop [10] (fun i => ∃ k : Nat, k ≤ s.size ∧ i = .int .i64 k ∧ (s.data.toList.take k).all okc = true) (fun i => s.size - (intOf i).toNat)
    case atStart => exact ⟨0, Nat.zero_le _, rfl, rfl⟩
    case round =>
      obtain ⟨k, hk, rfl, hall⟩ := hrel
      have Ha : Hid _ := hall
      clear hall
      by_cases hlt : k < s.size
      · by_cases b1 : (s[k].toNat : Int) < 33
        · go_wp2
          go_ret
          exact ⟨ret_b (by rw [Hn.out, all_bad s k hlt (by simp [okc]; omega)]), rfl⟩
        · by_cases b2 : 126 < (s[k].toNat : Int)
          · go_wp2
            go_ret
            exact ⟨ret_b (by rw [Hn.out, all_bad s k hlt (by simp [okc]; omega)]), rfl⟩
          · have Hc : Hid (okc s[k] = true) := by show okc s[k] = true; simp [okc]; omega
            go_wp2
            exact ⟨⟨k + 1, by omega, by go_num, all_snoc s k hlt Ha.out Hc.out⟩, by simp [intOf]; omega⟩
      · go_wp2
        go_ret
        exact ⟨ret_b (by rw [Hn.out, all_end s k (by omega) Ha.out]), rfl⟩

/-- A hold: a name other than a star. -/
def holdB (s : ByteArray) : Bool := nameB s && !(s.toList == [42])

theorem specHold_any (s : ByteArray) (w : World) (hs : s.size ≤ maxLen) :
    Calls Try.prog 110 #[.string s] w fun e w' => e = .returned (.bool (holdB s)) ∧ w' = w := by
  unfold holdB
  cases hn : nameB s
  · go_enter Try.func110, Try.ntmps110
    go_wp2_with (go_at_call 65; refine (specName_any s _ hs).mono ?_; rintro e w' ⟨rfl, rfl⟩)
    go_ret
    exact ⟨rfl, rfl⟩
  · go_enter Try.func110, Try.ntmps110
    go_wp2_with (go_at_call 65; refine (specName_any s _ hs).mono ?_; rintro e w' ⟨rfl, rfl⟩)
    go_ret
    exact ⟨rfl, rfl⟩
theorem implHold_any (s : ByteArray) (w : World) (hs : s.size ≤ maxLen) :
    Calls Try.prog 182 #[.string s] w fun e w' => e = .returned (.bool (holdB s)) ∧ w' = w := by
  unfold holdB
  cases hn : nameB s
  · go_enter Try.func182, Try.ntmps182
    go_wp2_with (go_at_call 129; refine (implName_any s _ hs).mono ?_; rintro e w' ⟨rfl, rfl⟩)
    go_ret
    exact ⟨rfl, rfl⟩
  · go_enter Try.func182, Try.ntmps182
    go_wp2_with (go_at_call 129; refine (implName_any s _ hs).mono ?_; rintro e w' ⟨rfl, rfl⟩)
    go_ret
    exact ⟨rfl, rfl⟩
end Go.Proofs.Ytkebokkckmgloaa
/- Is a want alone such? Both sides. -/
namespace Go.Proofs.Ytkebokkckmgloaa
open Go.RowKit
set_option linter.unusedVariables false

def ticksB (p s d g : Int) : Bool := inB p 0 100 && (inB s 0 100 && (inB d 0 100 && inB g 0 100))
def wantB (c h : ByteArray) (v p s d g : Int) : Bool := nameB c && (inB v 1 1000000 && ((h.toList.isEmpty || holdB h) && ticksB p s d g))

set_option maxHeartbeats 1000000 in
theorem specWant_any (c h : ByteArray) (v p s d g : Int) (w : World) (hc : c.size ≤ maxLen) (hh : h.size ≤ maxLen) :
    Calls Try.prog 85 #[.agg #[.string c, .int .i64 v, .string h, .int .i64 p, .int .i64 s, .int .i64 d, .int .i64 g]] w fun e w' => e = .returned (.bool (wantB c h v p s d g)) ∧ w' = w.alloc (.cells #[.string c, .int .i64 v, .string h, .int .i64 p, .int .i64 s, .int .i64 d, .int .i64 g] 36) := by
  cases h0 : nameB c
  · go_enter Try.func85, Try.ntmps85
    go_wp2_with (first | (go_at_call 65; refine (specName_any c _ hc).mono ?_; rintro e w' ⟨rfl, rfl⟩) | (go_at_call 110; refine (specHold_any h _ hh).mono ?_; rintro e w' ⟨rfl, rfl⟩) | (go_at_call 66; refine (specIn_any _ _ _ _).mono ?_; rintro e w' ⟨rfl, rfl⟩))
    go_ret
    exact ⟨ret_b (by simp [wantB, ticksB, *]), rfl⟩
  · skip
    cases h1 : inB v 1 1000000
    · go_enter Try.func85, Try.ntmps85
      go_wp2_with (first | (go_at_call 65; refine (specName_any c _ hc).mono ?_; rintro e w' ⟨rfl, rfl⟩) | (go_at_call 110; refine (specHold_any h _ hh).mono ?_; rintro e w' ⟨rfl, rfl⟩) | (go_at_call 66; refine (specIn_any _ _ _ _).mono ?_; rintro e w' ⟨rfl, rfl⟩))
      go_ret
      exact ⟨ret_b (by simp [wantB, ticksB, *]), rfl⟩
    · skip
      have he : (h.toList.isEmpty || holdB h) = false ∨ (h.toList.isEmpty = true) ∨ (h.toList.isEmpty = false ∧ holdB h = true) := by cases h.toList.isEmpty <;> cases holdB h <;> simp
      rcases he with he | he | he
      · obtain ⟨e1, e2⟩ : h.toList.isEmpty = false ∧ holdB h = false := by simpa using he
        clear he
        go_enter Try.func85, Try.ntmps85
        go_wp2_with (first | (go_at_call 65; refine (specName_any c _ hc).mono ?_; rintro e w' ⟨rfl, rfl⟩) | (go_at_call 110; refine (specHold_any h _ hh).mono ?_; rintro e w' ⟨rfl, rfl⟩) | (go_at_call 66; refine (specIn_any _ _ _ _).mono ?_; rintro e w' ⟨rfl, rfl⟩))
        go_ret
        exact ⟨ret_b (by simp [wantB, ticksB, *]), rfl⟩
      · skip
        cases q0 : inB p 0 100
        · go_enter Try.func85, Try.ntmps85
          go_wp2_with (first | (go_at_call 65; refine (specName_any c _ hc).mono ?_; rintro e w' ⟨rfl, rfl⟩) | (go_at_call 110; refine (specHold_any h _ hh).mono ?_; rintro e w' ⟨rfl, rfl⟩) | (go_at_call 66; refine (specIn_any _ _ _ _).mono ?_; rintro e w' ⟨rfl, rfl⟩))
          go_ret
          exact ⟨ret_b (by simp [wantB, ticksB, *]), rfl⟩
        · skip
          cases q1 : inB s 0 100
          · go_enter Try.func85, Try.ntmps85
            go_wp2_with (first | (go_at_call 65; refine (specName_any c _ hc).mono ?_; rintro e w' ⟨rfl, rfl⟩) | (go_at_call 110; refine (specHold_any h _ hh).mono ?_; rintro e w' ⟨rfl, rfl⟩) | (go_at_call 66; refine (specIn_any _ _ _ _).mono ?_; rintro e w' ⟨rfl, rfl⟩))
            go_ret
            exact ⟨ret_b (by simp [wantB, ticksB, *]), rfl⟩
          · skip
            cases q2 : inB d 0 100
            · go_enter Try.func85, Try.ntmps85
              go_wp2_with (first | (go_at_call 65; refine (specName_any c _ hc).mono ?_; rintro e w' ⟨rfl, rfl⟩) | (go_at_call 110; refine (specHold_any h _ hh).mono ?_; rintro e w' ⟨rfl, rfl⟩) | (go_at_call 66; refine (specIn_any _ _ _ _).mono ?_; rintro e w' ⟨rfl, rfl⟩))
              go_ret
              exact ⟨ret_b (by simp [wantB, ticksB, *]), rfl⟩
            · skip
              cases q3 : inB g 0 100
              · go_enter Try.func85, Try.ntmps85
                go_wp2_with (first | (go_at_call 65; refine (specName_any c _ hc).mono ?_; rintro e w' ⟨rfl, rfl⟩) | (go_at_call 110; refine (specHold_any h _ hh).mono ?_; rintro e w' ⟨rfl, rfl⟩) | (go_at_call 66; refine (specIn_any _ _ _ _).mono ?_; rintro e w' ⟨rfl, rfl⟩))
                go_ret
                exact ⟨ret_b (by simp [wantB, ticksB, *]), rfl⟩
              · go_enter Try.func85, Try.ntmps85
                go_wp2_with (first | (go_at_call 65; refine (specName_any c _ hc).mono ?_; rintro e w' ⟨rfl, rfl⟩) | (go_at_call 110; refine (specHold_any h _ hh).mono ?_; rintro e w' ⟨rfl, rfl⟩) | (go_at_call 66; refine (specIn_any _ _ _ _).mono ?_; rintro e w' ⟨rfl, rfl⟩))
                go_ret
                exact ⟨ret_b (by simp [wantB, ticksB, *]), rfl⟩
      · obtain ⟨e1, e2⟩ := he
        cases q0 : inB p 0 100
        · go_enter Try.func85, Try.ntmps85
          go_wp2_with (first | (go_at_call 65; refine (specName_any c _ hc).mono ?_; rintro e w' ⟨rfl, rfl⟩) | (go_at_call 110; refine (specHold_any h _ hh).mono ?_; rintro e w' ⟨rfl, rfl⟩) | (go_at_call 66; refine (specIn_any _ _ _ _).mono ?_; rintro e w' ⟨rfl, rfl⟩))
          go_ret
          exact ⟨ret_b (by simp [wantB, ticksB, *]), rfl⟩
        · skip
          cases q1 : inB s 0 100
          · go_enter Try.func85, Try.ntmps85
            go_wp2_with (first | (go_at_call 65; refine (specName_any c _ hc).mono ?_; rintro e w' ⟨rfl, rfl⟩) | (go_at_call 110; refine (specHold_any h _ hh).mono ?_; rintro e w' ⟨rfl, rfl⟩) | (go_at_call 66; refine (specIn_any _ _ _ _).mono ?_; rintro e w' ⟨rfl, rfl⟩))
            go_ret
            exact ⟨ret_b (by simp [wantB, ticksB, *]), rfl⟩
          · skip
            cases q2 : inB d 0 100
            · go_enter Try.func85, Try.ntmps85
              go_wp2_with (first | (go_at_call 65; refine (specName_any c _ hc).mono ?_; rintro e w' ⟨rfl, rfl⟩) | (go_at_call 110; refine (specHold_any h _ hh).mono ?_; rintro e w' ⟨rfl, rfl⟩) | (go_at_call 66; refine (specIn_any _ _ _ _).mono ?_; rintro e w' ⟨rfl, rfl⟩))
              go_ret
              exact ⟨ret_b (by simp [wantB, ticksB, *]), rfl⟩
            · skip
              cases q3 : inB g 0 100
              · go_enter Try.func85, Try.ntmps85
                go_wp2_with (first | (go_at_call 65; refine (specName_any c _ hc).mono ?_; rintro e w' ⟨rfl, rfl⟩) | (go_at_call 110; refine (specHold_any h _ hh).mono ?_; rintro e w' ⟨rfl, rfl⟩) | (go_at_call 66; refine (specIn_any _ _ _ _).mono ?_; rintro e w' ⟨rfl, rfl⟩))
                go_ret
                exact ⟨ret_b (by simp [wantB, ticksB, *]), rfl⟩
              · go_enter Try.func85, Try.ntmps85
                go_wp2_with (first | (go_at_call 65; refine (specName_any c _ hc).mono ?_; rintro e w' ⟨rfl, rfl⟩) | (go_at_call 110; refine (specHold_any h _ hh).mono ?_; rintro e w' ⟨rfl, rfl⟩) | (go_at_call 66; refine (specIn_any _ _ _ _).mono ?_; rintro e w' ⟨rfl, rfl⟩))
                go_ret
                exact ⟨ret_b (by simp [wantB, ticksB, *]), rfl⟩

theorem copyOk_any (c h : ByteArray) (v p s d g : Int) (w : World) (hc : c.size ≤ maxLen) (hh : h.size ≤ maxLen) :
    Calls Try.prog 178 #[.agg #[.string c, .int .i64 v, .string h, .int .i64 p, .int .i64 s, .int .i64 d, .int .i64 g]] w fun e w' => e = .returned (.bool (nameB c)) ∧ w' = w.alloc (.cells #[.string c, .int .i64 v, .string h, .int .i64 p, .int .i64 s, .int .i64 d, .int .i64 g] 36) := by
  go_enter Try.func178, Try.ntmps178
  go_wp2_with (go_at_call 129; refine (implName_any c _ hc).mono ?_; rintro e w' ⟨rfl, rfl⟩)
  go_ret
  exact ⟨rfl, rfl⟩

theorem versionOk_any (c h : ByteArray) (v p s d g : Int) (w : World) (hc : c.size ≤ maxLen) (hh : h.size ≤ maxLen) :
    Calls Try.prog 179 #[.agg #[.string c, .int .i64 v, .string h, .int .i64 p, .int .i64 s, .int .i64 d, .int .i64 g]] w fun e w' => e = .returned (.bool (inB v 1 1000000)) ∧ w' = w.alloc (.cells #[.string c, .int .i64 v, .string h, .int .i64 p, .int .i64 s, .int .i64 d, .int .i64 g] 36) := by
  go_enter Try.func179, Try.ntmps179
  go_wp2_with (go_at_call 130; refine (within_any _ _ _ _).mono ?_; rintro e w' ⟨rfl, rfl⟩)
  go_ret
  exact ⟨rfl, rfl⟩

theorem holdOk_any (c h : ByteArray) (v p s d g : Int) (w : World) (hc : c.size ≤ maxLen) (hh : h.size ≤ maxLen) :
    Calls Try.prog 180 #[.agg #[.string c, .int .i64 v, .string h, .int .i64 p, .int .i64 s, .int .i64 d, .int .i64 g]] w fun e w' => e = .returned (.bool (h.toList.isEmpty || holdB h)) ∧ w' = w.alloc (.cells #[.string c, .int .i64 v, .string h, .int .i64 p, .int .i64 s, .int .i64 d, .int .i64 g] 36) := by
  cases he : h.toList.isEmpty
  · go_enter Try.func180, Try.ntmps180
    go_wp2_with (go_at_call 182; refine (implHold_any h _ hh).mono ?_; rintro e w' ⟨rfl, rfl⟩)
    go_ret
    exact ⟨rfl, rfl⟩
  · go_enter Try.func180, Try.ntmps180
    go_wp2
    go_ret
    exact ⟨rfl, rfl⟩

theorem build4 (p s d g : Int) (w : World) : Sem.run Try.prog (Instr.build 201 #[(0, .int .i64 p), (1, .int .i64 s), (2, .int .i64 d), (3, .int .i64 g)]) w = .ok (.agg #[.int .i64 p, .int .i64 s, .int .i64 d, .int .i64 g]) w := by kernel_rfl
set_option maxHeartbeats 1000000 in
theorem ticksOk_any (c h : ByteArray) (v p s d g : Int) (w : World) (hc : c.size ≤ maxLen) (hh : h.size ≤ maxLen) :
    Calls Try.prog 181 #[.agg #[.string c, .int .i64 v, .string h, .int .i64 p, .int .i64 s, .int .i64 d, .int .i64 g]] w fun e w' => e = .returned (.bool (ticksB p s d g)) ∧ w' = w.alloc (.cells #[.string c, .int .i64 v, .string h, .int .i64 p, .int .i64 s, .int .i64 d, .int .i64 g] 36) := by
  have hb4 := build4
  have i0 : ∀ w, Sem.run Try.prog (Instr.index 201 (.agg #[.int .i64 p, .int .i64 s, .int .i64 d, .int .i64 g]) (.int .i64 0)) w = .ok (.int .i64 p) w := fun _ => by kernel_rfl
  have i1 : ∀ w, Sem.run Try.prog (Instr.index 201 (.agg #[.int .i64 p, .int .i64 s, .int .i64 d, .int .i64 g]) (.int .i64 1)) w = .ok (.int .i64 s) w := fun _ => by kernel_rfl
  have i2 : ∀ w, Sem.run Try.prog (Instr.index 201 (.agg #[.int .i64 p, .int .i64 s, .int .i64 d, .int .i64 g]) (.int .i64 2)) w = .ok (.int .i64 d) w := fun _ => by kernel_rfl
  have i3 : ∀ w, Sem.run Try.prog (Instr.index 201 (.agg #[.int .i64 p, .int .i64 s, .int .i64 d, .int .i64 g]) (.int .i64 3)) w = .ok (.int .i64 g) w := fun _ => by kernel_rfl
  cases q0 : inB p 0 100
  · go_enter Try.func181, Try.ntmps181
    go_wp2
    refine wp_loop_rounds 1 ?_
    rw [rounds_succ]
    go_wp2_with (go_at_call 130; refine (within_any _ _ _ _).mono ?_; rintro e w' ⟨rfl, rfl⟩)
    go_ret
    exact ⟨ret_b (by simp [ticksB, *]), rfl⟩
  · skip
    cases q1 : inB s 0 100
    · go_enter Try.func181, Try.ntmps181
      go_wp2
      refine wp_loop_rounds 2 ?_
      rw [rounds_succ]
      go_wp2_with (go_at_call 130; refine (within_any _ _ _ _).mono ?_; rintro e w' ⟨rfl, rfl⟩)
      rw [rounds_succ]
      go_wp2_with (go_at_call 130; refine (within_any _ _ _ _).mono ?_; rintro e w' ⟨rfl, rfl⟩)
      go_ret
      exact ⟨ret_b (by simp [ticksB, *]), rfl⟩
    · skip
      cases q2 : inB d 0 100
      · go_enter Try.func181, Try.ntmps181
        go_wp2
        refine wp_loop_rounds 3 ?_
        rw [rounds_succ]
        go_wp2_with (go_at_call 130; refine (within_any _ _ _ _).mono ?_; rintro e w' ⟨rfl, rfl⟩)
        rw [rounds_succ]
        go_wp2_with (go_at_call 130; refine (within_any _ _ _ _).mono ?_; rintro e w' ⟨rfl, rfl⟩)
        rw [rounds_succ]
        go_wp2_with (go_at_call 130; refine (within_any _ _ _ _).mono ?_; rintro e w' ⟨rfl, rfl⟩)
        go_ret
        exact ⟨ret_b (by simp [ticksB, *]), rfl⟩
      · skip
        cases q3 : inB g 0 100
        · go_enter Try.func181, Try.ntmps181
          go_wp2
          refine wp_loop_rounds 4 ?_
          rw [rounds_succ]
          go_wp2_with (go_at_call 130; refine (within_any _ _ _ _).mono ?_; rintro e w' ⟨rfl, rfl⟩)
          rw [rounds_succ]
          go_wp2_with (go_at_call 130; refine (within_any _ _ _ _).mono ?_; rintro e w' ⟨rfl, rfl⟩)
          rw [rounds_succ]
          go_wp2_with (go_at_call 130; refine (within_any _ _ _ _).mono ?_; rintro e w' ⟨rfl, rfl⟩)
          rw [rounds_succ]
          go_wp2_with (go_at_call 130; refine (within_any _ _ _ _).mono ?_; rintro e w' ⟨rfl, rfl⟩)
          go_ret
          exact ⟨ret_b (by simp [ticksB, *]), rfl⟩
        · go_enter Try.func181, Try.ntmps181
          go_wp2
          refine wp_loop_rounds 5 ?_
          rw [rounds_succ]
          go_wp2_with (go_at_call 130; refine (within_any _ _ _ _).mono ?_; rintro e w' ⟨rfl, rfl⟩)
          rw [rounds_succ]
          go_wp2_with (go_at_call 130; refine (within_any _ _ _ _).mono ?_; rintro e w' ⟨rfl, rfl⟩)
          rw [rounds_succ]
          go_wp2_with (go_at_call 130; refine (within_any _ _ _ _).mono ?_; rintro e w' ⟨rfl, rfl⟩)
          rw [rounds_succ]
          go_wp2_with (go_at_call 130; refine (within_any _ _ _ _).mono ?_; rintro e w' ⟨rfl, rfl⟩)
          rw [rounds_succ]
          go_wp2_with (go_at_call 130; refine (within_any _ _ _ _).mono ?_; rintro e w' ⟨rfl, rfl⟩)
          go_ret
          exact ⟨ret_b (by simp [ticksB, *]), rfl⟩

theorem build_checks (w : World) : Sem.run Try.prog (Instr.buildSlice 200 4 #[(0, .func (.func 178) #[] #[]), (1, .func (.func 179) #[] #[]), (2, .func (.func 180) #[] #[]), (3, .func (.func 181) #[] #[])]) w = .ok (.slice (some ⟨w.heap.size, 0, none⟩) 4 4) (w.alloc (.cells #[.func (.func 178) #[] #[], .func (.func 179) #[] #[], .func (.func 180) #[] #[], .func (.func 181) #[] #[]] 119)) := by kernel_rfl
set_option maxHeartbeats 2000000 in
theorem implWant_any (c h : ByteArray) (v p s d g : Int) (w : World) (hc : c.size ≤ maxLen) (hh : h.size ≤ maxLen) :
    Calls Try.prog 142 #[.agg #[.string c, .int .i64 v, .string h, .int .i64 p, .int .i64 s, .int .i64 d, .int .i64 g]] w fun e w' => e = .returned (.bool (wantB c h v p s d g)) ∧ Below w.heap.size w w' := by
  have hbc := build_checks
  cases q0 : nameB c
  · go_enter Try.func142, Try.ntmps142
    go_wp2_with go_in
    refine wp_loop_rounds 1 ?_
    rw [rounds_succ]
    go_wp2_with (first | (go_at_call 178; refine (copyOk_any c h v p s d g _ hc hh).mono ?_; rintro e w' ⟨rfl, rfl⟩) | (go_at_call 179; refine (versionOk_any c h v p s d g _ hc hh).mono ?_; rintro e w' ⟨rfl, rfl⟩) | (go_at_call 180; refine (holdOk_any c h v p s d g _ hc hh).mono ?_; rintro e w' ⟨rfl, rfl⟩) | (go_at_call 181; refine (ticksOk_any c h v p s d g _ hc hh).mono ?_; rintro e w' ⟨rfl, rfl⟩) | go_in)
    go_ret
    exact ⟨ret_b (by simp [wantB, *]), by repeat (first | exact Below.refl _ _ | refine bl_alloc ?_ _ | refine bl_drew ?_)⟩
  · skip
    cases q1 : inB v 1 1000000
    · go_enter Try.func142, Try.ntmps142
      go_wp2_with go_in
      refine wp_loop_rounds 2 ?_
      rw [rounds_succ]
      go_wp2_with (first | (go_at_call 178; refine (copyOk_any c h v p s d g _ hc hh).mono ?_; rintro e w' ⟨rfl, rfl⟩) | (go_at_call 179; refine (versionOk_any c h v p s d g _ hc hh).mono ?_; rintro e w' ⟨rfl, rfl⟩) | (go_at_call 180; refine (holdOk_any c h v p s d g _ hc hh).mono ?_; rintro e w' ⟨rfl, rfl⟩) | (go_at_call 181; refine (ticksOk_any c h v p s d g _ hc hh).mono ?_; rintro e w' ⟨rfl, rfl⟩) | go_in)
      rw [rounds_succ]
      go_wp2_with (first | (go_at_call 178; refine (copyOk_any c h v p s d g _ hc hh).mono ?_; rintro e w' ⟨rfl, rfl⟩) | (go_at_call 179; refine (versionOk_any c h v p s d g _ hc hh).mono ?_; rintro e w' ⟨rfl, rfl⟩) | (go_at_call 180; refine (holdOk_any c h v p s d g _ hc hh).mono ?_; rintro e w' ⟨rfl, rfl⟩) | (go_at_call 181; refine (ticksOk_any c h v p s d g _ hc hh).mono ?_; rintro e w' ⟨rfl, rfl⟩) | go_in)
      go_ret
      exact ⟨ret_b (by simp [wantB, *]), by repeat (first | exact Below.refl _ _ | refine bl_alloc ?_ _ | refine bl_drew ?_)⟩
    · skip
      cases q2 : (h.toList.isEmpty || holdB h)
      · go_enter Try.func142, Try.ntmps142
        go_wp2_with go_in
        refine wp_loop_rounds 3 ?_
        rw [rounds_succ]
        go_wp2_with (first | (go_at_call 178; refine (copyOk_any c h v p s d g _ hc hh).mono ?_; rintro e w' ⟨rfl, rfl⟩) | (go_at_call 179; refine (versionOk_any c h v p s d g _ hc hh).mono ?_; rintro e w' ⟨rfl, rfl⟩) | (go_at_call 180; refine (holdOk_any c h v p s d g _ hc hh).mono ?_; rintro e w' ⟨rfl, rfl⟩) | (go_at_call 181; refine (ticksOk_any c h v p s d g _ hc hh).mono ?_; rintro e w' ⟨rfl, rfl⟩) | go_in)
        rw [rounds_succ]
        go_wp2_with (first | (go_at_call 178; refine (copyOk_any c h v p s d g _ hc hh).mono ?_; rintro e w' ⟨rfl, rfl⟩) | (go_at_call 179; refine (versionOk_any c h v p s d g _ hc hh).mono ?_; rintro e w' ⟨rfl, rfl⟩) | (go_at_call 180; refine (holdOk_any c h v p s d g _ hc hh).mono ?_; rintro e w' ⟨rfl, rfl⟩) | (go_at_call 181; refine (ticksOk_any c h v p s d g _ hc hh).mono ?_; rintro e w' ⟨rfl, rfl⟩) | go_in)
        rw [rounds_succ]
        go_wp2_with (first | (go_at_call 178; refine (copyOk_any c h v p s d g _ hc hh).mono ?_; rintro e w' ⟨rfl, rfl⟩) | (go_at_call 179; refine (versionOk_any c h v p s d g _ hc hh).mono ?_; rintro e w' ⟨rfl, rfl⟩) | (go_at_call 180; refine (holdOk_any c h v p s d g _ hc hh).mono ?_; rintro e w' ⟨rfl, rfl⟩) | (go_at_call 181; refine (ticksOk_any c h v p s d g _ hc hh).mono ?_; rintro e w' ⟨rfl, rfl⟩) | go_in)
        go_ret
        exact ⟨ret_b (by simp [wantB, *]), by repeat (first | exact Below.refl _ _ | refine bl_alloc ?_ _ | refine bl_drew ?_)⟩
      · skip
        cases q3 : ticksB p s d g
        · go_enter Try.func142, Try.ntmps142
          go_wp2_with go_in
          refine wp_loop_rounds 4 ?_
          rw [rounds_succ]
          go_wp2_with (first | (go_at_call 178; refine (copyOk_any c h v p s d g _ hc hh).mono ?_; rintro e w' ⟨rfl, rfl⟩) | (go_at_call 179; refine (versionOk_any c h v p s d g _ hc hh).mono ?_; rintro e w' ⟨rfl, rfl⟩) | (go_at_call 180; refine (holdOk_any c h v p s d g _ hc hh).mono ?_; rintro e w' ⟨rfl, rfl⟩) | (go_at_call 181; refine (ticksOk_any c h v p s d g _ hc hh).mono ?_; rintro e w' ⟨rfl, rfl⟩) | go_in)
          rw [rounds_succ]
          go_wp2_with (first | (go_at_call 178; refine (copyOk_any c h v p s d g _ hc hh).mono ?_; rintro e w' ⟨rfl, rfl⟩) | (go_at_call 179; refine (versionOk_any c h v p s d g _ hc hh).mono ?_; rintro e w' ⟨rfl, rfl⟩) | (go_at_call 180; refine (holdOk_any c h v p s d g _ hc hh).mono ?_; rintro e w' ⟨rfl, rfl⟩) | (go_at_call 181; refine (ticksOk_any c h v p s d g _ hc hh).mono ?_; rintro e w' ⟨rfl, rfl⟩) | go_in)
          rw [rounds_succ]
          go_wp2_with (first | (go_at_call 178; refine (copyOk_any c h v p s d g _ hc hh).mono ?_; rintro e w' ⟨rfl, rfl⟩) | (go_at_call 179; refine (versionOk_any c h v p s d g _ hc hh).mono ?_; rintro e w' ⟨rfl, rfl⟩) | (go_at_call 180; refine (holdOk_any c h v p s d g _ hc hh).mono ?_; rintro e w' ⟨rfl, rfl⟩) | (go_at_call 181; refine (ticksOk_any c h v p s d g _ hc hh).mono ?_; rintro e w' ⟨rfl, rfl⟩) | go_in)
          rw [rounds_succ]
          go_wp2_with (first | (go_at_call 178; refine (copyOk_any c h v p s d g _ hc hh).mono ?_; rintro e w' ⟨rfl, rfl⟩) | (go_at_call 179; refine (versionOk_any c h v p s d g _ hc hh).mono ?_; rintro e w' ⟨rfl, rfl⟩) | (go_at_call 180; refine (holdOk_any c h v p s d g _ hc hh).mono ?_; rintro e w' ⟨rfl, rfl⟩) | (go_at_call 181; refine (ticksOk_any c h v p s d g _ hc hh).mono ?_; rintro e w' ⟨rfl, rfl⟩) | go_in)
          go_ret
          exact ⟨ret_b (by simp [wantB, *]), by repeat (first | exact Below.refl _ _ | refine bl_alloc ?_ _ | refine bl_drew ?_)⟩
        · go_enter Try.func142, Try.ntmps142
          go_wp2_with go_in
          refine wp_loop_rounds 5 ?_
          rw [rounds_succ]
          go_wp2_with (first | (go_at_call 178; refine (copyOk_any c h v p s d g _ hc hh).mono ?_; rintro e w' ⟨rfl, rfl⟩) | (go_at_call 179; refine (versionOk_any c h v p s d g _ hc hh).mono ?_; rintro e w' ⟨rfl, rfl⟩) | (go_at_call 180; refine (holdOk_any c h v p s d g _ hc hh).mono ?_; rintro e w' ⟨rfl, rfl⟩) | (go_at_call 181; refine (ticksOk_any c h v p s d g _ hc hh).mono ?_; rintro e w' ⟨rfl, rfl⟩) | go_in)
          rw [rounds_succ]
          go_wp2_with (first | (go_at_call 178; refine (copyOk_any c h v p s d g _ hc hh).mono ?_; rintro e w' ⟨rfl, rfl⟩) | (go_at_call 179; refine (versionOk_any c h v p s d g _ hc hh).mono ?_; rintro e w' ⟨rfl, rfl⟩) | (go_at_call 180; refine (holdOk_any c h v p s d g _ hc hh).mono ?_; rintro e w' ⟨rfl, rfl⟩) | (go_at_call 181; refine (ticksOk_any c h v p s d g _ hc hh).mono ?_; rintro e w' ⟨rfl, rfl⟩) | go_in)
          rw [rounds_succ]
          go_wp2_with (first | (go_at_call 178; refine (copyOk_any c h v p s d g _ hc hh).mono ?_; rintro e w' ⟨rfl, rfl⟩) | (go_at_call 179; refine (versionOk_any c h v p s d g _ hc hh).mono ?_; rintro e w' ⟨rfl, rfl⟩) | (go_at_call 180; refine (holdOk_any c h v p s d g _ hc hh).mono ?_; rintro e w' ⟨rfl, rfl⟩) | (go_at_call 181; refine (ticksOk_any c h v p s d g _ hc hh).mono ?_; rintro e w' ⟨rfl, rfl⟩) | go_in)
          rw [rounds_succ]
          go_wp2_with (first | (go_at_call 178; refine (copyOk_any c h v p s d g _ hc hh).mono ?_; rintro e w' ⟨rfl, rfl⟩) | (go_at_call 179; refine (versionOk_any c h v p s d g _ hc hh).mono ?_; rintro e w' ⟨rfl, rfl⟩) | (go_at_call 180; refine (holdOk_any c h v p s d g _ hc hh).mono ?_; rintro e w' ⟨rfl, rfl⟩) | (go_at_call 181; refine (ticksOk_any c h v p s d g _ hc hh).mono ?_; rintro e w' ⟨rfl, rfl⟩) | go_in)
          rw [rounds_succ]
          go_wp2_with (first | (go_at_call 178; refine (copyOk_any c h v p s d g _ hc hh).mono ?_; rintro e w' ⟨rfl, rfl⟩) | (go_at_call 179; refine (versionOk_any c h v p s d g _ hc hh).mono ?_; rintro e w' ⟨rfl, rfl⟩) | (go_at_call 180; refine (holdOk_any c h v p s d g _ hc hh).mono ?_; rintro e w' ⟨rfl, rfl⟩) | (go_at_call 181; refine (ticksOk_any c h v p s d g _ hc hh).mono ?_; rintro e w' ⟨rfl, rfl⟩) | go_in)
          go_ret
          exact ⟨ret_b (by simp [wantB, *]), by repeat (first | exact Below.refl _ _ | refine bl_alloc ?_ _ | refine bl_drew ?_)⟩
end Go.Proofs.Ytkebokkckmgloaa
/- MateWantsOk: what is asked. -/
namespace Go.Proofs.Ytkebokkckmgloaa.W
open Go.RowKit
set_option linter.unusedVariables false

def WantD.ok (r : WantD) : Bool := wantB r.c r.h r.v r.p r.s r.d r.g
def ascB (q r : WantD) : Bool := Op.bytesLess q.c.toList r.c.toList
/-- Two that would hold one thing. -/
def clash (q r : WantD) : Bool := !r.h.toList.isEmpty && (q.h.toList == r.h.toList)
def Each (ws : List WantD) (n : Nat) : Prop := ∀ j r, j < n → ws[j]? = some r → r.ok = true
def Asc (ws : List WantD) (n : Nat) : Prop := ∀ j q r, j + 1 < n → ws[j]? = some q → ws[j + 1]? = some r → ascB q r = true
def NoneOf (ws : List WantD) (r : WantD) (m : Nat) : Prop := ∀ i q, i < m → ws[i]? = some q → clash q r = false
def Diff (ws : List WantD) (n : Nat) : Prop := ∀ j r, j < n → ws[j]? = some r → NoneOf ws r j
def AllW (ws : List WantD) (n : Nat) : Prop := Each ws n ∧ Asc ws n ∧ Diff ws n
/-- What the answer says. -/
def Says (q : Bool) (ws : List WantD) : Prop := q = true ↔ ws.length ≤ 10 ∧ AllW ws ws.length

theorem Each.step {ws : List WantD} {k : Nat} {r : WantD} (h : Each ws k) (hr : ws[k]? = some r) (hs : r.ok = true) : Each ws (k + 1) := by
  intro j q hj hq
  by_cases e : j = k
  · subst e; rw [hr] at hq; cases hq; exact hs
  · exact h j q (by omega) hq
theorem Asc.step {ws : List WantD} {k : Nat} {q r : WantD} (h : Asc ws (k + 1)) (hq : ws[k]? = some q) (hr : ws[k + 1]? = some r) (hs : ascB q r = true) : Asc ws (k + 1 + 1) := by
  intro j q' r' hj hq' hr'
  by_cases e : j = k
  · subst e; rw [hq] at hq'; rw [hr] at hr'; cases hq'; cases hr'; exact hs
  · exact h j q' r' (by omega) hq' hr'
theorem Asc.one {ws : List WantD} : Asc ws 1 := fun j q r hj _ _ => by omega
theorem NoneOf.step {ws : List WantD} {m : Nat} {q r : WantD} (h : NoneOf ws r m) (hq : ws[m]? = some q) (hs : clash q r = false) : NoneOf ws r (m + 1) := by
  intro i q' hi hq'
  by_cases e : i = m
  · subst e; rw [hq] at hq'; cases hq'; exact hs
  · exact h i q' (by omega) hq'
theorem Diff.step {ws : List WantD} {k : Nat} {r : WantD} (h : Diff ws k) (hr : ws[k]? = some r) (hs : NoneOf ws r k) : Diff ws (k + 1) := by
  intro j q hj hq
  by_cases e : j = k
  · subst e; rw [hr] at hq; cases hq; exact hs
  · exact h j q (by omega) hq
theorem says_no {ws : List WantD} (h : ws.length ≤ 10 → AllW ws ws.length → False) : Says false ws := ⟨fun h' => (by cases h'), fun h' => (h h'.1 h'.2).elim⟩
theorem says_yes {ws : List WantD} {k : Nat} (h : AllW ws k) (hk : ws.length ≤ k) (h10 : ws.length ≤ 10) : Says true ws :=
  ⟨fun _ => ⟨h10, fun j r hj hr => h.1 j r (by omega) hr, fun j q r hj hq hr => h.2.1 j q r (by omega) hq hr, fun j r hj hr => h.2.2 j r (by omega) hr⟩, fun _ => rfl⟩

theorem keep1 {x w' : World} {b off k : Nat} {rs : List WantD} {r : WantD} (hk : rs[k]? = some r) (h1 : RowsAt x b off rs) (l1 : b < x.heap.size) (hb : Below x.heap.size x w') :
    Below x.heap.size x w' ∧ (w'.cell? ⟨b, off + k * 7, none⟩ = some (.string r.c) ∧ w'.cell? ⟨b, off + k * 7 + 1, none⟩ = some (.int .i64 r.v) ∧ w'.cell? ⟨b, off + k * 7 + 2, none⟩ = some (.string r.h) ∧ w'.cell? ⟨b, off + k * 7 + 3, none⟩ = some (.int .i64 r.p) ∧ w'.cell? ⟨b, off + k * 7 + 4, none⟩ = some (.int .i64 r.s) ∧ w'.cell? ⟨b, off + k * 7 + 5, none⟩ = some (.int .i64 r.d) ∧ w'.cell? ⟨b, off + k * 7 + 6, none⟩ = some (.int .i64 r.g)) := ⟨hb, (h1.keep l1 hb).at hk⟩
theorem keep2 {x w' : World} {b off k : Nat} {rs : List WantD} {r q : WantD} (hk : rs[k + 1]? = some r) (hq : rs[k]? = some q) (h1 : RowsAt x b off rs) (l1 : b < x.heap.size) (hb : Below x.heap.size x w') :
    Below x.heap.size x w' ∧ (w'.cell? ⟨b, off + (k + 1) * 7, none⟩ = some (.string r.c) ∧ w'.cell? ⟨b, off + (k + 1) * 7 + 1, none⟩ = some (.int .i64 r.v) ∧ w'.cell? ⟨b, off + (k + 1) * 7 + 2, none⟩ = some (.string r.h) ∧ w'.cell? ⟨b, off + (k + 1) * 7 + 3, none⟩ = some (.int .i64 r.p) ∧ w'.cell? ⟨b, off + (k + 1) * 7 + 4, none⟩ = some (.int .i64 r.s) ∧ w'.cell? ⟨b, off + (k + 1) * 7 + 5, none⟩ = some (.int .i64 r.d) ∧ w'.cell? ⟨b, off + (k + 1) * 7 + 6, none⟩ = some (.int .i64 r.g)) ∧ w'.cell? ⟨b, off + k * 7, none⟩ = some (.string q.c) := ⟨hb, (h1.keep l1 hb).at hk, ((h1.keep l1 hb).at hq).1⟩
theorem keep0 {x w' : World} {b off : Nat} {rs : List WantD} {r : WantD} (hk : rs[0]? = some r) (h1 : RowsAt x b off rs) (l1 : b < x.heap.size) (hb : Below x.heap.size x w') :
    Below x.heap.size x w' ∧ (w'.cell? ⟨b, off, none⟩ = some (.string r.c) ∧ w'.cell? ⟨b, off + 1, none⟩ = some (.int .i64 r.v) ∧ w'.cell? ⟨b, off + 2, none⟩ = some (.string r.h) ∧ w'.cell? ⟨b, off + 3, none⟩ = some (.int .i64 r.p) ∧ w'.cell? ⟨b, off + 4, none⟩ = some (.int .i64 r.s) ∧ w'.cell? ⟨b, off + 5, none⟩ = some (.int .i64 r.d) ∧ w'.cell? ⟨b, off + 6, none⟩ = some (.int .i64 r.g)) := by
  have := keep1 (k := 0) hk h1 l1 hb
  simpa using this
theorem hold_at {x : World} {b off k : Nat} {rs : List WantD} {r : WantD} (hk : rs[k]? = some r) (h1 : RowsAt x b off rs) : x.cell? ⟨b, off + k * 7 + 2, none⟩ = some (.string r.h) := (h1.at hk).2.2.1
end Go.Proofs.Ytkebokkckmgloaa.W
/- What makes a book ok. -/
namespace Go.Proofs.Ytkebokkckmgloaa.P
open Go.RowKit
set_option linter.unusedVariables false

def timeB (t : Int) : Bool := inB t 0 2000000 && decide (t % 2 = 0)
def grantB (t : Int) (g : G.GrantD) : Bool := holdB g.h && (nameB g.b && (nameB g.c && (inB g.t 0 1000000 && inB g.u 0 (t + 32))))
def GrantsSay (t : Int) (gs : List G.GrantD) : Prop := gs.length ≤ 40 ∧ (G.AscN gs gs.length ∧ ∀ g ∈ gs, grantB t g = true)
/-- Is a place such, by itself? -/
def PlaceD.fine (p : PlaceD) : Prop := nameB p.b = true ∧ (inB p.s 1 1000000 = true ∧ (p.ws.length ≤ 10 ∧ W.AllW p.ws p.ws.length))
/-- No hold at two of them. -/
def Apart (ps : List PlaceD) : Prop := ps.Pairwise (fun p q => ∀ x ∈ p.ws, ∀ y ∈ q.ws, W.clash x y = false)
def PlacesSay (ps : List PlaceD) : Prop := ps.length ≤ 4 ∧ (AscN ps ps.length ∧ ∀ p ∈ ps, p.fine)
def LandSay (t : Int) (gs : List G.GrantD) (ps : List PlaceD) : Prop := timeB t = true ∧ (GrantsSay t gs ∧ (PlacesSay ps ∧ Apart ps))
def SaysL (q : Bool) (t : Int) (gs : List G.GrantD) (ps : List PlaceD) : Prop := q = true ↔ LandSay t gs ps
/-- What the parts of a book may be. -/
structure Fit (gs : List G.GrantD) (ps : List PlaceD) : Prop where
  g : ∀ g ∈ gs, g.fits
  p : ∀ p ∈ ps, p.b.size ≤ maxLen ∧ ∀ r ∈ p.ws, r.fits
  gl : gs.length ≤ 1048576
  pl : ps.length ≤ 1048576
  ln : Lns ps

theorem diff_iff (ws : List W.WantD) : W.Diff ws ws.length ↔ ws.Pairwise (fun q r => W.clash q r = false) := by
  rw [List.pairwise_iff_getElem]
  constructor
  · intro h i j hi hj hij
    exact h j ws[j] hj (List.getElem?_eq_getElem hj) i ws[i] hij (List.getElem?_eq_getElem hi)
  · intro h j r hj hr i q hi hq
    obtain ⟨hj', rfl⟩ := List.getElem?_eq_some_iff.1 hr
    obtain ⟨hi', rfl⟩ := List.getElem?_eq_some_iff.1 hq
    exact h i j hi' hj' hi
theorem apart_iff (ps : List PlaceD) (hf : ∀ p ∈ ps, p.fine) : W.Diff (ps.flatMap (·.ws)) (ps.flatMap (·.ws)).length ↔ Apart ps := by
  rw [diff_iff, List.pairwise_flatMap]
  constructor
  · exact fun h => h.2
  · exact fun h => ⟨fun p hp => (diff_iff p.ws).1 (hf p hp).2.2.2.2.2, h⟩
theorem like_apart {ps qs : List PlaceD} (h : Like ps qs) : Apart ps ↔ Apart qs := by
  have e : ∀ l : List PlaceD, Apart l ↔ (l.map PlaceD.says).Pairwise (fun p q => ∀ x ∈ p.2.2, ∀ y ∈ q.2.2, W.clash x y = false) := fun l => by
    rw [List.pairwise_map]; exact Iff.rfl
  rw [e, e, h]
theorem like_fine {ps qs : List PlaceD} (h : Like ps qs) (hf : ∀ p ∈ qs, p.fine) : ∀ p ∈ ps, p.fine := by
  intro p hp
  obtain ⟨k, hk⟩ := List.getElem?_of_mem hp
  obtain ⟨q, hq, e1, e2, e3⟩ := h.get hk
  obtain ⟨f1, f2, f3, f4⟩ := hf q (List.mem_of_getElem? hq)
  exact ⟨by rw [e1]; exact f1, by rw [e2]; exact f2, by rw [e3]; exact f3, by rw [e3]; exact f4⟩
theorem like_asc {ps qs : List PlaceD} (h : Like ps qs) (ha : AscN qs qs.length) : AscN ps ps.length := by
  intro j q r hj hq hr
  obtain ⟨q', hq', e1, -⟩ := h.get hq
  obtain ⟨r', hr', e2, -⟩ := h.get hr
  rw [e1, e2]
  exact ha j q' r' (by rw [← h.len]; exact hj) hq' hr'
theorem like_says {t : Int} {gs : List G.GrantD} {ps qs : List PlaceD} (h : Like ps qs) : LandSay t gs ps ↔ LandSay t gs qs := by
  have one : ∀ {ps qs : List PlaceD}, Like ps qs → LandSay t gs qs → LandSay t gs ps := fun {ps qs} h hs =>
    ⟨hs.1, hs.2.1, ⟨by rw [h.len]; exact hs.2.2.1.1, like_asc h hs.2.2.1.2.1, like_fine h hs.2.2.1.2.2⟩, (like_apart h).2 hs.2.2.2⟩
  exact ⟨one h.symm, one h⟩
end Go.Proofs.Ytkebokkckmgloaa.P
/- What the reading of a book says of memory. -/
namespace Go.Proofs.Ytkebokkckmgloaa.P
open Go.ChangeShapes Go.WideShapes Go.ChangeAt Go.RowKit

theorem cells_land : Try.prog.cellsOf 79 = 3 := by kernel_rfl
theorem cells_gs : Try.prog.cellsOf 76 = 1 := by kernel_rfl
theorem cells_ps : Try.prog.cellsOf 77 = 1 := by kernel_rfl
section
variable {H : Type} {enc : TypeId × Value → H} {Z : World} {base : Nat} {spare : Nat → Bool} {held : Bool} {fuel : Nat} {cs : List Value} {x : DataW H × List MemPlace}
theorem in_grants {v : Value} (hx : DataW.trod enc Try.prog Z base spare held fuel 76 [v] = some x) : ∃ l, G.In Z v l := by
  rcases G.read_grants hx with ⟨a, cap, h⟩ | ⟨b, off, cap, rs, h, -, hl, hb, hR, hf⟩
  · simp only [List.cons.injEq, and_true] at h; exact ⟨[], Or.inl ⟨rfl, a, cap, h⟩⟩
  · simp only [List.cons.injEq, and_true] at h; exact ⟨rs, Or.inr ⟨b, off, cap, h, hl, hb, hR, hf⟩⟩
theorem in_places {v : Value} (hx : DataW.trod enc Try.prog Z base spare held fuel 77 [v] = some x) : ∃ l, In Z v l := by
  rcases read_places hx with ⟨a, cap, h⟩ | ⟨b, off, cap, rs, h, -, hl, hb, hR, hf⟩
  · simp only [List.cons.injEq, and_true] at h; exact ⟨[], Or.inl ⟨rfl, a, cap, h⟩⟩
  · simp only [List.cons.injEq, and_true] at h; exact ⟨rs, Or.inr ⟨b, off, cap, h, hl, hb, hR, hf⟩⟩
theorem read_land (hx : DataW.trod enc Try.prog Z base spare held fuel 79 cs = some x) :
    ∃ (t : Int) (gs : List G.GrantD) (ps : List PlaceD) (v1 v2 : Value), cs = [.int .i64 t, v1, v2] ∧ G.In Z v1 gs ∧ In Z v2 ps := by
  obtain ⟨xs, n, rfl, -, hl, hn, hf⟩ := DataW.trod_struct Try.underlying79 hx
  rw [cells_land] at hl
  obtain ⟨c0, c1, c2, rfl⟩ := list3 hl
  have hn' : xs.length = 3 := hn
  have f0 : DataW.trod enc Try.prog Z base spare held n 3 (List.take (Try.prog.cellsOf 3) [c0, c1, c2]) = xs[0]? := hf 0 _ rfl
  have f1 : DataW.trod enc Try.prog Z base spare held n 76 (List.take (Try.prog.cellsOf 76) [c1, c2]) = xs[1]? := hf 1 _ rfl
  have f2 : DataW.trod enc Try.prog Z base spare held n 77 (List.take (Try.prog.cellsOf 77) [c2]) = xs[2]? := hf 2 _ rfl
  simp only [cells_int, cells_gs, cells_ps, List.take_succ_cons, List.take_zero] at f0 f1 f2
  obtain ⟨y0, g0⟩ := some_of hn' (by decide) f0
  obtain ⟨y1, g1⟩ := some_of hn' (by decide) f1
  obtain ⟨y2, g2⟩ := some_of hn' (by decide) f2
  obtain ⟨t, e0, -, w0⟩ := DataW.trod_int Try.underlying3 g0
  obtain ⟨gs, h1⟩ := in_grants g1
  obtain ⟨ps, h2⟩ := in_places g2
  simp only [List.cons.injEq, and_true] at e0
  subst e0
  exact ⟨t, gs, ps, c1, c2, rfl, h1, h2⟩
end
end Go.Proofs.Ytkebokkckmgloaa.P
/- Places that came in; what fits. -/
namespace Go.Proofs.Ytkebokkckmgloaa.P
open Go.RowKit
set_option linter.unusedVariables false

theorem In.inn {w : World} {v : Value} {l : List PlaceD} (h : In w v l) : ∀ r ∈ l, r.inn w := by
  rcases h with ⟨rfl, -⟩ | ⟨b, off, cap, h1, h2, h3, h4, h5⟩
  · intro r hr; cases hr
  · exact h5
theorem Fit.like {gs : List G.GrantD} {ps qs : List PlaceD} (h : Fit gs ps) (hs : Like qs ps) : Fit gs qs := by
  have get : ∀ q ∈ qs, ∃ p ∈ ps, q.b = p.b ∧ q.ws = p.ws := fun q hq => by
    obtain ⟨k, hk⟩ := List.getElem?_of_mem hq
    obtain ⟨p, hp, e1, e2, e3⟩ := hs.get hk
    exact ⟨p, List.mem_of_getElem? hp, e1, e3⟩
  refine ⟨h.g, fun q hq => ?_, h.gl, by rw [hs.len]; exact h.pl, fun q hq => ?_⟩
  · obtain ⟨p, hp, e1, e2⟩ := get q hq
    rw [e1, e2]; exact h.p p hp
  · obtain ⟨p, hp, e1, e2⟩ := get q hq
    rw [e2]; exact h.ln p hp
end Go.Proofs.Ytkebokkckmgloaa.P
/- Books that are ok: the program's look at time and grants. -/
namespace Go.Proofs.Ytkebokkckmgloaa.P
open Go.RowKit
set_option linter.unusedVariables false

theorem timeOk_any (t : Int) (a1 a2 : Option Addr) (n1 c1 n2 c2 : Nat) (w : World) :
    Calls Try.prog 115 #[.agg #[.int .i64 t, .slice a1 n1 c1, .slice a2 n2 c2]] w fun e w' => e = .returned (.bool (timeB t)) ∧ Below w.heap.size w w' := by
  cases q1 : inB t 0 2000000
  · go_enter Try.func115, Try.ntmps115
    go_wp2_with (go_at_call 130; refine (within_any _ _ _ _).mono ?_; rintro e w' ⟨rfl, rfl⟩)
    go_ret
    exact ⟨ret_b (by simp [timeB, q1]), bl_alloc (Below.refl _ _) _⟩
  · have h0 : 0 ≤ t := by simp [inB] at q1; omega
    by_cases q2 : t % 2 = 0
    · go_enter Try.func115, Try.ntmps115
      go_wp2_with (go_at_call 130; refine (within_any _ _ _ _).mono ?_; rintro e w' ⟨rfl, rfl⟩)
      go_ret
      exact ⟨ret_b (by simp [timeB, q1, q2]), bl_alloc (Below.refl _ _) _⟩
    · go_enter Try.func115, Try.ntmps115
      go_wp2_with (go_at_call 130; refine (within_any _ _ _ _).mono ?_; rintro e w' ⟨rfl, rfl⟩)
      go_ret
      exact ⟨ret_b (by simp [timeB, q1, q2]), bl_alloc (Below.refl _ _) _⟩

set_option maxRecDepth 4000 in
set_option maxHeartbeats 1000000 in
theorem grantOk_any (r : G.GrantD) (t : Int) (w : World) (hf : r.fits) (h0 : 0 ≤ t) (h1 : t ≤ 2000000) :
    Calls Try.prog 161 #[.agg #[.string r.h, .string r.b, .string r.c, .int .i64 r.t, .int .i64 r.u], .int .i64 t] w fun e w' => e = .returned (.bool (grantB t r)) ∧ Below w.heap.size w w' := by
  cases q1 : holdB r.h
  · skip
    go_enter Try.func161, Try.ntmps161
    go_wp2_with (first | (go_at_call 182; refine (implHold_any r.h _ hf.1).mono ?_; rintro e w' ⟨rfl, rfl⟩) | (go_at_call 129; refine (implName_any _ _ (by first | exact hf.2.1 | exact hf.2.2)).mono ?_; rintro e w' ⟨rfl, rfl⟩) | (go_at_call 130; refine (within_any _ _ _ _).mono ?_; rintro e w' ⟨rfl, rfl⟩))
    go_ret
    exact ⟨ret_b (by simp [grantB, *]), bl_alloc (Below.refl _ _) _⟩
  cases q2 : nameB r.b
  · skip
    go_enter Try.func161, Try.ntmps161
    go_wp2_with (first | (go_at_call 182; refine (implHold_any r.h _ hf.1).mono ?_; rintro e w' ⟨rfl, rfl⟩) | (go_at_call 129; refine (implName_any _ _ (by first | exact hf.2.1 | exact hf.2.2)).mono ?_; rintro e w' ⟨rfl, rfl⟩) | (go_at_call 130; refine (within_any _ _ _ _).mono ?_; rintro e w' ⟨rfl, rfl⟩))
    go_ret
    exact ⟨ret_b (by simp [grantB, *]), bl_alloc (Below.refl _ _) _⟩
  cases q3 : nameB r.c
  · skip
    go_enter Try.func161, Try.ntmps161
    go_wp2_with (first | (go_at_call 182; refine (implHold_any r.h _ hf.1).mono ?_; rintro e w' ⟨rfl, rfl⟩) | (go_at_call 129; refine (implName_any _ _ (by first | exact hf.2.1 | exact hf.2.2)).mono ?_; rintro e w' ⟨rfl, rfl⟩) | (go_at_call 130; refine (within_any _ _ _ _).mono ?_; rintro e w' ⟨rfl, rfl⟩))
    go_ret
    exact ⟨ret_b (by simp [grantB, *]), bl_alloc (Below.refl _ _) _⟩
  cases q4 : inB r.t 0 1000000
  · skip
    go_enter Try.func161, Try.ntmps161
    go_wp2_with (first | (go_at_call 182; refine (implHold_any r.h _ hf.1).mono ?_; rintro e w' ⟨rfl, rfl⟩) | (go_at_call 129; refine (implName_any _ _ (by first | exact hf.2.1 | exact hf.2.2)).mono ?_; rintro e w' ⟨rfl, rfl⟩) | (go_at_call 130; refine (within_any _ _ _ _).mono ?_; rintro e w' ⟨rfl, rfl⟩))
    go_ret
    exact ⟨ret_b (by simp [grantB, *]), bl_alloc (Below.refl _ _) _⟩
  go_enter Try.func161, Try.ntmps161
  go_wp2_with (first | (go_at_call 182; refine (implHold_any r.h _ hf.1).mono ?_; rintro e w' ⟨rfl, rfl⟩) | (go_at_call 129; refine (implName_any _ _ (by first | exact hf.2.1 | exact hf.2.2)).mono ?_; rintro e w' ⟨rfl, rfl⟩) | (go_at_call 130; refine (within_any _ _ _ _).mono ?_; rintro e w' ⟨rfl, rfl⟩))
  go_ret
  exact ⟨ret_b (by simp [grantB, *]), bl_alloc (Below.refl _ _) _⟩
theorem closGrant (r : G.GrantD) (t : Int) (bk : Nat) (w : World) (hc : w.cell? ⟨bk, 0, none⟩ = some (.int .i64 t)) (lk : bk < w.heap.size) (hf : r.fits) (h0 : 0 ≤ t) (h1 : t ≤ 2000000) :
    Calls Try.prog 160 #[.agg #[.string r.h, .string r.b, .string r.c, .int .i64 r.t, .int .i64 r.u], .pointer (some ⟨bk, 0, none⟩)] w fun e w' => e = .returned (.bool (grantB t r)) ∧ Below w.heap.size w w' := by
  go_enter Try.func160, Try.ntmps160
  go_wp2_with (go_at_call 161; refine (grantOk_any r t _ hf h0 h1).mono ?_; rintro e w' ⟨rfl, hx⟩)
  go_ret
  exact ⟨rfl, bl_trans (bl_alloc (Below.refl _ _) _) hx⟩
end Go.Proofs.Ytkebokkckmgloaa.P
