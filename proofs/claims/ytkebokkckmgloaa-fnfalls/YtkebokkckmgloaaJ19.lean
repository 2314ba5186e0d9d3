import Derived.Test.YtkebokkckmgloaaJ14
import Derived.Test.YtkebokkckmgloaaJ10
import Derived.Test.YtkebokkckmgloaaJ17
import Derived.Test.YtkebokkckmgloaaJ18
import Derived.Test.YtkebokkckmgloaaJ08
import Derived.Deep.RegionHeld3
import Derived.Laws.Pointers
import Derived.StillTactics
import Derived.Laws.EntriesVeiled
/- Runs are drawn. -/
namespace Go.Proofs.Ytkebokkckmgloaa
open Go.RowKit
set_option linter.unusedVariables false

theorem bl_set2 {w w' : World} (h : Below w.heap.size w w') (b o : Nat) (u : Value) (hp : w.heap.size ≤ b) : Below w.heap.size w (w'.setCell ⟨b, o, none⟩ u) := bl_set h hp u
/-- What a drawn run's parts may be. -/
def Small (r : RunD) : Prop := r.c.size ≤ maxLen ∧ r.h.size ≤ maxLen ∧ (0 ≤ r.b ∧ r.b ≤ 1000) ∧ (0 ≤ r.i ∧ r.i ≤ 1000) ∧ (-1000000 ≤ r.u ∧ r.u ≤ 1000000)
theorem small_mk {c h : ByteArray} {v p s d g a b i u : Int} (hc : c.size ≤ maxLen) (hh : h.size ≤ maxLen) (hb : 0 ≤ b ∧ b ≤ 1000) (hi : 0 ≤ i ∧ i ≤ 1000) (hu : -1000000 ≤ u ∧ u ≤ 1000000) : Small ⟨c, h, v, p, s, d, g, a, b, i, u⟩ := ⟨hc, hh, hb, hi, hu⟩
theorem small_snoc {rs : List RunD} {r : RunD} (h : ∀ x ∈ rs, Small x) (hr : Small r) : ∀ x ∈ rs ++ [r], Small x := by
  intro x hx
  rcases List.mem_append.1 hx with h1 | h1
  · exact h x h1
  · rw [List.mem_singleton.1 h1]; exact hr
theorem ownsE2 {x y : World} {base k : Nat} {e : TypeId} {size : Nat} {v : Value} {n : Nat} {xs : List Value} (h : x.ownsRow base e size v n xs) (he : Ex k x y) (hk : k < base) : y.ownsRow base e size v n xs :=
  ⟨h.1, h.2.imp id (fun ⟨g, cap, cur, h1, h2, h3, h4⟩ => ⟨g, cap, cur, h1, h2, by
    have hg : g < x.heap.size := by
      rcases Nat.lt_or_ge g x.heap.size with h' | h'
      · exact h'
      · rw [Array.getElem?_eq_none h'] at h3; cases h3
    rw [he.block g hg (by omega)]; exact h3, h4⟩)⟩
theorem own_made0 (w : World) (t : TypeId) (size : Nat) : (w.alloc (.cells #[] t)).ownsRow w.heap.size t size (.slice (some ⟨w.heap.size, 0, none⟩) 0 0) 0 [] := World.ownsRow_made w #[] 0 (Nat.le_refl _) (Nat.zero_le _) (by simp)

set_option maxRecDepth 4000 in
set_option maxHeartbeats 4000000 in
theorem runsQ (kr : Nat) (q clock : Int) (w : World) (hr : Rq w kr q) (hq : q < 600000) (k0 : 0 ≤ clock) (k1 : clock ≤ 100000) :
    Calls Try.prog 168 #[.pointer (some ⟨kr, 0, none⟩), .int .i64 clock, .bool true] w fun e w' => ∃ rs v, e = .returned v ∧ w'.ownsRow w.heap.size 38 11 v rs.length (flatR rs) ∧ rs.length ≤ 4 ∧ (∀ x ∈ rs, Small x) ∧ Rq w' kr (q + 500) ∧ Ex kr w w' := by
  obtain ⟨i0, hi, hz0, hz1, hz2⟩ := info_parts infoR
  have hkr := hr.lt
  have nbr := build0r
  have HR : Hid (Rq w kr q) := hr
  clear hr
  go_enter Try.func168, Try.ntmps168
  go_wp2_with fail
  go_loopw [7, 8] (fun v i wx => ∃ (k : Nat) (rs : List RunD), k ≤ 4 ∧ i = .int .i64 k ∧ rs.length ≤ k ∧ Hid (∀ x ∈ rs, Small x) ∧ Hid (wx.ownsRow w.heap.size 38 11 v rs.length (flatR rs)) ∧ Hid (Rq wx kr (q + 101 * k)) ∧ Hid (Ex kr w wx)) (fun _ i _ => 4 - (intOf i).toNat)
  case atStart => exact ⟨0, [], by omega, rfl, Nat.le_refl _, (fun x hx => by cases hx), own_made0 _ _ _, (HR.out.below (bl_alloc (Below.refl _ _) (.cells #[] 38))).up (by omega), Ex.of_below (bl_alloc (Below.refl _ _) _)⟩
  case round =>
    obtain ⟨k, rs, hk, rfl, hws, HF, HO, HQ, HE⟩ := hrel
    by_cases hlt : k < 4
    · go_wp2_with fail
      refine (pickQ kr _ 2 _ HQ.out (by omega) (by omega) (by omega)).mono ?_
      rintro e w1 ⟨m, rfl, m0, m1, r1, e1⟩
      have O1 : Hid (w1.ownsRow w.heap.size 38 11 u7 rs.length (flatR rs)) := ownsE2 HO.out e1 hkr
      have E1 : Hid (Ex kr w w1) := HE.out.trans e1
      have R1 : Hid (Rq w1 kr (q + 101 * k + 1)) := r1
      clear HO HE HQ r1 e1
      by_cases hm : m = 0
      · subst hm
        go_wp2_with fail
        refine (dec_small k (by omega) (by omega) _).mono ?_
        rintro e w2 ⟨x, rfl, hx, b2⟩
        have R2 : Hid (Rq w2 kr (q + 101 * k + 1)) := R1.out.below b2
        have E2 : Hid (Ex kr w w2) := E1.out.then_below b2
        have O2 : Hid (w2.ownsRow w.heap.size 38 11 u7 rs.length (flatR rs)) := owns_below O1.out b2
        clear b2 R1 E1 O1
        go_wp2_with fail
        refine (drawRunQ kr _ clock _ _ R2.out (by omega) k0 k1).mono ?_
        rintro e w3 ⟨h, v1, p1, s, d, g, st, lf, fl, un, rfl, ⟨lf0, lf1⟩, ⟨fl0, fl1⟩, hh, ⟨un0, un1⟩, r3, e3⟩
        have O3 : Hid (w3.ownsRow w.heap.size 38 11 u7 rs.length (flatR rs)) := ownsE2 O2.out e3 hkr
        have E3 : Hid (Ex kr w w3) := E2.out.trans e3
        have R3 : Hid (Rq w3 kr (q + 101 * k + 1 + 100)) := r3
        have hxs : ({ data := #[99] } ++ x).size ≤ maxLen := by rw [size_front, hx]; unfold maxLen; omega
        have hhs : h.size ≤ maxLen := by unfold maxLen; omega
        have hz3 : w.heap.size ≤ w3.heap.size := E3.out.size
        clear r3 e3 O2 E2 R2
        go_wp2_with fail
        refine (specRunOk_any _ h v1 p1 s d g st lf fl un clock _ hxs hhs).mono ?_
        rintro e w4 ⟨rfl, b4⟩
        have kb := box_keep b4
        have kf : ∀ j, w4.frozen? ⟨w3.heap.size, j, none⟩ = false := fun j => by rw [b4.frozen (p := ⟨w3.heap.size, j, none⟩) (by simp)]; simp [go_sem]
        have Bz : Hid (Below w3.heap.size w3 w4) := bl_trans (bl_alloc (Below.refl _ _) _) b4
        have hz4 : w3.heap.size < w4.heap.size := Nat.lt_of_lt_of_le (by simp) b4.size
        clear b4
        cases hB : runB ({ data := #[99] } ++ x) h v1 p1 s d g st lf fl un clock
        · go_wp2_with (at_builtin; refine wpList_append_own _ rfl _ _ 24 rfl w.heap.size 38 i0 _ 11 104 Try.underlying24 hi hz0 hz1 hz2 rfl (by decide) u7 rs.length _ rfl (by exact owns_below O3.out (bl_alloc (bl_set2 (bl_set2 Bz.out w3.heap.size 7 (.int .i64 2) (Nat.le_refl _)) w3.heap.size 8 (.int .i64 0) (Nat.le_refl _)) _)) ⟨_, 0, none⟩ 1 1 (⟨{ data := #[99] } ++ x, h, v1, p1, s, d, g, 2, 0, fl, un⟩ : RunD).cells rfl rfl (new_cells _ _ (by simp) _ _ _ rfl) (cellsR_one (⟨{ data := #[99] } ++ x, h, v1, p1, s, d, g, 2, 0, fl, un⟩ : RunD)) (by unfold maxLen; omega) (by omega) (by have := (bl_alloc (bl_set2 (bl_set2 Bz.out w3.heap.size 7 (.int .i64 2) (Nat.le_refl _)) w3.heap.size 8 (.int .i64 0) (Nat.le_refl _)) (.cells #[] 38)).size; simp at this ⊢; omega) ?_; intro v' w5 ho hg hn)
          refine ⟨⟨k + 1, rs ++ [(⟨{ data := #[99] } ++ x, h, v1, p1, s, d, g, 2, 0, fl, un⟩ : RunD)], by omega, by go_num, by simp; omega, small_snoc HF.out (small_mk hxs hhs ⟨by omega, by omega⟩ ⟨by omega, by omega⟩ ⟨by omega, by omega⟩), ?_, ((R3.out.below (bl_alloc (bl_set2 (bl_set2 Bz.out w3.heap.size 7 (.int .i64 2) (Nat.le_refl _)) w3.heap.size 8 (.int .i64 0) (Nat.le_refl _)) _)).grown hg (fun j hj => Nat.lt_of_lt_of_le hkr (owns_ge O3.out j hj))).up (by omega), (E3.out.then_below (bl_alloc (bl_set2 (bl_set2 Bz.out w3.heap.size 7 (.int .i64 2) (Nat.le_refl _)) w3.heap.size 8 (.int .i64 0) (Nat.le_refl _)) _)).grown hg (fun j hj => owns_ge O3.out j hj)⟩, by simp [intOf]; omega⟩
          show w5.ownsRow _ _ _ _ (rs ++ [(⟨{ data := #[99] } ++ x, h, v1, p1, s, d, g, 2, 0, fl, un⟩ : RunD)]).length _
          rw [List.length_append, flatR_append]
          simpa [flatR] using ho
        · go_wp2_with (at_builtin; refine wpList_append_own _ rfl _ _ 24 rfl w.heap.size 38 i0 _ 11 104 Try.underlying24 hi hz0 hz1 hz2 rfl (by decide) u7 rs.length _ rfl (by exact owns_below O3.out (bl_alloc Bz.out _)) ⟨_, 0, none⟩ 1 1 (⟨{ data := #[99] } ++ x, h, v1, p1, s, d, g, st, lf, fl, un⟩ : RunD).cells rfl rfl (new_cells _ _ (by simp) _ _ _ rfl) (cellsR_one (⟨{ data := #[99] } ++ x, h, v1, p1, s, d, g, st, lf, fl, un⟩ : RunD)) (by unfold maxLen; omega) (by omega) (by have := (bl_alloc Bz.out (.cells #[] 38)).size; simp at this ⊢; omega) ?_; intro v' w5 ho hg hn)
          refine ⟨⟨k + 1, rs ++ [(⟨{ data := #[99] } ++ x, h, v1, p1, s, d, g, st, lf, fl, un⟩ : RunD)], by omega, by go_num, by simp; omega, small_snoc HF.out (small_mk hxs hhs ⟨by omega, by omega⟩ ⟨by omega, by omega⟩ ⟨by omega, by omega⟩), ?_, ((R3.out.below (bl_alloc Bz.out _)).grown hg (fun j hj => Nat.lt_of_lt_of_le hkr (owns_ge O3.out j hj))).up (by omega), (E3.out.then_below (bl_alloc Bz.out _)).grown hg (fun j hj => owns_ge O3.out j hj)⟩, by simp [intOf]; omega⟩
          show w5.ownsRow _ _ _ _ (rs ++ [(⟨{ data := #[99] } ++ x, h, v1, p1, s, d, g, st, lf, fl, un⟩ : RunD)]).length _
          rw [List.length_append, flatR_append]
          simpa [flatR] using ho
      · go_wp2
        exact ⟨⟨k + 1, rs, by omega, by go_num, by omega, HF.out, O1.out, R1.out.up (by omega), E1.out⟩, by simp [intOf]; omega⟩
    · go_wp2
      go_ret
      have hk4 : k = 4 := by omega
      subst hk4
      exact ⟨rs, _, rfl, HO.out, by omega, HF.out, HQ.out.up (by omega), HE.out⟩
end Go.Proofs.Ytkebokkckmgloaa
/- all and ascends, at wants. -/
namespace Go.Proofs.Ytkebokkckmgloaa.W
open Go.RowKit
set_option linter.unusedVariables false

set_option maxRecDepth 4000 in
set_option maxHeartbeats 1000000 in
theorem allOk (P : WantD → Bool) (b off cap : Nat) (rs : List WantD) (w : World) (hR : RowsAt w b off rs) (l1 : b < w.heap.size) (hl : rs.length ≤ 1048576)
    (hF : ∀ r ∈ rs, ∀ x, Below w.heap.size w x → Calls Try.prog 142 #[.agg #[.string r.c, .int .i64 r.v, .string r.h, .int .i64 r.p, .int .i64 r.s, .int .i64 r.d, .int .i64 r.g]] x fun e x' => e = .returned (.bool (P r)) ∧ Below x.heap.size x x') :
    Calls Try.prog 141 #[.slice (some ⟨b, off, none⟩) rs.length cap, .func (.func 142) #[] #[]] w fun e w' => (∃ q : Bool, e = .returned (.bool q) ∧ (q = true ↔ ∀ r ∈ rs, P r = true)) ∧ Below w.heap.size w w' := by
  have HF : Hid _ := hF
  clear hF
  go_enter Try.func141, Try.ntmps141
  go_wp2
  go_loopw [9] (fun i wx => ∃ (k : Nat), k ≤ rs.length ∧ i = .int .i64 k ∧ Hid (∀ j r, j < k → rs[j]? = some r → P r = true) ∧ Below w.heap.size w wx) (fun i _ => rs.length - (intOf i).toNat)
  case atStart => exact ⟨0, Nat.zero_le _, rfl, fun j r h => by omega, Below.refl _ _⟩
  case round =>
    obtain ⟨k, hk, rfl, Ha, hB⟩ := hrel
    by_cases hlt : k < rs.length
    · obtain ⟨r, hr⟩ : ∃ r, rs[k]? = some r := ⟨rs[k], List.getElem?_eq_getElem hlt⟩
      have Hr : Hid _ := hr
      clear hr
      obtain ⟨c0, c1, c2, c3, c4, c5, c6⟩ := (hR.keep l1 hB).at Hr.out
      go_wp2_with fail
      refine (HF.out r (List.mem_of_getElem? Hr.out) _ (bl_alloc hB _)).mono ?_
      rintro e w1 ⟨rfl, hb⟩
      have hB1 := bl_trans (bl_alloc hB _) hb
      have Hb1 : Hid _ := hB1
      clear hB hb hB1
      cases hP : P r
      · go_wp2
        go_ret
        exact ⟨⟨false, rfl, ⟨fun h => (by cases h), fun h => by have := h r (List.mem_of_getElem? Hr.out); rw [hP] at this; cases this⟩⟩, Hb1.out⟩
      · go_wp2
        exact ⟨⟨k + 1, by omega, by go_num, (fun j q hj hq => by
          by_cases e : j = k
          · subst e; have hh := Hr.out; rw [hh] at hq; cases hq; exact hP
          · exact Ha.out j q (by omega) hq), Hb1.out⟩, by simp [intOf]; omega⟩
    · go_wp2
      go_ret
      exact ⟨⟨true, rfl, ⟨fun _ r hr => by
        obtain ⟨j, hj⟩ := List.getElem?_of_mem hr
        have hjl : j < rs.length := (List.getElem?_eq_some_iff.1 hj).1
        exact Ha.out j r (by omega) hj, fun _ => rfl⟩⟩, hB⟩

theorem name_any (r : WantD) (w : World) :
    Calls Try.prog 144 #[.agg #[.string r.c, .int .i64 r.v, .string r.h, .int .i64 r.p, .int .i64 r.s, .int .i64 r.d, .int .i64 r.g]] w fun e w' => e = .returned (.string r.c) ∧ Below w.heap.size w w' := by
  go_enter Try.func144, Try.ntmps144
  go_wp2
  go_ret
  exact ⟨rfl, by repeat (first | exact Below.refl _ _ | refine bl_alloc ?_ _)⟩
/-- Ascending by their names, the first n. -/
def AscN (rs : List WantD) (n : Nat) : Prop := ∀ j q r, j + 1 < n → rs[j]? = some q → rs[j + 1]? = some r → Op.bytesLess q.c.toList r.c.toList = true
theorem AscN.step {rs : List WantD} {k : Nat} {q r : WantD} (h : AscN rs (k + 1)) (hq : rs[k]? = some q) (hr : rs[k + 1]? = some r) (hs : Op.bytesLess q.c.toList r.c.toList = true) : AscN rs (k + 1 + 1) := by
  intro j q' r' hj hq' hr'
  by_cases e : j = k
  · subst e; rw [hq] at hq'; rw [hr] at hr'; cases hq'; cases hr'; exact hs
  · exact h j q' r' (by omega) hq' hr'
theorem keepAsc {x w' : World} {b off m : Nat} {rs : List WantD} {r q : WantD} (hk : rs[m + 1]? = some r) (hq : rs[m]? = some q) (h1 : RowsAt x b off rs) (l1 : b < x.heap.size) (hb : Below x.heap.size x w') :
    Below x.heap.size x w' ∧ (w'.cell? ⟨b, off + (m + 1) * 7, none⟩ = some (.string r.c) ∧ w'.cell? ⟨b, off + (m + 1) * 7 + 1, none⟩ = some (.int .i64 r.v) ∧ w'.cell? ⟨b, off + (m + 1) * 7 + 2, none⟩ = some (.string r.h) ∧ w'.cell? ⟨b, off + (m + 1) * 7 + 3, none⟩ = some (.int .i64 r.p) ∧ w'.cell? ⟨b, off + (m + 1) * 7 + 4, none⟩ = some (.int .i64 r.s) ∧ w'.cell? ⟨b, off + (m + 1) * 7 + 5, none⟩ = some (.int .i64 r.d) ∧ w'.cell? ⟨b, off + (m + 1) * 7 + 6, none⟩ = some (.int .i64 r.g)) ∧ (w'.cell? ⟨b, off + m * 7, none⟩ = some (.string q.c) ∧ w'.cell? ⟨b, off + m * 7 + 1, none⟩ = some (.int .i64 q.v) ∧ w'.cell? ⟨b, off + m * 7 + 2, none⟩ = some (.string q.h) ∧ w'.cell? ⟨b, off + m * 7 + 3, none⟩ = some (.int .i64 q.p) ∧ w'.cell? ⟨b, off + m * 7 + 4, none⟩ = some (.int .i64 q.s) ∧ w'.cell? ⟨b, off + m * 7 + 5, none⟩ = some (.int .i64 q.d) ∧ w'.cell? ⟨b, off + m * 7 + 6, none⟩ = some (.int .i64 q.g)) := ⟨hb, (h1.keep l1 hb).at hk, (h1.keep l1 hb).at hq⟩

set_option maxRecDepth 4000 in
set_option maxHeartbeats 2000000 in
theorem ascends (b off cap : Nat) (rs : List WantD) (w : World) (hR : RowsAt w b off rs) (l1 : b < w.heap.size) (hl : rs.length ≤ 1048576) :
    Calls Try.prog 143 #[.slice (some ⟨b, off, none⟩) rs.length cap, .func (.func 144) #[] #[]] w fun e w' => (∃ q : Bool, e = .returned (.bool q) ∧ (q = true ↔ AscN rs rs.length)) ∧ Below w.heap.size w w' := by
  go_enter Try.func143, Try.ntmps143
  go_wp2
  go_loopw [5] (fun i wx => ∃ (m : Nat), m ≤ rs.length ∧ i = .int .i64 ((m : Int) + 1) ∧ Hid (AscN rs (m + 1)) ∧ Below w.heap.size w wx) (fun i _ => rs.length + 1 - (intOf i).toNat)
  case atStart => exact ⟨0, Nat.zero_le _, rfl, (fun j q r hj _ _ => by omega), Below.refl _ _⟩
  case round =>
    obtain ⟨m, hk, rfl, Ha, hB⟩ := hrel
    by_cases hlt : m + 1 < rs.length
    · obtain ⟨r, hr⟩ : ∃ r, rs[m + 1]? = some r := ⟨rs[m + 1], List.getElem?_eq_getElem hlt⟩
      obtain ⟨q, hq⟩ : ∃ q, rs[m]? = some q := ⟨rs[m], List.getElem?_eq_getElem (by omega)⟩
      have Hr : Hid _ := hr
      have Hq : Hid _ := hq
      clear hr hq
      have g1 := hR.keep l1 hB
      have z1 : b < wr.heap.size := Nat.lt_of_lt_of_le l1 hB.size
      have i0 : (0 : Int) ≤ (m : Int) := by omega
      have i1 : (m : Int) + 1 < (rs.length : Int) := by omega
      have i2 : (m : Int) < (rs.length : Int) := by omega
      have i3 : (0 : Int) ≤ (m : Int) + 1 := by omega
      have iw : IntKind.i64.wrap (m : Int) = (m : Int) := by rw [IntKind.wrap_i64]; omega
      cases hasc : Op.bytesLess q.c.toList r.c.toList
      · go_wp2_with fail
        go_region_held3 (fun w' => Below wr.heap.size wr w' ∧ (w'.cell? ⟨b, off + (m + 1) * 7, none⟩ = some (.string r.c) ∧ w'.cell? ⟨b, off + (m + 1) * 7 + 1, none⟩ = some (.int .i64 r.v) ∧ w'.cell? ⟨b, off + (m + 1) * 7 + 2, none⟩ = some (.string r.h) ∧ w'.cell? ⟨b, off + (m + 1) * 7 + 3, none⟩ = some (.int .i64 r.p) ∧ w'.cell? ⟨b, off + (m + 1) * 7 + 4, none⟩ = some (.int .i64 r.s) ∧ w'.cell? ⟨b, off + (m + 1) * 7 + 5, none⟩ = some (.int .i64 r.d) ∧ w'.cell? ⟨b, off + (m + 1) * 7 + 6, none⟩ = some (.int .i64 r.g)) ∧ (w'.cell? ⟨b, off + m * 7, none⟩ = some (.string q.c) ∧ w'.cell? ⟨b, off + m * 7 + 1, none⟩ = some (.int .i64 q.v) ∧ w'.cell? ⟨b, off + m * 7 + 2, none⟩ = some (.string q.h) ∧ w'.cell? ⟨b, off + m * 7 + 3, none⟩ = some (.int .i64 q.p) ∧ w'.cell? ⟨b, off + m * 7 + 4, none⟩ = some (.int .i64 q.s) ∧ w'.cell? ⟨b, off + m * 7 + 5, none⟩ = some (.int .i64 q.d) ∧ w'.cell? ⟨b, off + m * 7 + 6, none⟩ = some (.int .i64 q.g)))
          (first | exact keepAsc Hr.out Hq.out g1 z1 (bl_drew (Below.refl _ _)) | exact keepAsc Hr.out Hq.out g1 z1 (bl_trans (bl_drew (Below.refl _ _)) hx) | exact keepAsc Hr.out Hq.out g1 z1 (bl_trans (bl_trans (bl_drew (Below.refl _ _)) hx) hy))
          (first | (go_at_call 144; refine (name_any q _).mono ?_; rintro e w' ⟨rfl, hx⟩) | (go_at_call 144; refine (name_any r _).mono ?_; rintro e w'' ⟨rfl, hy⟩))
        have y1 := bl_trans (bl_trans (bl_drew (Below.refl _ wr)) hx) hy
        have Hb1 : Hid _ := bl_trans hB y1
        clear hx hy y1 hB g1
        go_wp2
        go_ret
        exact ⟨⟨false, rfl, ⟨fun h => (by cases h), fun h => by have := h m q r (by omega) Hq.out Hr.out; rw [hasc] at this; cases this⟩⟩, Hb1.out⟩
      · go_wp2_with fail
        go_region_held3 (fun w' => Below wr.heap.size wr w' ∧ (w'.cell? ⟨b, off + (m + 1) * 7, none⟩ = some (.string r.c) ∧ w'.cell? ⟨b, off + (m + 1) * 7 + 1, none⟩ = some (.int .i64 r.v) ∧ w'.cell? ⟨b, off + (m + 1) * 7 + 2, none⟩ = some (.string r.h) ∧ w'.cell? ⟨b, off + (m + 1) * 7 + 3, none⟩ = some (.int .i64 r.p) ∧ w'.cell? ⟨b, off + (m + 1) * 7 + 4, none⟩ = some (.int .i64 r.s) ∧ w'.cell? ⟨b, off + (m + 1) * 7 + 5, none⟩ = some (.int .i64 r.d) ∧ w'.cell? ⟨b, off + (m + 1) * 7 + 6, none⟩ = some (.int .i64 r.g)) ∧ (w'.cell? ⟨b, off + m * 7, none⟩ = some (.string q.c) ∧ w'.cell? ⟨b, off + m * 7 + 1, none⟩ = some (.int .i64 q.v) ∧ w'.cell? ⟨b, off + m * 7 + 2, none⟩ = some (.string q.h) ∧ w'.cell? ⟨b, off + m * 7 + 3, none⟩ = some (.int .i64 q.p) ∧ w'.cell? ⟨b, off + m * 7 + 4, none⟩ = some (.int .i64 q.s) ∧ w'.cell? ⟨b, off + m * 7 + 5, none⟩ = some (.int .i64 q.d) ∧ w'.cell? ⟨b, off + m * 7 + 6, none⟩ = some (.int .i64 q.g)))
          (first | exact keepAsc Hr.out Hq.out g1 z1 (bl_drew (Below.refl _ _)) | exact keepAsc Hr.out Hq.out g1 z1 (bl_trans (bl_drew (Below.refl _ _)) hx) | exact keepAsc Hr.out Hq.out g1 z1 (bl_trans (bl_trans (bl_drew (Below.refl _ _)) hx) hy))
          (first | (go_at_call 144; refine (name_any q _).mono ?_; rintro e w' ⟨rfl, hx⟩) | (go_at_call 144; refine (name_any r _).mono ?_; rintro e w'' ⟨rfl, hy⟩))
        have y1 := bl_trans (bl_trans (bl_drew (Below.refl _ wr)) hx) hy
        have Hb1 : Hid _ := bl_trans hB y1
        clear hx hy y1 hB g1
        go_wp2
        exact ⟨⟨m + 1, by omega, by go_num, Ha.out.step Hq.out Hr.out hasc, Hb1.out⟩, by simp [intOf]; omega⟩
    · go_wp2
      go_ret
      exact ⟨⟨true, rfl, ⟨fun _ j q r hj hq hr => Ha.out j q r (by omega) hq hr, fun _ => rfl⟩⟩, hB⟩
end Go.Proofs.Ytkebokkckmgloaa.W
/- MateWantsOk: the program's side. -/
namespace Go.Proofs.Ytkebokkckmgloaa.W
open Go.RowKit
set_option linter.unusedVariables false

theorem boxlt {w w1 : World} {o : Obj} (h : Below (w.alloc o).heap.size (w.alloc o) w1) : w.heap.size < w1.heap.size := by have := h.size; simp at this; omega
theorem fewWants_any (a : Option Addr) (n cap : Nat) (w : World) :
    Calls Try.prog 87 #[.slice a n cap] w fun e w' => e = .returned (.bool (decide (n ≤ 10))) ∧ w' = w := by
  by_cases h : n ≤ 10
  · go_enter Try.func87, Try.ntmps87
    go_wp2
    go_ret
    exact ⟨ret_b (by simp; omega), rfl⟩
  · go_enter Try.func87, Try.ntmps87
    go_wp2
    go_ret
    exact ⟨ret_b (by simp; omega), rfl⟩

theorem each_iff (ws : List WantD) : Each ws ws.length ↔ ∀ r ∈ ws, r.ok = true := by
  constructor
  · intro h r hr
    obtain ⟨j, hj⟩ := List.getElem?_of_mem hr
    exact h j r (List.getElem?_eq_some_iff.1 hj).1 hj
  · intro h j r _ hr
    exact h r (List.mem_of_getElem? hr)

theorem eachWant (b off cap : Nat) (ws : List WantD) (w : World) (hR : RowsAt w b off ws) (l1 : b < w.heap.size) (hfit : ∀ r ∈ ws, r.fits) (hl : ws.length ≤ 10) :
    Calls Try.prog 88 #[.slice (some ⟨b, off, none⟩) ws.length cap] w fun e w' => (∃ q : Bool, e = .returned (.bool q) ∧ (q = true ↔ Each ws ws.length)) ∧ Below w.heap.size w w' := by
  go_enter Try.func88, Try.ntmps88
  go_wp2_with fail
  refine (allOk (fun r => r.ok) b off cap ws w hR l1 (by omega) (fun r hr x _ => implWant_any r.c r.h r.v r.p r.s r.d r.g x (hfit r hr).1 (hfit r hr).2)).mono ?_
  rintro e w1 ⟨⟨q, rfl, h⟩, hb⟩
  have H : Hid _ := h
  clear h
  go_wp2
  go_ret
  exact ⟨⟨q, rfl, by rw [each_iff]; exact H.out⟩, hb⟩

theorem ascendWants (b off cap : Nat) (ws : List WantD) (w : World) (hR : RowsAt w b off ws) (l1 : b < w.heap.size) (hl : ws.length ≤ 10) :
    Calls Try.prog 89 #[.slice (some ⟨b, off, none⟩) ws.length cap] w fun e w' => (∃ q : Bool, e = .returned (.bool q) ∧ (q = true ↔ Asc ws ws.length)) ∧ Below w.heap.size w w' := by
  go_enter Try.func89, Try.ntmps89
  go_wp2_with fail
  refine (ascends b off cap ws w hR l1 (by omega)).mono ?_
  rintro e w1 ⟨⟨q, rfl, h⟩, hb⟩
  have H : Hid _ := h
  clear h
  go_wp2
  go_ret
  exact ⟨⟨q, rfl, H.out⟩, hb⟩

theorem build_all (w : World) : Sem.run Try.prog (Instr.buildSlice 121 4 #[(0, .func (.func 87) #[] #[]), (1, .func (.func 88) #[] #[]), (2, .func (.func 89) #[] #[]), (3, .func (.func 90) #[] #[])]) w = .ok (.slice (some ⟨w.heap.size, 0, none⟩) 4 4) (w.alloc (.cells #[.func (.func 87) #[] #[], .func (.func 88) #[] #[], .func (.func 89) #[] #[], .func (.func 90) #[] #[]] 47)) := by kernel_rfl

end Go.Proofs.Ytkebokkckmgloaa.W
