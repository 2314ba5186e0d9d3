import Derived.Test.YtdkjhonaafadjaaGreatJ16
import Derived.Test.YtdkjhonaafadjaaGreatJ07
import Derived.Deep.QuietTactic
import Derived.BigQuiet
/- Books that are ok: holds at all places; the program's side. -/
namespace Go.Proofs.YtdkjhonaafadjaaGreat.W
open Go.RowKit
set_option linter.unusedVariables false

set_option maxHeartbeats 1000000 in
theorem holdsDiffer2 (a : Option Addr) (cap : Nat) (ws : List WantD) (w : World) (hG : Gv w a ws) (hc : ws.length ≤ cap) (hl : ws.length ≤ 1048576) :
    Calls Tryz.prog 46 #[.slice a ws.length cap] w fun e w' => (∃ q : Bool, e = .returned (.bool q) ∧ (q = true ↔ Diff ws ws.length)) ∧ Below w.heap.size w w' := by
  go_enter Tryz.func46, Tryz.ntmps46
  go_wp2
  go_loopw [9] (fun i wx => ∃ (k : Nat), k ≤ ws.length ∧ i = .int .i64 k ∧ Hid (Diff ws k) ∧ Below w.heap.size w wx) (fun i _ => ws.length - (intOf i).toNat)
  case atStart => exact ⟨0, Nat.zero_le _, rfl, fun j r h => by omega, Below.refl _ _⟩
  case round =>
    obtain ⟨k, hk, rfl, Ha, hB⟩ := hrel
    by_cases hlt : k < ws.length
    · obtain ⟨b, rfl, l1, hR⟩ := hG.resolve_left (fun h => by rw [h] at hlt; simp at hlt)
      have hkc : (k : Int) ≤ (cap : Int) := by omega
      obtain ⟨r, hr⟩ : ∃ r, ws[k]? = some r := ⟨ws[k], List.getElem?_eq_getElem hlt⟩
      have Hr : Hid _ := hr
      clear hr
      have i0 : (0 : Int) ≤ (k : Int) := by omega
      have i1 : (k : Int) ≤ (ws.length : Int) := by omega
      obtain ⟨c0, c1, c2, c3, c4, c5, c6⟩ := (hR.keep l1 hB).at Hr.out
      simp only [Nat.zero_add] at c0 c1 c2 c3 c4 c5 c6
      obtain ⟨wo, rfl⟩ : ∃ wo : World, wo = wr := ⟨_, rfl⟩
      go_wp2_with fail
      clear c0 c1 c2 c3 c4 c5 c6
      go_loopw [18] (fun j wx => ∃ (n : Nat), n ≤ k ∧ j = .int .i64 n ∧ Hid (NoneOf ws r n) ∧ Below (wo.alloc (.cells #[.string r.c, .int .i64 r.v, .string r.h, .int .i64 r.p, .int .i64 r.s, .int .i64 r.d, .int .i64 r.g] 68)).heap.size (wo.alloc (.cells #[.string r.c, .int .i64 r.v, .string r.h, .int .i64 r.p, .int .i64 r.s, .int .i64 r.d, .int .i64 r.g] 68)) wx) (fun j _ => k - (intOf j).toNat)
      case atStart => exact ⟨0, Nat.zero_le _, rfl, fun i q h => by omega, Below.refl _ _⟩
      case round =>
        obtain ⟨n, hn, rfl, Hn, hBn⟩ := hrel
        have bo : Below w.heap.size w wr := bl_trans (bl_trans hB (bl_alloc (Below.refl _ _) _)) hBn
        by_cases hnl : n < k
        · obtain ⟨t, ht⟩ : ∃ t, ws[n]? = some t := ⟨ws[n], List.getElem?_eq_getElem (by omega)⟩
          have Ht : Hid _ := ht
          clear ht
          have j0 : (0 : Int) ≤ (n : Int) := by omega
          have j1 : (n : Int) < (k : Int) := by omega
          obtain ⟨c0, c1, c2, c3, c4, c5, c6⟩ := (hR.keep l1 bo).at Ht.out
          simp only [Nat.zero_add] at c0 c1 c2 c3 c4 c5 c6
          have hkb := box_keep hBn
          have hzb := boxlt hBn
          cases he : r.h.toList.isEmpty
          · cases hcl : (t.h.toList == r.h.toList)
            · go_wp2
              exact ⟨⟨n + 1, by omega, by go_num, NoneOf.step Hn.out Ht.out (by simp [clash, he, hcl]), bl_trans hBn (bl_alloc (Below.refl _ _) _)⟩, by simp [intOf]; omega⟩
            · go_wp2
              go_ret
              exact ⟨⟨false, rfl, ⟨fun h => (by cases h), fun h => by have := h k r hlt Hr.out n t hnl Ht.out; simp [clash, he, hcl] at this⟩⟩, bl_alloc bo _⟩
          · go_wp2
            exact ⟨⟨n + 1, by omega, by go_num, NoneOf.step Hn.out Ht.out (by simp [clash, he]), bl_trans hBn (bl_alloc (Below.refl _ _) _)⟩, by simp [intOf]; omega⟩
        · have hne : n = k := by omega
          subst hne
          go_wp2
          exact ⟨⟨n + 1, by omega, by go_num, Ha.out.step Hr.out Hn.out, bo⟩, by simp [intOf]; omega⟩
    · go_wp2
      go_ret
      exact ⟨⟨true, rfl, ⟨fun _ j r hj hr => Ha.out j r (by omega) hr, fun _ => rfl⟩⟩, hB⟩
end Go.Proofs.YtdkjhonaafadjaaGreat.W
namespace Go.Proofs.YtdkjhonaafadjaaGreat.P
open Go.RowKit
set_option linter.unusedVariables false

def SaysH (q : Bool) (ps : List PlaceD) : Prop := q = true ↔ W.Diff (ps.flatMap (·.ws)) (ps.flatMap (·.ws)).length
theorem flat_len (ps : List PlaceD) (h : ∀ p ∈ ps, p.ws.length ≤ 10) : (ps.flatMap (·.ws)).length ≤ ps.length * 10 := by
  induction ps with
  | nil => simp
  | cons p ps ih =>
    rw [List.flatMap_cons, List.length_append, List.length_cons]
    have h1 := h p (List.mem_cons_self ..)
    have h2 := ih (fun q hq => h q (List.mem_cons_of_mem _ hq))
    omega
theorem flatW_append (xs ys : List W.WantD) : W.flatR (xs ++ ys) = W.flatR xs ++ W.flatR ys := by simp [W.flatR]
theorem flat_step {ps : List PlaceD} {k : Nat} {p : PlaceD} (hp : ps[k]? = some p) : (ps.take (k + 1)).flatMap (·.ws) = (ps.take k).flatMap (·.ws) ++ p.ws := by
  have hlt : k < ps.length := (List.getElem?_eq_some_iff.1 hp).1
  have he : ps[k] = p := by rw [List.getElem?_eq_getElem hlt] at hp; exact Option.some.inj hp
  rw [List.take_succ_eq_append_getElem hlt, List.flatMap_append, he]
  simp
theorem sl_gv {w : World} {v : Value} {ws : List W.WantD} {B : Nat} (h : w.ownsRow B 68 7 v ws.length (W.flatR ws)) : ∃ a c, v = .slice a ws.length c ∧ ws.length ≤ c ∧ W.Gv w a ws := by
  have hs : W.Sl w v ws B := W.Sl.of_owns h
  rcases h.2 with ⟨h1, h2⟩ | ⟨g, cap, cur, h1, -, -, h4, -⟩
  · exact ⟨none, 0, by rw [h2]; exact h1, by omega, Or.inl (List.eq_nil_of_length_eq_zero h2)⟩
  · refine ⟨_, cap, h1, h4, ?_⟩
    rcases hs with ⟨-, h⟩ | ⟨g', cap', e, h1', h2', h3', h4'⟩
    · exact Or.inl h
    · rw [h1] at e; cases e; exact Or.inr ⟨g, rfl, h2', h3'⟩

set_option maxRecDepth 4000 in
set_option maxHeartbeats 1000000 in
theorem holdApart_any (t : Int) (gs : List G.GrantD) (ps : List PlaceD) (b1 b2 : Nat) (w : World) (hA : LandAt w gs ps b1 b2) (hF : Fit gs ps) (h4 : ps.length ≤ 4) (h10 : ∀ p ∈ ps, p.ws.length ≤ 10) :
    Calls Tryz.prog 107 #[.agg #[.int .i64 t, .slice (some ⟨b1, 0, none⟩) gs.length gs.length, .slice (some ⟨b2, 0, none⟩) ps.length ps.length]] w fun e w' => (∃ q : Bool, e = .returned (.bool q) ∧ SaysH q ps) ∧ Below w.heap.size w w' := by
  have HA : Hid (LandAt w gs ps b1 b2) := hA
  have H10 : Hid _ := h10
  obtain ⟨i0, hi, hz0, hz1, hz2⟩ := info_parts W.infoR
  clear hA hF h10
  go_enter Tryz.func107, Tryz.ntmps107
  go_wp2
  go_loopw [3, 9] (fun v i wx => ∃ (k : Nat), k ≤ ps.length ∧ i = .int .i64 k ∧ wx.ownsRow (w.heap.size + 1) 68 7 v ((ps.take k).flatMap (·.ws)).length (W.flatR ((ps.take k).flatMap (·.ws))) ∧ Below (w.alloc (.cells #[.int .i64 t, .slice (some ⟨b1, 0, none⟩) gs.length gs.length, .slice (some ⟨b2, 0, none⟩) ps.length ps.length] 27)).heap.size (w.alloc (.cells #[.int .i64 t, .slice (some ⟨b1, 0, none⟩) gs.length gs.length, .slice (some ⟨b2, 0, none⟩) ps.length ps.length] 27)) wx) (fun _ i _ => ps.length - (intOf i).toNat)
  case atStart => exact ⟨0, Nat.zero_le _, rfl, World.ownsRow_nil _ _ _ _, Below.refl _ _⟩
  case round =>
    obtain ⟨k, hk, rfl, hown, hB⟩ := hrel
    by_cases hlt : k < ps.length
    · obtain ⟨p, hp⟩ : ∃ p, ps[k]? = some p := ⟨ps[k], List.getElem?_eq_getElem hlt⟩
      have Hp : Hid _ := hp
      have hA1 := HA.out.keep (bl_trans (bl_alloc (Below.refl _ _) _) hB)
      obtain ⟨c0, c1, c2⟩ := hA1.p.at hp
      simp only [Nat.zero_add] at c0 c1 c2
      obtain ⟨g, e1, e2, -, hg, hrw⟩ := hA1.k p (List.mem_of_getElem? hp)
      have hw10 : p.ws.length ≤ 10 := H10.out p (List.mem_of_getElem? hp)
      rw [e1, e2] at c2
      obtain ⟨n, hn⟩ : ∃ n, n = ((ps.take k).flatMap (·.ws)).length := ⟨_, rfl⟩
      obtain ⟨xs, hxs⟩ : ∃ xs, xs = W.flatR ((ps.take k).flatMap (·.ws)) := ⟨_, rfl⟩
      have hnk : n ≤ 40 := by
        rw [hn]
        have h1 := flat_len (ps.take k) (fun q hq => H10.out q (List.mem_of_mem_take hq))
        have h2 : (ps.take k).length ≤ 4 := by rw [List.length_take]; omega
        omega
      rw [← hn, ← hxs] at hown
      have Ho : Hid (wr.ownsRow (w.heap.size + 1) 68 7 _ n xs) := hown
      have Hn : Hid _ := hn
      have Hx : Hid _ := hxs
      have Hrw : Hid (W.RowsAt wr g 0 p.ws) := hrw
      have hz : w.heap.size + 1 ≤ wr.heap.size := by have := hB.size; simpa using this
      clear hp hown hn hxs hrw hA1
      go_wp2_with (at_builtin; refine wpList_append_own _ rfl _ _ 48 rfl (w.heap.size + 1) 68 i0 _ 7 72 Tryz.underlying48 hi hz0 hz1 hz2 rfl (by decide) _ n _ rfl (by exact owns_below Ho.out (by repeat (first | exact Below.refl _ _ | refine bl_alloc ?_ _))) ⟨g, 0, none⟩ p.ws.length p.ws.length (W.flatR p.ws) (by first | rfl | simp [Act.eval]) (W.flatR_len _) (W.flat_cells (Hrw.out.keep hg (by repeat (first | exact Below.refl _ _ | refine bl_alloc ?_ _)))) (W.flatR_one _) (by unfold maxLen; omega) (by omega) (by simp; omega) ?_; intro v' w2 ho2 hg2 hn2)
      refine ⟨⟨k + 1, by omega, by go_num, ?_, Below.grown (by repeat (first | exact hB | refine bl_alloc ?_ _)) hg2 (by simp; omega) (fun j hj => by have := owns_ge Ho.out j hj; simpa using this)⟩, by simp [intOf]; omega⟩
      rw [flat_step Hp.out, List.length_append, flatW_append, ← Hn.out, ← Hx.out]
      exact ho2
    · have hk' : k = ps.length := by omega
      subst hk'
      rw [List.take_of_length_le (Nat.le_refl _)] at hown
      obtain ⟨a, c, rfl, hc, hG⟩ := sl_gv hown
      have HG : Hid _ := hG
      have hlen : (ps.flatMap (·.ws)).length ≤ 1048576 := by
        have h1 := flat_len ps H10.out
        omega
      obtain ⟨l, hl⟩ : ∃ l, l = ps.flatMap (·.ws) := ⟨_, rfl⟩
      have Hl : Hid _ := hl
      rw [← hl] at hc hlen ⊢
      have HG2 : Hid (W.Gv wr a l) := by rw [hl]; exact HG.out
      have HB : Hid (Below w.heap.size w wr) := bl_trans (bl_alloc (Below.refl _ _) _) hB
      clear hl hown hG HG hB
      go_wp2_with fail
      refine (W.holdsDiffer2 a c l _ HG2.out hc hlen).mono ?_
      rintro e w3 ⟨⟨q, rfl, kq⟩, c3⟩
      have K : Hid _ := kq
      have B3 : Hid (Below w.heap.size w w3) := bl_trans HB.out c3
      clear kq c3
      go_wp2
      go_ret
      exact ⟨⟨q, rfl, by unfold SaysH; rw [← Hl.out]; exact K.out⟩, B3.out⟩
end Go.Proofs.YtdkjhonaafadjaaGreat.P
/- What settled is made of. -/
namespace Go.Proofs.YtdkjhonaafadjaaGreat
open Go.RowKit
set_option linter.unusedVariables false

theorem list_same {α : Type} {l1 l2 : List α} (hl : l1.length = l2.length) (h : ∀ (j : Nat) x y, l1[j]? = some x → l2[j]? = some y → x = y) : l1 = l2 := by
  apply List.ext_getElem? 
  intro j
  by_cases hj : j < l1.length
  · rw [List.getElem?_eq_getElem hj, List.getElem?_eq_getElem (by omega : j < l2.length)]
    exact congrArg some (h j _ _ (List.getElem?_eq_getElem hj) (List.getElem?_eq_getElem (by omega : j < l2.length)))
  · rw [List.getElem?_eq_none (by omega), List.getElem?_eq_none (by omega)]

set_option maxRecDepth 4000 in
set_option maxHeartbeats 2000000 in
theorem l6Same_any (a1 a2 : Option Addr) (p1 p2 : Nat) (l1 l2 : List W.WantD) (w : World) (h1 : W.Gv w a1 l1) (h2 : W.Gv w a2 l2) (k1 : l1.length ≤ 1048576) (k2 : l2.length ≤ 1048576) :
    Calls Tryz.prog 47 #[.slice a1 l1.length p1, .slice a2 l2.length p2] w fun e w' => (∃ q : Bool, e = .returned (.bool q) ∧ (q = true ↔ l1 = l2)) ∧ Below w.heap.size w w' := by
  have H1 : Hid (W.Gv w a1 l1) := h1
  have H2 : Hid (W.Gv w a2 l2) := h2
  clear h1 h2
  by_cases hl : l1.length = l2.length
  rotate_left
  · have hl' : ((l1.length : Int) == (l2.length : Int)) = false := by simpa using (by omega : ¬ (l1.length : Int) = (l2.length : Int))
    have Hl : Hid (¬ l1.length = l2.length) := hl
    clear hl
    go_enter Tryz.func47, Tryz.ntmps47
    go_wp2
    go_ret
    exact ⟨⟨false, rfl, ⟨fun h => (by cases h), fun h => (Hl.out (by rw [h])).elim⟩⟩, Below.refl _ _⟩
  have Hl : Hid (l1.length = l2.length) := hl
  rw [← hl]
  clear hl
  go_enter Tryz.func47, Tryz.ntmps47
  go_wp2
  go_loopw [5] (fun i wx => ∃ (k : Nat), k ≤ l1.length ∧ i = .int .i64 k ∧ Hid (∀ (j : Nat) x y, j < k → l1[j]? = some x → l2[j]? = some y → x = y) ∧ Hid (Below w.heap.size w wx)) (fun i _ => l1.length - (intOf i).toNat)
  case atStart => exact ⟨0, Nat.zero_le _, rfl, (fun j x y h => by omega), Below.refl _ _⟩
  case round =>
    obtain ⟨k, hk, rfl, HA, HB⟩ := hrel
    by_cases hlt : k < l1.length
    rotate_left
    · go_wp2
      go_ret
      exact ⟨⟨true, rfl, ⟨fun _ => list_same Hl.out (fun j x y hx hy => HA.out j x y (by have := (List.getElem?_eq_some_iff.1 hx).1; omega) hx hy), fun _ => rfl⟩⟩, HB.out⟩
    have hlt2 : k < l2.length := by have := Hl.out; omega
    obtain ⟨x, hx⟩ : ∃ x, l1[k]? = some x := ⟨l1[k], List.getElem?_eq_getElem hlt⟩
    obtain ⟨y, hy⟩ : ∃ y, l2[k]? = some y := ⟨l2[k], List.getElem?_eq_getElem hlt2⟩
    have Hx : Hid (l1[k]? = some x) := hx
    have Hy : Hid (l2[k]? = some y) := hy
    rcases H1.out.keep HB.out with hn | ⟨b1, hb1, z1, r1⟩
    · rw [hn] at hlt; simp at hlt
    rcases H2.out.keep HB.out with hn | ⟨b2, hb2, z2, r2⟩
    · rw [hn] at hlt2; simp at hlt2
    subst hb1 hb2
    obtain ⟨c0, c1, c2, c3, c4, c5, c6⟩ := r1.at hx
    obtain ⟨d0, d1, d2, d3, d4, d5, d6⟩ := r2.at hy
    simp only [Nat.zero_add] at c0 c1 c2 c3 c4 c5 c6 d0 d1 d2 d3 d4 d5 d6
    have i0 : (0 : Int) ≤ (k : Int) := by omega
    have i1 : (k : Int) < (l1.length : Int) := by omega
    clear hx hy r1 r2 hlt2
    cases hs : sameW y.c y.h x.c x.h y.v y.p y.s y.d y.g x.v x.p x.s x.d x.g
    · have hnw : ∀ w, Sem.run Tryz.prog (binOp .neq 68 (.agg #[.string x.c, .int .i64 x.v, .string x.h, .int .i64 x.p, .int .i64 x.s, .int .i64 x.d, .int .i64 x.g]) (.agg #[.string y.c, .int .i64 y.v, .string y.h, .int .i64 y.p, .int .i64 y.s, .int .i64 y.d, .int .i64 y.g])) w = .ok (.bool true) w := fun w => by rw [neq_want, hs]; rfl
      go_wp2_with fail
      go_quiet (fail)
      go_wp2
      go_ret
      exact ⟨⟨false, rfl, ⟨fun h => (by cases h), fun h => by
        have h1 := Hx.out
        rw [h, Hy.out] at h1
        cases h1
        rw [(same_iff _ _).2 rfl] at hs
        cases hs⟩⟩, Tx.bl_dnT HB.out⟩
    · have hnw : ∀ w, Sem.run Tryz.prog (binOp .neq 68 (.agg #[.string x.c, .int .i64 x.v, .string x.h, .int .i64 x.p, .int .i64 x.s, .int .i64 x.d, .int .i64 x.g]) (.agg #[.string y.c, .int .i64 y.v, .string y.h, .int .i64 y.p, .int .i64 y.s, .int .i64 y.d, .int .i64 y.g])) w = .ok (.bool false) w := fun w => by rw [neq_want, hs]; rfl
      go_wp2_with fail
      go_quiet (fail)
      go_wp2
      refine ⟨⟨k + 1, by omega, by go_num, (fun j u v hj hu hv => ?_), Tx.bl_dnT HB.out⟩, by simp [intOf]; omega⟩
      by_cases e : j = k
      · subst e
        have h1 := Hx.out
        have h2 := Hy.out
        rw [h1] at hu
        rw [h2] at hv
        cases hu
        cases hv
        exact (same_iff x y).1 hs
      · exact HA.out j u v (by omega) hu hv

def readyB (r : RunD) (q : W.WantD) : Bool := sameW q.c q.h r.c r.h q.v q.p q.s q.d q.g r.v r.p r.s r.d r.g && (r.a == 4)
theorem ready_iff (r : RunD) (q : W.WantD) : readyB r q = true ↔ wantOf r = q ∧ r.a = 4 := by
  unfold readyB
  rw [Bool.and_eq_true, beq_iff_eq, show (sameW q.c q.h r.c r.h q.v q.p q.s q.d q.g r.v r.p r.s r.d r.g) = (sameW q.c q.h (wantOf r).c (wantOf r).h q.v q.p q.s q.d q.g (wantOf r).v (wantOf r).p (wantOf r).s (wantOf r).d (wantOf r).g) from rfl, same_iff]
set_option maxRecDepth 4000 in
theorem ready_any (r : RunD) (q : W.WantD) (w : World) :
    Calls Tryz.prog 53 #[.agg #[.string r.c, .int .i64 r.v, .string r.h, .int .i64 r.p, .int .i64 r.s, .int .i64 r.d, .int .i64 r.g, .int .i64 r.a, .int .i64 r.b, .int .i64 r.i, .int .i64 r.u], .agg #[.string q.c, .int .i64 q.v, .string q.h, .int .i64 q.p, .int .i64 q.s, .int .i64 q.d, .int .i64 q.g]] w fun e w' => e = .returned (.bool (readyB r q)) ∧ Below w.heap.size w w' := by
  cases hs : sameW q.c q.h r.c r.h q.v q.p q.s q.d q.g r.v r.p r.s r.d r.g
  · have hnw : ∀ w, Sem.run Tryz.prog (binOp .eql 68 (.agg #[.string r.c, .int .i64 r.v, .string r.h, .int .i64 r.p, .int .i64 r.s, .int .i64 r.d, .int .i64 r.g]) (.agg #[.string q.c, .int .i64 q.v, .string q.h, .int .i64 q.p, .int .i64 q.s, .int .i64 q.d, .int .i64 q.g])) w = .ok (.bool false) w := fun w => by rw [eql_want, hs]
    have e1 : readyB r q = false := by unfold readyB; rw [hs]; rfl
    rw [e1]
    go_enter Tryz.func53, Tryz.ntmps53
    go_wp2
    go_ret
    exact ⟨rfl, bl_alloc (bl_alloc (Below.refl _ _) _) _⟩
  · have hnw : ∀ w, Sem.run Tryz.prog (binOp .eql 68 (.agg #[.string r.c, .int .i64 r.v, .string r.h, .int .i64 r.p, .int .i64 r.s, .int .i64 r.d, .int .i64 r.g]) (.agg #[.string q.c, .int .i64 q.v, .string q.h, .int .i64 q.p, .int .i64 q.s, .int .i64 q.d, .int .i64 q.g])) w = .ok (.bool true) w := fun w => by rw [eql_want, hs]
    have e1 : readyB r q = (r.a == 4) := by unfold readyB; rw [hs]; rfl
    rw [e1]
    go_enter Tryz.func53, Tryz.ntmps53
    go_wp2
    go_ret
    exact ⟨rfl, bl_alloc (bl_alloc (Below.refl _ _) _) _⟩
def Ready (rs : List RunD) (ws : List W.WantD) : Prop := rs.length = ws.length ∧ ∀ (j : Nat) x y, rs[j]? = some x → ws[j]? = some y → readyB x y = true
theorem ready_all (rs : List RunD) (ws : List W.WantD) : Ready rs ws ↔ (∀ r ∈ rs, r.a = 4) ∧ rs.map wantOf = ws := by
  constructor
  · rintro ⟨hl, h⟩
    constructor
    · intro r hr
      obtain ⟨j, hj⟩ := List.getElem?_of_mem hr
      have hlt : j < ws.length := by have := (List.getElem?_eq_some_iff.1 hj).1; omega
      exact ((ready_iff _ _).1 (h j r ws[j] hj (List.getElem?_eq_getElem hlt))).2
    · refine list_same (by rw [List.length_map]; exact hl) (fun j x y hx hy => ?_)
      rw [List.getElem?_map] at hx
      obtain ⟨r, hr, rfl⟩ := Option.map_eq_some_iff.1 hx
      exact ((ready_iff _ _).1 (h j r y hr hy)).1
  · rintro ⟨h4, he⟩
    refine ⟨by rw [← he, List.length_map], fun j x y hx hy => (ready_iff _ _).2 ⟨?_, h4 x (List.mem_of_getElem? hx)⟩⟩
    rw [← he, List.getElem?_map, hx] at hy
    exact Option.some.inj hy

set_option maxRecDepth 4000 in
set_option maxHeartbeats 2000000 in
theorem equalFunc_any (a1 a2 : Option Addr) (p1 p2 : Nat) (rs : List RunD) (ws : List W.WantD) (w : World) (h1 : Gv w a1 rs) (h2 : W.Gv w a2 ws) (k1 : rs.length ≤ 1048576) (k2 : ws.length ≤ 1048576) :
    Calls Tryz.prog 52 #[.slice a1 rs.length p1, .slice a2 ws.length p2, .func (.func 53) #[] #[]] w fun e w' => (∃ q : Bool, e = .returned (.bool q) ∧ (q = true ↔ Ready rs ws)) ∧ Below w.heap.size w w' := by
  have H1 : Hid (Gv w a1 rs) := h1
  have H2 : Hid (W.Gv w a2 ws) := h2
  clear h1 h2
  by_cases hl : rs.length = ws.length
  rotate_left
  · have hl' : ((rs.length : Int) == (ws.length : Int)) = false := by simpa using (by omega : ¬ (rs.length : Int) = (ws.length : Int))
    have Hl : Hid (¬ rs.length = ws.length) := hl
    clear hl
    go_enter Tryz.func52, Tryz.ntmps52
    go_wp2
    go_ret
    exact ⟨⟨false, rfl, ⟨fun h => (by cases h), fun h => (Hl.out h.1).elim⟩⟩, Below.refl _ _⟩
  have Hl : Hid (rs.length = ws.length) := hl
  rw [← hl]
  clear hl
  go_enter Tryz.func52, Tryz.ntmps52
  go_wp2
  go_loopw [17] (fun i wx => ∃ (k : Nat), k ≤ rs.length ∧ i = .int .i64 k ∧ Hid (∀ (j : Nat) x y, j < k → rs[j]? = some x → ws[j]? = some y → readyB x y = true) ∧ Hid (Below w.heap.size w wx)) (fun i _ => rs.length - (intOf i).toNat)
  case atStart => exact ⟨0, Nat.zero_le _, rfl, (fun j x y h => by omega), Below.refl _ _⟩
  case round =>
    obtain ⟨k, hk, rfl, HA, HB⟩ := hrel
    by_cases hlt : k < rs.length
    rotate_left
    · go_wp2
      go_ret
      exact ⟨⟨true, rfl, ⟨fun _ => ⟨Hl.out, fun j x y hx hy => HA.out j x y (by have := (List.getElem?_eq_some_iff.1 hx).1; omega) hx hy⟩, fun _ => rfl⟩⟩, HB.out⟩
    have hlt2 : k < ws.length := by have := Hl.out; omega
    obtain ⟨x, hx⟩ : ∃ x, rs[k]? = some x := ⟨rs[k], List.getElem?_eq_getElem hlt⟩
    obtain ⟨y, hy⟩ : ∃ y, ws[k]? = some y := ⟨ws[k], List.getElem?_eq_getElem hlt2⟩
    have Hx : Hid (rs[k]? = some x) := hx
    have Hy : Hid (ws[k]? = some y) := hy
    rcases H1.out.keep HB.out with hn | ⟨b1, hb1, z1, r1⟩
    · rw [hn] at hlt; simp at hlt
    rcases H2.out.keep HB.out with hn | ⟨b2, hb2, z2, r2⟩
    · rw [hn] at hlt2; simp at hlt2
    subst hb1 hb2
    obtain ⟨c0, c1, c2, c3, c4, c5, c6, c7, c8, c9, c10⟩ := r1.at hx
    obtain ⟨d0, d1, d2, d3, d4, d5, d6⟩ := r2.at hy
    simp only [Nat.zero_add] at c0 c1 c2 c3 c4 c5 c6 c7 c8 c9 c10 d0 d1 d2 d3 d4 d5 d6
    have i0 : (0 : Int) ≤ (k : Int) := by omega
    have i1 : (k : Int) < (rs.length : Int) := by omega
    clear hx hy r1 r2 hlt2
    go_wp2_with fail
    refine (ready_any x y _).mono ?_
    rintro e w1 ⟨rfl, hb⟩
    have B1 : Hid (Below w.heap.size w w1) := bl_trans HB.out (bl_trans (by repeat (first | exact Below.refl _ _ | refine bl_alloc ?_ _)) hb)
    clear c0 c1 c2 c3 c4 c5 c6 c7 c8 c9 c10 d0 d1 d2 d3 d4 d5 d6 hb
    cases hs : readyB x y
    · go_wp2
      go_ret
      exact ⟨⟨false, rfl, ⟨fun h => (by cases h), fun h => by have := h.2 k x y Hx.out Hy.out; rw [hs] at this; cases this⟩⟩, B1.out⟩
    · go_wp2
      refine ⟨⟨k + 1, by omega, by go_num, (fun j u v hj hu hv => ?_), B1.out⟩, by simp [intOf]; omega⟩
      by_cases e : j = k
      · subst e
        have h1 := Hx.out
        have h2 := Hy.out
        rw [h1] at hu
        rw [h2] at hv
        cases hu
        cases hv
        exact hs
      · exact HA.out j u v (by omega) hu hv
end Go.Proofs.YtdkjhonaafadjaaGreat
