import Derived.Test.YtkebokkckmgloaaJ06
import Derived.Test.YtkebokkckmgloaaJ05
import Derived.Laws.EntriesVeiled
/- Lists that are given: empty, or they lie in a block. -/
namespace Go.Proofs.Ytkebokkckmgloaa
open Go.RowKit
set_option linter.unusedVariables false

/-- A list of runs that is given: empty, or it lies in a block. -/
def Gv (w : World) (a : Option Addr) (rs : List RunD) : Prop := rs = [] ∨ ∃ b, a = some ⟨b, 0, none⟩ ∧ b < w.heap.size ∧ RowsAt w b 0 rs
theorem Gv.keep {w w' : World} {a : Option Addr} {rs : List RunD} (h : Gv w a rs) (hb : Below w.heap.size w w') : Gv w' a rs := by
  rcases h with h | ⟨b, h1, h2, h3⟩
  · exact Or.inl h
  · exact Or.inr ⟨b, h1, Nat.lt_of_lt_of_le h2 hb.size, h3.keep h2 hb⟩
theorem Sl.gv {w : World} {a : Option Addr} {rs : List RunD} {c B : Nat} (h : Sl w (.slice a rs.length c) rs B) : Gv w a rs := by
  rcases h with ⟨h, rfl⟩ | ⟨g, cap, h0, h1, h2, h3, h4⟩
  · exact Or.inl rfl
  · cases h0; exact Or.inr ⟨g, rfl, h2, h3⟩
def W.Gv (w : World) (a : Option Addr) (ws : List W.WantD) : Prop := ws = [] ∨ ∃ b, a = some ⟨b, 0, none⟩ ∧ b < w.heap.size ∧ W.RowsAt w b 0 ws
theorem W.Gv.keep {w w' : World} {a : Option Addr} {ws : List W.WantD} (h : W.Gv w a ws) (hb : Below w.heap.size w w') : W.Gv w' a ws := by
  rcases h with h | ⟨b, h1, h2, h3⟩
  · exact Or.inl h
  · exact Or.inr ⟨b, h1, Nat.lt_of_lt_of_le h2 hb.size, h3.keep h2 hb⟩
theorem W.Sl.gv {w : World} {a : Option Addr} {rs : List W.WantD} {c B : Nat} (h : W.Sl w (.slice a rs.length c) rs B) : W.Gv w a rs := by
  rcases h with ⟨h, rfl⟩ | ⟨g, cap, h0, h1, h2, h3, h4⟩
  · exact Or.inl rfl
  · cases h0; exact Or.inr ⟨g, rfl, h2, h3⟩
def A.Gv (w : World) (a : Option Addr) (ws : List A.AskD) : Prop := ws = [] ∨ ∃ b, a = some ⟨b, 0, none⟩ ∧ b < w.heap.size ∧ A.RowsAt w b 0 ws
theorem A.Gv.keep {w w' : World} {a : Option Addr} {ws : List A.AskD} (h : A.Gv w a ws) (hb : Below w.heap.size w w') : A.Gv w' a ws := by
  rcases h with h | ⟨b, h1, h2, h3⟩
  · exact Or.inl h
  · exact Or.inr ⟨b, h1, Nat.lt_of_lt_of_le h2 hb.size, h3.keep h2 hb⟩
theorem A.Sl.gv {w : World} {a : Option Addr} {rs : List A.AskD} {c B : Nat} (h : A.Sl w (.slice a rs.length c) rs B) : A.Gv w a rs := by
  rcases h with ⟨h, rfl⟩ | ⟨g, cap, h0, h1, h2, h3, h4⟩
  · exact Or.inl rfl
  · cases h0; exact Or.inr ⟨g, rfl, h2, h3⟩
end Go.Proofs.Ytkebokkckmgloaa
/- Books that are ok: holds at all places; the program's side. -/
namespace Go.Proofs.Ytkebokkckmgloaa.W
open Go.RowKit
set_option linter.unusedVariables false

set_option maxHeartbeats 1000000 in
theorem holdsDiffer2 (a : Option Addr) (cap : Nat) (ws : List WantD) (w : World) (hG : Gv w a ws) (hc : ws.length ≤ cap) (hl : ws.length ≤ 1048576) :
    Calls Try.prog 90 #[.slice a ws.length cap] w fun e w' => (∃ q : Bool, e = .returned (.bool q) ∧ (q = true ↔ Diff ws ws.length)) ∧ Below w.heap.size w w' := by
  go_enter Try.func90, Try.ntmps90
  go_wp2
  go_loopw [9] (fun i wx => ∃ (k : Nat), k ≤ ws.length ∧ i = .int .i64 k ∧ Hid (Diff ws k) ∧ Below w.heap.size w wx) (fun i _ => ws.length - (intOf i).toNat)
  case atStart => exact ⟨0, Nat.zero_le _, rfl, fun j r h => by omega, Below.refl _ _⟩
  case round =>
    obtain ⟨k, hk, rfl, Ha, hB⟩ := hrel
    by_cases hlt : k < ws.length
    · obtain ⟨b, rfl, l1, hR⟩ := hG.resolve_left (fun h => by rw [h] at hlt; simp at hlt)
      have hkc : (k : Int) ≤ (cap : Int) := by omega
      obtain ⟨r, hr⟩ : ∃ r, ws[k]? = some r := ⟨ws[k], List.getElem?_eq_getElem hlt⟩
      have Hr : Hid _ := hr
      clear hr
      have i0 : (0 : Int) ≤ (k : Int) := by omega
      have i1 : (k : Int) ≤ (ws.length : Int) := by omega
      obtain ⟨c0, c1, c2, c3, c4, c5, c6⟩ := (hR.keep l1 hB).at Hr.out
      simp only [Nat.zero_add] at c0 c1 c2 c3 c4 c5 c6
      obtain ⟨wo, rfl⟩ : ∃ wo : World, wo = wr := ⟨_, rfl⟩
      go_wp2_with fail
      clear c0 c1 c2 c3 c4 c5 c6
      go_loopw [18] (fun j wx => ∃ (n : Nat), n ≤ k ∧ j = .int .i64 n ∧ Hid (NoneOf ws r n) ∧ Below (wo.alloc (.cells #[.string r.c, .int .i64 r.v, .string r.h, .int .i64 r.p, .int .i64 r.s, .int .i64 r.d, .int .i64 r.g] 36)).heap.size (wo.alloc (.cells #[.string r.c, .int .i64 r.v, .string r.h, .int .i64 r.p, .int .i64 r.s, .int .i64 r.d, .int .i64 r.g] 36)) wx) (fun j _ => k - (intOf j).toNat)
      case atStart => exact ⟨0, Nat.zero_le _, rfl, fun i q h => by omega, Below.refl _ _⟩
      case round =>
        obtain ⟨n, hn, rfl, Hn, hBn⟩ := hrel
        have bo : Below w.heap.size w wr := bl_trans (bl_trans hB (bl_alloc (Below.refl _ _) _)) hBn
        by_cases hnl : n < k
        · obtain ⟨t, ht⟩ : ∃ t, ws[n]? = some t := ⟨ws[n], List.getElem?_eq_getElem (by omega)⟩
          have Ht : Hid _ := ht
          clear ht
          have j0 : (0 : Int) ≤ (n : Int) := by omega
          have j1 : (n : Int) < (k : Int) := by omega
          obtain ⟨c0, c1, c2, c3, c4, c5, c6⟩ := (hR.keep l1 bo).at Ht.out
          simp only [Nat.zero_add] at c0 c1 c2 c3 c4 c5 c6
          have hkb := box_keep hBn
          have hzb := boxlt hBn
          cases he : r.h.toList.isEmpty
          · cases hcl : (t.h.toList == r.h.toList)
            · go_wp2
              exact ⟨⟨n + 1, by omega, by go_num, NoneOf.step Hn.out Ht.out (by simp [clash, he, hcl]), bl_trans hBn (bl_alloc (Below.refl _ _) _)⟩, by simp [intOf]; omega⟩
            · go_wp2
              go_ret
              exact ⟨⟨false, rfl, ⟨fun h => (by cases h), fun h => by have := h k r hlt Hr.out n t hnl Ht.out; simp [clash, he, hcl] at this⟩⟩, bl_alloc bo _⟩
          · go_wp2
            exact ⟨⟨n + 1, by omega, by go_num, NoneOf.step Hn.out Ht.out (by simp [clash, he]), bl_trans hBn (bl_alloc (Below.refl _ _) _)⟩, by simp [intOf]; omega⟩
        · have hne : n = k := by omega
          subst hne
          go_wp2
          exact ⟨⟨n + 1, by omega, by go_num, Ha.out.step Hr.out Hn.out, bo⟩, by simp [intOf]; omega⟩
    · go_wp2
      go_ret
      exact ⟨⟨true, rfl, ⟨fun _ j r hj hr => Ha.out j r (by omega) hr, fun _ => rfl⟩⟩, hB⟩
end Go.Proofs.Ytkebokkckmgloaa.W
namespace Go.Proofs.Ytkebokkckmgloaa.P
open Go.RowKit
set_option linter.unusedVariables false

def SaysH (q : Bool) (ps : List PlaceD) : Prop := q = true ↔ W.Diff (ps.flatMap (·.ws)) (ps.flatMap (·.ws)).length
theorem flat_len (ps : List PlaceD) (h : ∀ p ∈ ps, p.ws.length ≤ 10) : (ps.flatMap (·.ws)).length ≤ ps.length * 10 := by
  induction ps with
  | nil => simp
  | cons p ps ih =>
    rw [List.flatMap_cons, List.length_append, List.length_cons]
    have h1 := h p (List.mem_cons_self ..)
    have h2 := ih (fun q hq => h q (List.mem_cons_of_mem _ hq))
    omega
theorem flatW_append (xs ys : List W.WantD) : W.flatR (xs ++ ys) = W.flatR xs ++ W.flatR ys := by simp [W.flatR]
theorem flat_step {ps : List PlaceD} {k : Nat} {p : PlaceD} (hp : ps[k]? = some p) : (ps.take (k + 1)).flatMap (·.ws) = (ps.take k).flatMap (·.ws) ++ p.ws := by
  have hlt : k < ps.length := (List.getElem?_eq_some_iff.1 hp).1
  have he : ps[k] = p := by rw [List.getElem?_eq_getElem hlt] at hp; exact Option.some.inj hp
  rw [List.take_succ_eq_append_getElem hlt, List.flatMap_append, he]
  simp
theorem sl_gv {w : World} {v : Value} {ws : List W.WantD} {B : Nat} (h : w.ownsRow B 36 7 v ws.length (W.flatR ws)) : ∃ a c, v = .slice a ws.length c ∧ ws.length ≤ c ∧ W.Gv w a ws := by
  have hs : W.Sl w v ws B := W.Sl.of_owns h
  rcases h.2 with ⟨h1, h2⟩ | ⟨g, cap, cur, h1, -, -, h4, -⟩
  · exact ⟨none, 0, by rw [h2]; exact h1, by omega, Or.inl (List.eq_nil_of_length_eq_zero h2)⟩
  · refine ⟨_, cap, h1, h4, ?_⟩
    rcases hs with ⟨-, h⟩ | ⟨g', cap', e, h1', h2', h3', h4'⟩
    · exact Or.inl h
    · rw [h1] at e; cases e; exact Or.inr ⟨g, rfl, h2', h3'⟩

set_option maxRecDepth 4000 in
set_option maxHeartbeats 1000000 in
theorem holdApart_any (t : Int) (gs : List G.GrantD) (ps : List PlaceD) (b1 b2 : Nat) (w : World) (hA : LandAt w gs ps b1 b2) (hF : Fit gs ps) (h4 : ps.length ≤ 4) (h10 : ∀ p ∈ ps, p.ws.length ≤ 10) :
    Calls Try.prog 118 #[.agg #[.int .i64 t, .slice (some ⟨b1, 0, none⟩) gs.length gs.length, .slice (some ⟨b2, 0, none⟩) ps.length ps.length]] w fun e w' => (∃ q : Bool, e = .returned (.bool q) ∧ SaysH q ps) ∧ Below w.heap.size w w' := by
  have HA : Hid (LandAt w gs ps b1 b2) := hA
  have H10 : Hid _ := h10
  obtain ⟨i0, hi, hz0, hz1, hz2⟩ := info_parts W.infoR
  clear hA hF h10
  go_enter Try.func118, Try.ntmps118
  go_wp2
  go_loopw [3, 9] (fun v i wx => ∃ (k : Nat), k ≤ ps.length ∧ i = .int .i64 k ∧ wx.ownsRow (w.heap.size + 1) 36 7 v ((ps.take k).flatMap (·.ws)).length (W.flatR ((ps.take k).flatMap (·.ws))) ∧ Below (w.alloc (.cells #[.int .i64 t, .slice (some ⟨b1, 0, none⟩) gs.length gs.length, .slice (some ⟨b2, 0, none⟩) ps.length ps.length] 85)).heap.size (w.alloc (.cells #[.int .i64 t, .slice (some ⟨b1, 0, none⟩) gs.length gs.length, .slice (some ⟨b2, 0, none⟩) ps.length ps.length] 85)) wx) (fun _ i _ => ps.length - (intOf i).toNat)
  case atStart => exact ⟨0, Nat.zero_le _, rfl, World.ownsRow_nil _ _ _ _, Below.refl _ _⟩
  case round =>
    obtain ⟨k, hk, rfl, hown, hB⟩ := hrel
    by_cases hlt : k < ps.length
    · obtain ⟨p, hp⟩ : ∃ p, ps[k]? = some p := ⟨ps[k], List.getElem?_eq_getElem hlt⟩
      have Hp : Hid _ := hp
      have hA1 := HA.out.keep (bl_trans (bl_alloc (Below.refl _ _) _) hB)
      obtain ⟨c0, c1, c2⟩ := hA1.p.at hp
      simp only [Nat.zero_add] at c0 c1 c2
      obtain ⟨g, e1, e2, -, hg, hrw⟩ := hA1.k p (List.mem_of_getElem? hp)
      have hw10 : p.ws.length ≤ 10 := H10.out p (List.mem_of_getElem? hp)
      rw [e1, e2] at c2
      obtain ⟨n, hn⟩ : ∃ n, n = ((ps.take k).flatMap (·.ws)).length := ⟨_, rfl⟩
      obtain ⟨xs, hxs⟩ : ∃ xs, xs = W.flatR ((ps.take k).flatMap (·.ws)) := ⟨_, rfl⟩
      have hnk : n ≤ 40 := by
        rw [hn]
        have h1 := flat_len (ps.take k) (fun q hq => H10.out q (List.mem_of_mem_take hq))
        have h2 : (ps.take k).length ≤ 4 := by rw [List.length_take]; omega
        omega
      rw [← hn, ← hxs] at hown
      have Ho : Hid (wr.ownsRow (w.heap.size + 1) 36 7 _ n xs) := hown
      have Hn : Hid _ := hn
      have Hx : Hid _ := hxs
      have Hrw : Hid (W.RowsAt wr g 0 p.ws) := hrw
      have hz : w.heap.size + 1 ≤ wr.heap.size := by have := hB.size; simpa using this
      clear hp hown hn hxs hrw hA1
      go_wp2_with (at_builtin; refine wpList_append_own _ rfl _ _ 23 rfl (w.heap.size + 1) 36 i0 _ 7 72 Try.underlying23 hi hz0 hz1 hz2 rfl (by decide) _ n _ rfl (by exact owns_below Ho.out (by repeat (first | exact Below.refl _ _ | refine bl_alloc ?_ _))) ⟨g, 0, none⟩ p.ws.length p.ws.length (W.flatR p.ws) (by first | rfl | simp [Act.eval]) (W.flatR_len _) (W.flat_cells (Hrw.out.keep hg (by repeat (first | exact Below.refl _ _ | refine bl_alloc ?_ _)))) (W.flatR_one _) (by unfold maxLen; omega) (by omega) (by simp; omega) ?_; intro v' w2 ho2 hg2 hn2)
      refine ⟨⟨k + 1, by omega, by go_num, ?_, Below.grown (by repeat (first | exact hB | refine bl_alloc ?_ _)) hg2 (by simp; omega) (fun j hj => by have := owns_ge Ho.out j hj; simpa using this)⟩, by simp [intOf]; omega⟩
      rw [flat_step Hp.out, List.length_append, flatW_append, ← Hn.out, ← Hx.out]
      exact ho2
    · have hk' : k = ps.length := by omega
      subst hk'
      rw [List.take_of_length_le (Nat.le_refl _)] at hown
      obtain ⟨a, c, rfl, hc, hG⟩ := sl_gv hown
      have HG : Hid _ := hG
      have hlen : (ps.flatMap (·.ws)).length ≤ 1048576 := by
        have h1 := flat_len ps H10.out
        omega
      obtain ⟨l, hl⟩ : ∃ l, l = ps.flatMap (·.ws) := ⟨_, rfl⟩
      have Hl : Hid _ := hl
      rw [← hl] at hc hlen ⊢
      have HG2 : Hid (W.Gv wr a l) := by rw [hl]; exact HG.out
      have HB : Hid (Below w.heap.size w wr) := bl_trans (bl_alloc (Below.refl _ _) _) hB
      clear hl hown hG HG hB
      go_wp2_with fail
      refine (W.holdsDiffer2 a c l _ HG2.out hc hlen).mono ?_
      rintro e w3 ⟨⟨q, rfl, kq⟩, c3⟩
      have K : Hid _ := kq
      have B3 : Hid (Below w.heap.size w w3) := bl_trans HB.out c3
      clear kq c3
      go_wp2
      go_ret
      exact ⟨⟨q, rfl, by unfold SaysH; rw [← Hl.out]; exact K.out⟩, B3.out⟩
end Go.Proofs.Ytkebokkckmgloaa.P
/- MateLandOk: the program's side. -/
namespace Go.Proofs.Ytkebokkckmgloaa.P
open Go.RowKit
set_option linter.unusedVariables false

theorem build_land (w : World) : Sem.run Try.prog (Instr.buildSlice 142 4 #[(0, .func (.func 115) #[] #[]), (1, .func (.func 116) #[] #[]), (2, .func (.func 117) #[] #[]), (3, .func (.func 118) #[] #[])]) w = .ok (.slice (some ⟨w.heap.size, 0, none⟩) 4 4) (w.alloc (.cells #[.func (.func 115) #[] #[], .func (.func 116) #[] #[], .func (.func 117) #[] #[], .func (.func 118) #[] #[]] 81)) := by kernel_rfl
theorem saysL_no {t : Int} {gs : List G.GrantD} {ps : List PlaceD} (h : LandSay t gs ps → False) : SaysL false t gs ps := ⟨fun h' => (by cases h'), fun h' => (h h').elim⟩
theorem three_land {w w' : World} {t : Int} {gs : List G.GrantD} {ps : List PlaceD} {b1 b2 : Nat} (hb : Below ((((w.alloc (.cells #[.int .i64 t, .slice (some ⟨b1, 0, none⟩) gs.length gs.length, .slice (some ⟨b2, 0, none⟩) ps.length ps.length] 85))).alloc (.cells #[.func (.func 115) #[] #[], .func (.func 116) #[] #[], .func (.func 117) #[] #[], .func (.func 118) #[] #[]] 81)).alloc (.cells #[.int .i64 t, .slice (some ⟨b1, 0, none⟩) gs.length gs.length, .slice (some ⟨b2, 0, none⟩) ps.length ps.length] 85)).heap.size ((((w.alloc (.cells #[.int .i64 t, .slice (some ⟨b1, 0, none⟩) gs.length gs.length, .slice (some ⟨b2, 0, none⟩) ps.length ps.length] 85))).alloc (.cells #[.func (.func 115) #[] #[], .func (.func 116) #[] #[], .func (.func 117) #[] #[], .func (.func 118) #[] #[]] 81)).alloc (.cells #[.int .i64 t, .slice (some ⟨b1, 0, none⟩) gs.length gs.length, .slice (some ⟨b2, 0, none⟩) ps.length ps.length] 85)) w') :
    (∀ k, w'.cell? ⟨w.heap.size + 1, k, none⟩ = (#[.func (.func 115) #[] #[], .func (.func 116) #[] #[], .func (.func 117) #[] #[], .func (.func 118) #[] #[]] : Array Value)[k]?) ∧ (∀ k, w'.cell? ⟨w.heap.size + 1 + 1, k, none⟩ = (#[.int .i64 t, .slice (some ⟨b1, 0, none⟩) gs.length gs.length, .slice (some ⟨b2, 0, none⟩) ps.length ps.length] : Array Value)[k]?) := by
  constructor
  · intro k
    rw [hb.cell (p := ⟨w.heap.size + 1, k, none⟩) (by simp)]
    simp [go_sem, World.cell?_alloc_past]
  · intro k
    rw [hb.cell (p := ⟨w.heap.size + 1 + 1, k, none⟩) (by simp)]
    simp [go_sem]

set_option maxRecDepth 4000 in
set_option maxHeartbeats 2000000 in
theorem implLandOk (t : Int) (gs : List G.GrantD) (ps : List PlaceD) (b1 b2 : Nat) (w : World) (hA : LandAt w gs ps b1 b2) (hF : Fit gs ps) :
    Calls Try.prog 55 #[.agg #[.int .i64 t, .slice (some ⟨b1, 0, none⟩) gs.length gs.length, .slice (some ⟨b2, 0, none⟩) ps.length ps.length]] w fun e w' => (∃ q : Bool, e = .returned (.bool q) ∧ SaysL q t gs ps) ∧ Below w.heap.size w w' := by
  have Hx0 : Hid (Below w.heap.size w ((((w.alloc (.cells #[.int .i64 t, .slice (some ⟨b1, 0, none⟩) gs.length gs.length, .slice (some ⟨b2, 0, none⟩) ps.length ps.length] 85))).alloc (.cells #[.func (.func 115) #[] #[], .func (.func 116) #[] #[], .func (.func 117) #[] #[], .func (.func 118) #[] #[]] 81)).alloc (.cells #[.int .i64 t, .slice (some ⟨b1, 0, none⟩) gs.length gs.length, .slice (some ⟨b2, 0, none⟩) ps.length ps.length] 85))) := bl_alloc (bl_alloc (bl_alloc (Below.refl _ _) _) _) _
  have HA0 : Hid (LandAt ((((w.alloc (.cells #[.int .i64 t, .slice (some ⟨b1, 0, none⟩) gs.length gs.length, .slice (some ⟨b2, 0, none⟩) ps.length ps.length] 85))).alloc (.cells #[.func (.func 115) #[] #[], .func (.func 116) #[] #[], .func (.func 117) #[] #[], .func (.func 118) #[] #[]] 81)).alloc (.cells #[.int .i64 t, .slice (some ⟨b1, 0, none⟩) gs.length gs.length, .slice (some ⟨b2, 0, none⟩) ps.length ps.length] 85)) gs ps b1 b2) := hA.keep Hx0.out
  have HF : Hid (Fit gs ps) := hF
  clear hA hF
  have hbv := build_land
  go_enter Try.func55, Try.ntmps55
  go_wp2_with go_in
  clear hbv
  refine wp_loop_rounds 5 ?_
  rw [rounds_succ]
  go_wp2_with fail
  refine (timeOk_any t _ _ _ _ _ _ _).mono ?_
  rintro e w1 ⟨rfl, c1⟩
  obtain ⟨q1, hq1⟩ : ∃ q, q = timeB t := ⟨_, rfl⟩
  have H1 : Hid (q1 = true ↔ timeB t = true) := by rw [hq1]; exact Iff.rfl
  rw [← hq1]
  have C1 : Hid (Below ((((w.alloc (.cells #[.int .i64 t, .slice (some ⟨b1, 0, none⟩) gs.length gs.length, .slice (some ⟨b2, 0, none⟩) ps.length ps.length] 85))).alloc (.cells #[.func (.func 115) #[] #[], .func (.func 116) #[] #[], .func (.func 117) #[] #[], .func (.func 118) #[] #[]] 81)).alloc (.cells #[.int .i64 t, .slice (some ⟨b1, 0, none⟩) gs.length gs.length, .slice (some ⟨b2, 0, none⟩) ps.length ps.length] 85)).heap.size ((((w.alloc (.cells #[.int .i64 t, .slice (some ⟨b1, 0, none⟩) gs.length gs.length, .slice (some ⟨b2, 0, none⟩) ps.length ps.length] 85))).alloc (.cells #[.func (.func 115) #[] #[], .func (.func 116) #[] #[], .func (.func 117) #[] #[], .func (.func 118) #[] #[]] 81)).alloc (.cells #[.int .i64 t, .slice (some ⟨b1, 0, none⟩) gs.length gs.length, .slice (some ⟨b2, 0, none⟩) ps.length ps.length] 85)) w1) := c1
  clear hq1 c1
  obtain ⟨kf1, km1⟩ := three_land C1.out
  cases q1
  · go_wp2
    go_ret
    exact ⟨⟨false, rfl, saysL_no (fun h => by have := H1.out.2 h.1; cases this)⟩, bl_trans Hx0.out C1.out⟩
  have G1 : Hid (timeB t = true) := H1.out.1 rfl
  clear H1
  have ht0 : 0 ≤ t := by have := G1.out; simp [timeB, inB] at this; omega
  have ht1 : t ≤ 2000000 := by have := G1.out; simp [timeB, inB] at this; omega
  have HA1 : Hid (LandAt w1 gs ps b1 b2) := HA0.out.keep C1.out
  go_wp2_with fail
  rw [rounds_succ]
  go_wp2_with fail
  refine (grantsOk_any t gs ps b1 b2 _ HA1.out HF.out ht0 ht1).mono ?_
  rintro e w2 ⟨⟨q2, rfl, h2⟩, c2⟩
  have H2 : Hid (q2 = true ↔ GrantsSay t gs) := h2
  have C2 : Hid (Below ((((w.alloc (.cells #[.int .i64 t, .slice (some ⟨b1, 0, none⟩) gs.length gs.length, .slice (some ⟨b2, 0, none⟩) ps.length ps.length] 85))).alloc (.cells #[.func (.func 115) #[] #[], .func (.func 116) #[] #[], .func (.func 117) #[] #[], .func (.func 118) #[] #[]] 81)).alloc (.cells #[.int .i64 t, .slice (some ⟨b1, 0, none⟩) gs.length gs.length, .slice (some ⟨b2, 0, none⟩) ps.length ps.length] 85)).heap.size ((((w.alloc (.cells #[.int .i64 t, .slice (some ⟨b1, 0, none⟩) gs.length gs.length, .slice (some ⟨b2, 0, none⟩) ps.length ps.length] 85))).alloc (.cells #[.func (.func 115) #[] #[], .func (.func 116) #[] #[], .func (.func 117) #[] #[], .func (.func 118) #[] #[]] 81)).alloc (.cells #[.int .i64 t, .slice (some ⟨b1, 0, none⟩) gs.length gs.length, .slice (some ⟨b2, 0, none⟩) ps.length ps.length] 85)) w2) := bl_trans C1.out c2
  clear h2 c2 kf1 km1
  obtain ⟨kf2, km2⟩ := three_land C2.out
  cases q2
  · go_wp2
    go_ret
    exact ⟨⟨false, rfl, saysL_no (fun h => by have := H2.out.2 h.2.1; cases this)⟩, bl_trans Hx0.out C2.out⟩
  have G2 : Hid (GrantsSay t gs) := H2.out.1 rfl
  clear H2
  have HA2 : Hid (LandAt w2 gs ps b1 b2) := HA0.out.keep C2.out
  go_wp2_with fail
  rw [rounds_succ]
  go_wp2_with fail
  refine (placesOk_any t gs ps b1 b2 _ HA2.out HF.out).mono ?_
  rintro e w3 ⟨⟨q3, rfl, h3⟩, c3⟩
  have H3 : Hid (q3 = true ↔ PlacesSay ps) := h3
  have C3 : Hid (Below ((((w.alloc (.cells #[.int .i64 t, .slice (some ⟨b1, 0, none⟩) gs.length gs.length, .slice (some ⟨b2, 0, none⟩) ps.length ps.length] 85))).alloc (.cells #[.func (.func 115) #[] #[], .func (.func 116) #[] #[], .func (.func 117) #[] #[], .func (.func 118) #[] #[]] 81)).alloc (.cells #[.int .i64 t, .slice (some ⟨b1, 0, none⟩) gs.length gs.length, .slice (some ⟨b2, 0, none⟩) ps.length ps.length] 85)).heap.size ((((w.alloc (.cells #[.int .i64 t, .slice (some ⟨b1, 0, none⟩) gs.length gs.length, .slice (some ⟨b2, 0, none⟩) ps.length ps.length] 85))).alloc (.cells #[.func (.func 115) #[] #[], .func (.func 116) #[] #[], .func (.func 117) #[] #[], .func (.func 118) #[] #[]] 81)).alloc (.cells #[.int .i64 t, .slice (some ⟨b1, 0, none⟩) gs.length gs.length, .slice (some ⟨b2, 0, none⟩) ps.length ps.length] 85)) w3) := bl_trans C2.out c3
  clear h3 c3 kf2 km2
  obtain ⟨kf3, km3⟩ := three_land C3.out
  cases q3
  · go_wp2
    go_ret
    exact ⟨⟨false, rfl, saysL_no (fun h => by have := H3.out.2 h.2.2.1; cases this)⟩, bl_trans Hx0.out C3.out⟩
  have G3 : Hid (PlacesSay ps) := H3.out.1 rfl
  clear H3
  have HA3 : Hid (LandAt w3 gs ps b1 b2) := HA0.out.keep C3.out
  go_wp2_with fail
  rw [rounds_succ]
  go_wp2_with fail
  refine (holdApart_any t gs ps b1 b2 _ HA3.out HF.out G3.out.1 (fun p hp => (G3.out.2.2 p hp).2.2.1)).mono ?_
  rintro e w4 ⟨⟨q4, rfl, h4⟩, c4⟩
  have H4 : Hid (q4 = true ↔ Apart ps) := h4.trans (apart_iff ps G3.out.2.2)
  have C4 : Hid (Below ((((w.alloc (.cells #[.int .i64 t, .slice (some ⟨b1, 0, none⟩) gs.length gs.length, .slice (some ⟨b2, 0, none⟩) ps.length ps.length] 85))).alloc (.cells #[.func (.func 115) #[] #[], .func (.func 116) #[] #[], .func (.func 117) #[] #[], .func (.func 118) #[] #[]] 81)).alloc (.cells #[.int .i64 t, .slice (some ⟨b1, 0, none⟩) gs.length gs.length, .slice (some ⟨b2, 0, none⟩) ps.length ps.length] 85)).heap.size ((((w.alloc (.cells #[.int .i64 t, .slice (some ⟨b1, 0, none⟩) gs.length gs.length, .slice (some ⟨b2, 0, none⟩) ps.length ps.length] 85))).alloc (.cells #[.func (.func 115) #[] #[], .func (.func 116) #[] #[], .func (.func 117) #[] #[], .func (.func 118) #[] #[]] 81)).alloc (.cells #[.int .i64 t, .slice (some ⟨b1, 0, none⟩) gs.length gs.length, .slice (some ⟨b2, 0, none⟩) ps.length ps.length] 85)) w4) := bl_trans C3.out c4
  clear h4 c4 kf3 km3
  obtain ⟨kf4, km4⟩ := three_land C4.out
  cases q4
  · go_wp2
    go_ret
    exact ⟨⟨false, rfl, saysL_no (fun h => by have := H4.out.2 h.2.2.2; cases this)⟩, bl_trans Hx0.out C4.out⟩
  have G4 : Hid (Apart ps) := H4.out.1 rfl
  clear H4
  have HA4 : Hid (LandAt w4 gs ps b1 b2) := HA0.out.keep C4.out
  go_wp2_with fail
  rw [rounds_succ]
  go_wp2
  go_ret
  exact ⟨⟨true, rfl, ⟨fun _ => ⟨G1.out, G2.out, G3.out, G4.out⟩, fun _ => rfl⟩⟩, bl_trans Hx0.out C4.out⟩
end Go.Proofs.Ytkebokkckmgloaa.P
