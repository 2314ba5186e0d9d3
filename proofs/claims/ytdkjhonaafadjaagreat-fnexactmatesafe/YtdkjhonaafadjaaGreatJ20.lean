import Derived.Test.YtdkjhonaafadjaaGreatJ07
import Derived.Sort.KeysCollected
import Derived.Test.YtdkjhonaafadjaaGreatJ16
import Derived.Test.YtdkjhonaafadjaaGreatJ19
import Derived.Deep.QuietTactic
import Derived.BigQuiet
import Derived.Test.YtdkjhonaafadjaaGreatJ04
import Derived.Test.YtdkjhonaafadjaaGreatJ13
import Derived.Test.YtdkjhonaafadjaaGreatJ08
import Derived.Laws.EntriesVeiled
/- Rows of texts. -/
namespace Go.Proofs.YtdkjhonaafadjaaGreat
open Go.RowKit
set_option linter.unusedVariables false

/-- The texts xs lie where the address says. -/
def StrAt (w : World) (a : Option Addr) (xs : List ByteArray) : Prop := xs = [] ∨ ∃ g, a = some ⟨g, 0, none⟩ ∧ g < w.heap.size ∧ ∀ k x, xs[k]? = some x → w.cell? ⟨g, k, none⟩ = some (.string x)
theorem StrAt.keep {w w' : World} {a : Option Addr} {xs : List ByteArray} (h : StrAt w a xs) (hb : Below w.heap.size w w') : StrAt w' a xs := by
  rcases h with h | ⟨g, h1, h2, h3⟩
  · exact Or.inl h
  · exact Or.inr ⟨g, h1, Nat.lt_of_lt_of_le h2 hb.size, fun k x hk => (hb.cell (p := ⟨g, k, none⟩) h2).trans (h3 k x hk)⟩
theorem str_shape {w : World} {base : Nat} {e : TypeId} {v : Value} {n : Nat} {xs : List Value} (h : w.ownsRow base e 1 v n xs) : ∃ a c, v = .slice a n c := by
  rcases h.2 with ⟨h1, h2⟩ | ⟨g, cap, cur, h1, -⟩
  · subst h2; exact ⟨none, 0, h1⟩
  · exact ⟨_, _, h1⟩
theorem str_at {w : World} {base : Nat} {e : TypeId} {a : Option Addr} {c : Nat} {xs : List ByteArray} (h : w.ownsRow base e 1 (.slice a xs.length c) xs.length (xs.map (fun x => .string x))) : StrAt w a xs := by
  obtain ⟨hl, ⟨h0, hn⟩ | ⟨g, cap, cur, h0, hb, hg, hnc, hcm, hcs, htk⟩⟩ := h
  · exact Or.inl (List.length_eq_zero_iff.1 hn)
  · cases h0
    refine Or.inr ⟨g, rfl, (Array.getElem?_eq_some_iff.1 hg).1, fun k x hk => ?_⟩
    have hf : (xs.map (fun x => Value.string x))[k]? = some (.string x) := by rw [List.getElem?_map, hk]; rfl
    rw [← htk, List.getElem?_take] at hf
    split at hf
    · rw [cell_of_row w g _ cur _ (0, 0) hg]
      simpa using hf
    · cases hf
end Go.Proofs.YtdkjhonaafadjaaGreat
/- MateSafe: the specification's side. -/
namespace Go.Proofs.YtdkjhonaafadjaaGreat
open Go.RowKit
set_option linter.unusedVariables false

theorem infoS : (Tryz.prog.info? 9).map (fun i => (i.zero, i.size, i.bytes)) = some (some (.string ⟨#[]⟩), 1, 16) := by kernel_rfl
theorem build0s (w : World) : Sem.run Tryz.prog (Instr.buildSlice 22 0 #[]) w = .ok (.slice (some ⟨w.heap.size, 0, none⟩) 0 0) (w.alloc (.cells #[] 9)) := by kernel_rfl

set_option maxRecDepth 4000 in
set_option maxHeartbeats 8000000 in
theorem specSafe (t : Int) (gs : List G.GrantD) (ps : List P.PlaceD) (rs : List Mt.MRow) (fs : List ByteArray) (b1 b2 b3 b4 B : Nat) (w : World) (hA : WorldAt w gs ps rs fs b1 b2 b3 b4 B) (hF : WorldFit gs ps rs fs) :
    Calls Tryz.prog 20 #[.agg #[.int .i64 t, .slice (some ⟨b1, 0, none⟩) gs.length gs.length, .slice (some ⟨b2, 0, none⟩) ps.length ps.length, .slice (some ⟨b3, 0, none⟩) rs.length rs.length, .slice (some ⟨b4, 0, none⟩) fs.length fs.length]] w fun e w' => (∃ q : Bool, e = .returned (.bool q) ∧ (q = true ↔ SafeOk t gs ps (rs.map Mt.MRow.m) fs)) ∧ Below w.heap.size w w' := by
  have Hb0 : Hid (Below w.heap.size w (w.alloc (.cells #[.int .i64 t, .slice (some ⟨b1, 0, none⟩) gs.length gs.length, .slice (some ⟨b2, 0, none⟩) ps.length ps.length, .slice (some ⟨b3, 0, none⟩) rs.length rs.length, .slice (some ⟨b4, 0, none⟩) fs.length fs.length] 30))) := bl_alloc (Below.refl _ _) _
  have HA : Hid (WorldAt (w.alloc (.cells #[.int .i64 t, .slice (some ⟨b1, 0, none⟩) gs.length gs.length, .slice (some ⟨b2, 0, none⟩) ps.length ps.length, .slice (some ⟨b3, 0, none⟩) rs.length rs.length, .slice (some ⟨b4, 0, none⟩) fs.length fs.length] 30)) gs ps rs fs b1 b2 b3 b4 B) := hA.keep Hb0.out
  have HF : Hid (WorldFit gs ps rs fs) := hF
  clear hA hF
  obtain ⟨iw, hiw, hz0, hz1, hz2⟩ := info_parts infoS
  have nb := build0s
  go_enter Tryz.func20, Tryz.ntmps20
  go_wp2_with fail
  refine (specWorldOk t gs ps rs fs b1 b2 b3 b4 B _ HA.out HF.out).mono ?_
  rintro e w1 ⟨⟨q, rfl, h⟩, c1⟩
  have H1 : Hid (SaysWd q t gs ps (rs.map Mt.MRow.m) fs) := h
  have C1 : Hid (Below (w.alloc (.cells #[.int .i64 t, .slice (some ⟨b1, 0, none⟩) gs.length gs.length, .slice (some ⟨b2, 0, none⟩) ps.length ps.length, .slice (some ⟨b3, 0, none⟩) rs.length rs.length, .slice (some ⟨b4, 0, none⟩) fs.length fs.length] 30)).heap.size (w.alloc (.cells #[.int .i64 t, .slice (some ⟨b1, 0, none⟩) gs.length gs.length, .slice (some ⟨b2, 0, none⟩) ps.length ps.length, .slice (some ⟨b3, 0, none⟩) rs.length rs.length, .slice (some ⟨b4, 0, none⟩) fs.length fs.length] 30)) w1) := c1
  have kb := wd_box c1
  clear h c1
  cases q
  · go_wp2_with fail
    go_ret
    exact ⟨⟨false, rfl, ⟨fun h => (by cases h), fun h => by have := H1.out.2 h.1; cases this⟩⟩, bl_trans Hb0.out C1.out⟩
  have G1 : Hid (WorldSay t gs ps (rs.map Mt.MRow.m) fs) := H1.out.1 rfl
  clear H1
  have H20 : Hid (∀ r ∈ rs, r.m.rs.length ≤ 20) := (world_runs G1.out).1
  have h4 : rs.length ≤ 4 := (world_runs G1.out).2
  have H4 : Hid (rs.length ≤ 4) := h4
  have zb1 : w.heap.size + 1 ≤ w1.heap.size := by have := C1.out.size; simpa using this
  go_wp2_with fail
  clear kb nb
  go_loopw [3, 4] (fun v i wx => ∃ (k : Nat), k ≤ rs.length ∧ i = .int .i64 k ∧ wx.ownsRow (w.heap.size + 1) 9 1 v (heldOf (living (rs.take k))).length ((heldOf (living (rs.take k))).map (fun x => .string x)) ∧ Hid (PwN (living (rs.take k))) ∧ Hid (Below (w.alloc (.cells #[.int .i64 t, .slice (some ⟨b1, 0, none⟩) gs.length gs.length, .slice (some ⟨b2, 0, none⟩) ps.length ps.length, .slice (some ⟨b3, 0, none⟩) rs.length rs.length, .slice (some ⟨b4, 0, none⟩) fs.length fs.length] 30)).heap.size (w.alloc (.cells #[.int .i64 t, .slice (some ⟨b1, 0, none⟩) gs.length gs.length, .slice (some ⟨b2, 0, none⟩) ps.length ps.length, .slice (some ⟨b3, 0, none⟩) rs.length rs.length, .slice (some ⟨b4, 0, none⟩) fs.length fs.length] 30)) wx)) (fun _ i _ => rs.length - (intOf i).toNat)
  case atStart => exact ⟨0, Nat.zero_le _, rfl, World.ownsRow_made _ #[] 0 zb1 (Nat.zero_le _) rfl, List.Pairwise.nil, bl_alloc C1.out _⟩
  case round =>
    obtain ⟨k, hk, rfl, hown, HP, HB⟩ := hrel
    obtain ⟨vo, rfl⟩ : ∃ v0 : Value, v0 = u3 := ⟨_, rfl⟩
    have kb := wd_box HB.out
    by_cases hlt : k < rs.length
    rotate_left
    · have e : k = rs.length := by omega
      subst e
      have HPs : Hid (SafeSay (rs.map Mt.MRow.m)) := by
        have := HP.out
        rw [List.take_of_length_le (Nat.le_refl _)] at this
        unfold SafeSay
        rw [living_map]
        exact this
      clear hown
      go_wp2
      go_ret
      exact ⟨⟨true, rfl, ⟨fun _ => ⟨G1.out, HPs.out⟩, fun _ => rfl⟩⟩, bl_trans Hb0.out HB.out⟩
    obtain ⟨r, hr⟩ : ∃ r, rs[k]? = some r := ⟨rs[k], List.getElem?_eq_getElem hlt⟩
    have HM : Hid (MatesOwn wr rs b3 B) := HA.out.m.keep HB.out
    obtain ⟨g1, g2, g3, g4, hbp⟩ := HM.out.k r (List.mem_of_getElem? hr)
    have HLr : Hid (Lists wr r.m g1 g2 g3 g4) := hbp.l
    have hl20 : r.m.rs.length ≤ 20 := H20.out r (List.mem_of_getElem? hr)
    have Hr : Hid (rs[k]? = some r) := hr
    have x1 := hbp.e1; have x2 := hbp.e2; have x3 := hbp.e3; have x4 := hbp.e4
    have t1 := hbp.f1; have t2 := hbp.f2; have t3 := hbp.f3; have t4 := hbp.f4
    clear hr hbp
    obtain ⟨m, pa1, pc1, pa2, pc2, pa3, pc3, pa4, pc4⟩ := r
    simp only at x1 x2 x3 x4 t1 t2 t3 t4
    subst x1 x2 x3 x4 t1 t2 t3 t4
    have hl20' : m.rs.length ≤ 20 := hl20
    clear hl20
    obtain ⟨c0, c1, c2, c3, c4, c5, c6, c7, c8⟩ := rowM HM.out.r Hr.out
    have i0 : (0 : Int) ≤ (k : Int) := by omega
    have i1 : (k : Int) < (rs.length : Int) := by omega
    have HL0 : Hid (Lists (w.alloc (.cells #[.int .i64 t, .slice (some ⟨b1, 0, none⟩) gs.length gs.length, .slice (some ⟨b2, 0, none⟩) ps.length ps.length, .slice (some ⟨b3, 0, none⟩) rs.length rs.length, .slice (some ⟨b4, 0, none⟩) fs.length fs.length] 30)) m g1 g2 g3 g4) := by
      obtain ⟨x1, x2, x3, x4, hx⟩ := HA.out.m.k _ (List.mem_of_getElem? Hr.out)
      have e1 := hx.e1; have e2 := hx.e2; have e3 := hx.e3; have e4 := hx.e4
      simp only [Option.some.injEq, Addr.mk.injEq, and_true] at e1 e2 e3 e4
      subst e1 e2 e3 e4
      exact hx.l
    have HO : Hid (wr.ownsRow (w.heap.size + 1) 9 1 vo (heldOf (living (rs.take k))).length ((heldOf (living (rs.take k))).map (fun x => .string x))) := hown
    clear hown
    go_wp2_with fail
    obtain ⟨wo, rfl⟩ : ∃ wo : World, wo = wr := ⟨_, rfl⟩
    clear kb c0 c1 c2 c3 c4 c5 c6 c7 c8 HLr HM
    go_loopw [3, 5] (fun v i wx => ∃ (j : Nat), j ≤ m.rs.length ∧ i = .int .i64 j ∧ wx.ownsRow (w.heap.size + 1) 9 1 v (heldOf (livK rs m.rs k j)).length ((heldOf (livK rs m.rs k j)).map (fun x => .string x)) ∧ Hid (PwN (livK rs m.rs k j)) ∧ Hid (Below (w.alloc (.cells #[.int .i64 t, .slice (some ⟨b1, 0, none⟩) gs.length gs.length, .slice (some ⟨b2, 0, none⟩) ps.length ps.length, .slice (some ⟨b3, 0, none⟩) rs.length rs.length, .slice (some ⟨b4, 0, none⟩) fs.length fs.length] 30)).heap.size (w.alloc (.cells #[.int .i64 t, .slice (some ⟨b1, 0, none⟩) gs.length gs.length, .slice (some ⟨b2, 0, none⟩) ps.length ps.length, .slice (some ⟨b3, 0, none⟩) rs.length rs.length, .slice (some ⟨b4, 0, none⟩) fs.length fs.length] 30)) wx)) (fun _ i _ => m.rs.length - (intOf i).toNat)
    case atStart => exact ⟨0, Nat.zero_le _, rfl, by rw [livK_zero]; exact HO.out, by rw [livK_zero]; exact HP.out, HB.out⟩
    case round =>
      clear HO HP HB
      obtain ⟨j, hj, rfl, hown, HP, HB⟩ := hrel
      have zr : w.heap.size + 1 ≤ wr.heap.size := by have := HB.out.size; simpa using this
      have HM : Hid (MatesOwn wr rs b3 B) := HA.out.m.keep HB.out
      have kb := wd_box HB.out
      obtain ⟨c0, c1, c2, c3, c4, c5, c6, c7, c8⟩ := rowM HM.out.r Hr.out
      have HLr : Hid (Lists wr m g1 g2 g3 g4) := HL0.out.keep HB.out
      by_cases hjl : j < m.rs.length
      rotate_left
      · have e : j = m.rs.length := by omega
        subst e
        have HO : Hid (wr.ownsRow (w.heap.size + 1) 9 1 u3 (heldOf (livK rs m.rs k m.rs.length)).length ((heldOf (livK rs m.rs k m.rs.length)).map (fun x => .string x))) := hown
        clear hown
        go_wp2
        exact ⟨⟨k + 1, by omega, by go_num, by rw [living_step Hr.out]; exact HO.out, by rw [living_step Hr.out]; exact HP.out, HB.out⟩, by simp [intOf]; omega⟩
      obtain ⟨y, hy⟩ : ∃ y, m.rs[j]? = some y := ⟨m.rs[j], List.getElem?_eq_getElem hjl⟩
      have Hy : Hid (m.rs[j]? = some y) := hy
      obtain ⟨d0, d1, d2, d3, d4, d5, d6, d7, d8, d9, d10⟩ := HLr.out.r2.at hy
      simp only [Nat.zero_add] at d0 d1 d2 d3 d4 d5 d6 d7 d8 d9 d10
      have hg2 : g2 < wr.heap.size := HLr.out.l2
      have j0 : (0 : Int) ≤ (j : Int) := by omega
      have j1 : (j : Int) < (m.rs.length : Int) := by omega
      obtain ⟨xs, hxs⟩ : ∃ xs, xs = heldOf (livK rs m.rs k j) := ⟨_, rfl⟩
      rw [← hxs] at hown
      have Hxs : Hid (xs = heldOf (livK rs m.rs k j)) := hxs
      have hxl : xs.length ≤ 100 := by rw [hxs]; exact Nat.le_trans (heldOf_len _) (livK_len H20.out H4.out hl20')
      obtain ⟨a0, p0, hs0⟩ := str_shape hown
      subst hs0
      have HO : Hid (wr.ownsRow (w.heap.size + 1) 9 1 (.slice a0 xs.length p0) (xs).length ((xs).map (fun x => .string x))) := hown
      clear hy hown hxs
      cases hal : aliveB y.a
      · go_wp2_with (go_at_call 43; refine (specAlive_x y.c y.h y.v y.p y.s y.d y.g y.a y.b y.i y.u _).mono ?_; rintro e w' ⟨rfl, rfl⟩)
        refine ⟨⟨j + 1, by omega, by go_num, ?_, by rw [livK_no Hy.out hal]; exact HP.out, by repeat (first | exact HB.out | refine bl_alloc ?_ _)⟩, by simp [intOf]; omega⟩
        rw [livK_no Hy.out hal, ← Hxs.out]
        exact owns_below HO.out (by repeat (first | exact Below.refl _ _ | refine bl_alloc ?_ _))
      cases hh : y.h.toList.isEmpty
      rotate_left
      · go_wp2_with (go_at_call 43; refine (specAlive_x y.c y.h y.v y.p y.s y.d y.g y.a y.b y.i y.u _).mono ?_; rintro e w' ⟨rfl, rfl⟩)
        refine ⟨⟨j + 1, by omega, by go_num, ?_, by rw [livK_yes Hy.out hal]; exact pw_snoc_empty HP.out hh, by repeat (first | exact HB.out | refine bl_alloc ?_ _)⟩, by simp [intOf]; omega⟩
        rw [livK_yes Hy.out hal, heldOf_no hh, ← Hxs.out]
        exact owns_below HO.out (by repeat (first | exact Below.refl _ _ | refine bl_alloc ?_ _))
      go_wp2_with (go_at_call 43; refine (specAlive_x y.c y.h y.v y.p y.s y.d y.g y.a y.b y.i y.u _).mono ?_; rintro e w' ⟨rfl, rfl⟩)
      obtain ⟨wm, rfl⟩ : ∃ wo : World, wo = wr := ⟨_, rfl⟩
      have SA : Hid (StrAt wm a0 xs) := str_at HO.out
      clear kb c0 c1 c2 c3 c4 c5 c6 c7 c8 d0 d1 d2 d3 d4 d5 d6 d7 d8 d9 d10 HLr HM
      go_loopw [7] (fun i wx => ∃ (q : Nat), q ≤ xs.length ∧ i = .int .i64 q ∧ Hid (∀ (i : Nat) x, i < q → xs[i]? = some x → x.toList ≠ y.h.toList) ∧ Hid (Below ((wm.alloc (.cells #[.string y.c, .int .i64 y.v, .string y.h, .int .i64 y.p, .int .i64 y.s, .int .i64 y.d, .int .i64 y.g, .int .i64 y.a, .int .i64 y.b, .int .i64 y.i, .int .i64 y.u] 70)).alloc (.cells #[.string y.c, .int .i64 y.v, .string y.h, .int .i64 y.p, .int .i64 y.s, .int .i64 y.d, .int .i64 y.g, .int .i64 y.a, .int .i64 y.b, .int .i64 y.i, .int .i64 y.u] 70)).heap.size ((wm.alloc (.cells #[.string y.c, .int .i64 y.v, .string y.h, .int .i64 y.p, .int .i64 y.s, .int .i64 y.d, .int .i64 y.g, .int .i64 y.a, .int .i64 y.b, .int .i64 y.i, .int .i64 y.u] 70)).alloc (.cells #[.string y.c, .int .i64 y.v, .string y.h, .int .i64 y.p, .int .i64 y.s, .int .i64 y.d, .int .i64 y.g, .int .i64 y.a, .int .i64 y.b, .int .i64 y.i, .int .i64 y.u] 70)) wx)) (fun i _ => xs.length - (intOf i).toNat)
      case atStart => exact ⟨0, Nat.zero_le _, rfl, (fun i x h => by omega), Below.refl _ _⟩
      case round =>
        obtain ⟨q, hq, rfl, HN, HW⟩ := hrel
        have kr : wr.cell? ⟨wm.heap.size, 2, none⟩ = some (.string y.h) := by
          rw [HW.out.cell (p := ⟨wm.heap.size, 2, none⟩) (by simp; omega)]
          simp [go_sem]
        by_cases hql : q < xs.length
        · obtain ⟨x, hx⟩ : ∃ x, xs[q]? = some x := ⟨xs[q], List.getElem?_eq_getElem hql⟩
          have Hx : Hid (xs[q]? = some x) := hx
          rcases (SA.out.keep (bl_trans (by repeat (first | exact Below.refl _ _ | refine bl_alloc ?_ _)) HW.out)) with hnil | ⟨g, hg, hgz, hR⟩
          · rw [hnil] at hql; simp at hql
          subst hg
          have e0 := hR q x hx
          have q0 : (0 : Int) ≤ (q : Int) := by omega
          have q1 : (q : Int) < (xs.length : Int) := by omega
          clear hx hR
          cases heq : (x.toList == y.h.toList)
          · go_wp2_with fail
            go_quiet (fail)
            go_wp2
            refine ⟨⟨q + 1, by omega, by go_num, (fun i z hi hz => ?_), Tx.bl_dnT HW.out⟩, by simp [intOf]; omega⟩
            by_cases e : i = q
            · subst e
              have h1 := Hx.out
              rw [h1] at hz
              cases hz
              intro h2
              rw [h2] at heq
              simp at heq
            · exact HN.out i z (by omega) hz
          · go_wp2_with fail
            go_quiet (fail)
            go_wp2
            go_ret
            have hmem : x ∈ heldOf (livK rs m.rs k j) := by rw [← Hxs.out]; exact List.mem_of_getElem? Hx.out
            exact ⟨⟨false, rfl, ⟨fun h => (by cases h), fun h => (safe_no Hr.out Hy.out hal hmem (by simpa using heq) h.2).elim⟩⟩, bl_trans Hb0.out (bl_trans HB.out (bl_trans (bl_alloc (bl_alloc (Below.refl _ _) _) _) (Tx.bl_dnT HW.out)))⟩
        · have zq : w.heap.size + 1 ≤ wr.heap.size := by have := HW.out.size; simp at this; omega
          have BW : Hid (Below wm.heap.size wm wr) := bl_trans (bl_alloc (bl_alloc (Below.refl _ _) _) _) HW.out
          go_wp2_with (at_builtin; refine wpList_append_own _ rfl _ _ 22 rfl (w.heap.size + 1) 9 iw _ 1 16 Tryz.underlying22 hiw hz0 hz1 hz2 rfl (by decide) _ xs.length _ rfl (by exact owns_below (owns_below HO.out BW.out) (bl_alloc (Below.refl _ _) _)) ⟨_, 0, none⟩ 1 1 [.string y.h] rfl rfl (new_cells _ _ (by simp) _ _ _ rfl) (by simp [Value.oneCell']) (by unfold maxLen; omega) (by omega) (by simp; omega) ?_; intro v' w3 ho hg hn)
          refine ⟨⟨j + 1, by omega, by go_num, ?_, ?_, Below.grown (bl_alloc (bl_trans HB.out BW.out) _) hg (by simp; omega) (fun q hq => by have := owns_ge HO.out q hq; simpa using this)⟩, by simp [intOf]; omega⟩
          · rw [livK_yes Hy.out hal, heldOf_yes hh, ← Hxs.out, List.length_append, List.map_append]
            exact ho
          · rw [livK_yes Hy.out hal]
            refine pw_snoc HP.out (fun x hx => ?_)
            rw [← Hxs.out] at hx
            obtain ⟨i, hi⟩ := List.getElem?_of_mem hx
            have hil : i < xs.length := (List.getElem?_eq_some_iff.1 hi).1
            exact HN.out i x (by omega) hi
end Go.Proofs.YtdkjhonaafadjaaGreat
/- Books that are ok: the program's look at time and grants. -/
namespace Go.Proofs.YtdkjhonaafadjaaGreat.P
open Go.RowKit
set_option linter.unusedVariables false

theorem timeOk_any (t : Int) (a1 a2 : Option Addr) (n1 c1 n2 c2 : Nat) (w : World) :
    Calls Tryz.prog 104 #[.agg #[.int .i64 t, .slice a1 n1 c1, .slice a2 n2 c2]] w fun e w' => e = .returned (.bool (timeB t)) ∧ Below w.heap.size w w' := by
  cases q1 : inB t 0 2000000
  · go_enter Tryz.func104, Tryz.ntmps104
    go_wp2_with (go_at_call 81; refine (within_any _ _ _ _).mono ?_; rintro e w' ⟨rfl, rfl⟩)
    go_ret
    exact ⟨ret_b (by simp [timeB, q1]), bl_alloc (Below.refl _ _) _⟩
  · have h0 : 0 ≤ t := by simp [inB] at q1; omega
    by_cases q2 : t % 2 = 0
    · go_enter Tryz.func104, Tryz.ntmps104
      go_wp2_with (go_at_call 81; refine (within_any _ _ _ _).mono ?_; rintro e w' ⟨rfl, rfl⟩)
      go_ret
      exact ⟨ret_b (by simp [timeB, q1, q2]), bl_alloc (Below.refl _ _) _⟩
    · go_enter Tryz.func104, Tryz.ntmps104
      go_wp2_with (go_at_call 81; refine (within_any _ _ _ _).mono ?_; rintro e w' ⟨rfl, rfl⟩)
      go_ret
      exact ⟨ret_b (by simp [timeB, q1, q2]), bl_alloc (Below.refl _ _) _⟩

set_option maxRecDepth 4000 in
set_option maxHeartbeats 1000000 in
theorem grantOk_any (r : G.GrantD) (t : Int) (w : World) (hf : r.fits) (h0 : 0 ≤ t) (h1 : t ≤ 2000000) :
    Calls Tryz.prog 129 #[.agg #[.string r.h, .string r.b, .string r.c, .int .i64 r.t, .int .i64 r.u], .int .i64 t] w fun e w' => e = .returned (.bool (grantB t r)) ∧ Below w.heap.size w w' := by
  cases q1 : holdB r.h
  · skip
    go_enter Tryz.func129, Tryz.ntmps129
    go_wp2_with (first | (go_at_call 144; refine (implHold_any r.h _ hf.1).mono ?_; rintro e w' ⟨rfl, rfl⟩) | (go_at_call 133; refine (implName_any _ _ (by first | exact hf.2.1 | exact hf.2.2)).mono ?_; rintro e w' ⟨rfl, rfl⟩) | (go_at_call 81; refine (within_any _ _ _ _).mono ?_; rintro e w' ⟨rfl, rfl⟩))
    go_ret
    exact ⟨ret_b (by simp [grantB, *]), bl_alloc (Below.refl _ _) _⟩
  cases q2 : nameB r.b
  · skip
    go_enter Tryz.func129, Tryz.ntmps129
    go_wp2_with (first | (go_at_call 144; refine (implHold_any r.h _ hf.1).mono ?_; rintro e w' ⟨rfl, rfl⟩) | (go_at_call 133; refine (implName_any _ _ (by first | exact hf.2.1 | exact hf.2.2)).mono ?_; rintro e w' ⟨rfl, rfl⟩) | (go_at_call 81; refine (within_any _ _ _ _).mono ?_; rintro e w' ⟨rfl, rfl⟩))
    go_ret
    exact ⟨ret_b (by simp [grantB, *]), bl_alloc (Below.refl _ _) _⟩
  cases q3 : nameB r.c
  · skip
    go_enter Tryz.func129, Tryz.ntmps129
    go_wp2_with (first | (go_at_call 144; refine (implHold_any r.h _ hf.1).mono ?_; rintro e w' ⟨rfl, rfl⟩) | (go_at_call 133; refine (implName_any _ _ (by first | exact hf.2.1 | exact hf.2.2)).mono ?_; rintro e w' ⟨rfl, rfl⟩) | (go_at_call 81; refine (within_any _ _ _ _).mono ?_; rintro e w' ⟨rfl, rfl⟩))
    go_ret
    exact ⟨ret_b (by simp [grantB, *]), bl_alloc (Below.refl _ _) _⟩
  cases q4 : inB r.t 0 1000000
  · skip
    go_enter Tryz.func129, Tryz.ntmps129
    go_wp2_with (first | (go_at_call 144; refine (implHold_any r.h _ hf.1).mono ?_; rintro e w' ⟨rfl, rfl⟩) | (go_at_call 133; refine (implName_any _ _ (by first | exact hf.2.1 | exact hf.2.2)).mono ?_; rintro e w' ⟨rfl, rfl⟩) | (go_at_call 81; refine (within_any _ _ _ _).mono ?_; rintro e w' ⟨rfl, rfl⟩))
    go_ret
    exact ⟨ret_b (by simp [grantB, *]), bl_alloc (Below.refl _ _) _⟩
  go_enter Tryz.func129, Tryz.ntmps129
  go_wp2_with (first | (go_at_call 144; refine (implHold_any r.h _ hf.1).mono ?_; rintro e w' ⟨rfl, rfl⟩) | (go_at_call 133; refine (implName_any _ _ (by first | exact hf.2.1 | exact hf.2.2)).mono ?_; rintro e w' ⟨rfl, rfl⟩) | (go_at_call 81; refine (within_any _ _ _ _).mono ?_; rintro e w' ⟨rfl, rfl⟩))
  go_ret
  exact ⟨ret_b (by simp [grantB, *]), bl_alloc (Below.refl _ _) _⟩
theorem closGrant (r : G.GrantD) (t : Int) (bk : Nat) (w : World) (hc : w.cell? ⟨bk, 0, none⟩ = some (.int .i64 t)) (lk : bk < w.heap.size) (hf : r.fits) (h0 : 0 ≤ t) (h1 : t ≤ 2000000) :
    Calls Tryz.prog 128 #[.agg #[.string r.h, .string r.b, .string r.c, .int .i64 r.t, .int .i64 r.u], .pointer (some ⟨bk, 0, none⟩)] w fun e w' => e = .returned (.bool (grantB t r)) ∧ Below w.heap.size w w' := by
  go_enter Tryz.func128, Tryz.ntmps128
  go_wp2_with (go_at_call 129; refine (grantOk_any r t _ hf h0 h1).mono ?_; rintro e w' ⟨rfl, hx⟩)
  go_ret
  exact ⟨rfl, bl_trans (bl_alloc (Below.refl _ _) _) hx⟩
end Go.Proofs.YtdkjhonaafadjaaGreat.P
/- Books that are ok: the program's look at grants and places. -/
namespace Go.Proofs.YtdkjhonaafadjaaGreat.P
open Go.RowKit
set_option linter.unusedVariables false

def SaysG (q : Bool) (t : Int) (gs : List G.GrantD) : Prop := q = true ↔ GrantsSay t gs
def SaysP (q : Bool) (ps : List PlaceD) : Prop := q = true ↔ PlacesSay ps
def SaysF (q : Bool) (b : ByteArray) (s : Int) (ws : List W.WantD) : Prop := q = true ↔ nameB b = true ∧ (inB s 1 1000000 = true ∧ (ws.length ≤ 10 ∧ W.AllW ws ws.length))
theorem ml_box {w w' : World} {t : Int} {gs : List G.GrantD} {ps : List PlaceD} {b1 b2 : Nat} (hb : Below (w.alloc (.cells #[.int .i64 t, .slice (some ⟨b1, 0, none⟩) gs.length gs.length, .slice (some ⟨b2, 0, none⟩) ps.length ps.length] 27)).heap.size (w.alloc (.cells #[.int .i64 t, .slice (some ⟨b1, 0, none⟩) gs.length gs.length, .slice (some ⟨b2, 0, none⟩) ps.length ps.length] 27)) w') : (∀ k, w'.cell? ⟨w.heap.size, k, none⟩ = (#[.int .i64 t, .slice (some ⟨b1, 0, none⟩) gs.length gs.length, .slice (some ⟨b2, 0, none⟩) ps.length ps.length] : Array Value)[k]?) ∧ w.heap.size < w'.heap.size := by
  constructor
  · intro k
    rw [hb.cell (p := ⟨w.heap.size, k, none⟩) (by simp)]
    simp [go_sem]
  · have := hb.size; simp at this; omega

set_option maxRecDepth 4000 in
set_option maxHeartbeats 1000000 in
theorem grantsOk_any (t : Int) (gs : List G.GrantD) (ps : List PlaceD) (b1 b2 : Nat) (w : World) (hA : LandAt w gs ps b1 b2) (hF : Fit gs ps) (h0 : 0 ≤ t) (h1 : t ≤ 2000000) :
    Calls Tryz.prog 105 #[.agg #[.int .i64 t, .slice (some ⟨b1, 0, none⟩) gs.length gs.length, .slice (some ⟨b2, 0, none⟩) ps.length ps.length]] w fun e w' => (∃ q : Bool, e = .returned (.bool q) ∧ SaysG q t gs) ∧ Below w.heap.size w w' := by
  have HA : Hid (LandAt w gs ps b1 b2) := hA
  have HF : Hid (Fit gs ps) := hF
  have hgl := hF.gl
  clear hA hF
  by_cases h40 : gs.length ≤ 40
  · have hi40 : (gs.length : Int) ≤ 40 := by omega
    go_enter Tryz.func105, Tryz.ntmps105
    go_wp2_with fail
    have hb0 : Below w.heap.size w (w.alloc (.cells #[.int .i64 t, .slice (some ⟨b1, 0, none⟩) gs.length gs.length, .slice (some ⟨b2, 0, none⟩) ps.length ps.length] 27)) := bl_alloc (Below.refl _ _) _
    refine (G.ascends b1 0 gs.length gs _ (HA.out.keep hb0).g (HA.out.keep hb0).g1 hgl).mono ?_
    rintro e w1 ⟨⟨q1, rfl, k1⟩, c1⟩
    have B1 : Hid (Below w.heap.size w w1) := bl_trans hb0 c1
    have H0 : Hid _ := k1
    obtain ⟨kb, kz⟩ := ml_box c1
    clear k1 hb0 c1
    cases q1
    · go_wp2
      go_ret
      exact ⟨⟨false, rfl, ⟨fun h => (by cases h), fun h => by have := H0.out.2 h.2.1; cases this⟩⟩, B1.out⟩
    · have H1 : Hid _ := H0.out.1 rfl
      have Hck : Hid (w1.cell? ⟨w.heap.size, 0, none⟩ = some (.int .i64 t)) := kb 0
      clear H0
      go_wp2_with fail
      refine (G.allOk w.heap.size (grantB t) b1 0 gs.length gs w1 (HA.out.keep B1.out).g (HA.out.keep B1.out).g1 hgl (fun r hr x hx => closGrant r t w.heap.size x ((hx.cell (p := ⟨w.heap.size, 0, none⟩) kz).trans Hck.out) (Nat.lt_of_lt_of_le kz hx.size) (HF.out.g r hr) h0 h1)).mono ?_
      rintro e w2 ⟨⟨q2, rfl, k2⟩, c2⟩
      have B2 : Hid _ := bl_trans B1.out c2
      have H2 : Hid _ := k2
      clear c2 k2 kb
      go_wp2
      go_ret
      exact ⟨⟨q2, rfl, ⟨fun h => ⟨h40, H1.out, H2.out.1 h⟩, fun h => H2.out.2 h.2.2⟩⟩, B2.out⟩
  · have hi40 : (40 : Int) < (gs.length : Int) := by omega
    have H40 : Hid _ := h40
    clear h40
    go_enter Tryz.func105, Tryz.ntmps105
    go_wp2
    go_ret
    first
    | exact ⟨Or.inl ⟨rfl, ⟨fun h => (by cases h), fun h => absurd h.1 H40.out⟩⟩, bl_alloc (Below.refl _ _) _⟩
    | exact ⟨⟨false, rfl, ⟨fun h => (by cases h), fun h => absurd h.1 H40.out⟩⟩, bl_alloc (Below.refl _ _) _⟩

set_option maxRecDepth 4000 in
set_option maxHeartbeats 1000000 in
theorem placeOk_q (b : ByteArray) (s : Int) (g : Nat) (ws : List W.WantD) (w : World) (hb : b.size ≤ maxLen) (hg : g < w.heap.size) (hR : W.RowsAt w g 0 ws) (hfit : ∀ r ∈ ws, r.fits) (hl : ws.length ≤ 1048576) :
    Calls Tryz.prog 132 #[.agg #[.string b, .int .i64 s, .slice (some ⟨g, 0, none⟩) ws.length ws.length]] w fun e w' => (∃ q : Bool, e = .returned (.bool q) ∧ SaysF q b s ws) ∧ Below w.heap.size w w' := by
  have HR : Hid (W.RowsAt w g 0 ws) := hR
  have HF : Hid _ := hfit
  clear hR hfit
  have hb0 : Hid (Below w.heap.size w (w.alloc (.cells #[.string b, .int .i64 s, .slice (some ⟨g, 0, none⟩) ws.length ws.length] 75))) := bl_alloc (Below.refl _ _) _
  cases q1 : nameB b
  · go_enter Tryz.func132, Tryz.ntmps132
    go_wp2_with (first | (go_at_call 133; refine (implName_any _ _ hb).mono ?_; rintro e w' ⟨rfl, rfl⟩) | (go_at_call 81; refine (within_any _ _ _ _).mono ?_; rintro e w' ⟨rfl, rfl⟩))
    go_ret
    exact ⟨⟨false, rfl, ⟨fun h => (by cases h), fun h => by have := h.1; rw [q1] at this; cases this⟩⟩, hb0.out⟩
  cases q2 : inB s 1 1000000
  · go_enter Tryz.func132, Tryz.ntmps132
    go_wp2_with (first | (go_at_call 133; refine (implName_any _ _ hb).mono ?_; rintro e w' ⟨rfl, rfl⟩) | (go_at_call 81; refine (within_any _ _ _ _).mono ?_; rintro e w' ⟨rfl, rfl⟩))
    go_ret
    exact ⟨⟨false, rfl, ⟨fun h => (by cases h), fun h => by have := h.2.1; rw [q2] at this; cases this⟩⟩, hb0.out⟩
  · go_enter Tryz.func132, Tryz.ntmps132
    go_wp2_with (first | (go_at_call 133; refine (implName_any _ _ hb).mono ?_; rintro e w' ⟨rfl, rfl⟩) | (go_at_call 81; refine (within_any _ _ _ _).mono ?_; rintro e w' ⟨rfl, rfl⟩))
    refine (W.implWantsOk g 0 ws _ (HR.out.keep hg hb0.out) (Nat.lt_of_lt_of_le hg hb0.out.size) HF.out hl).mono ?_
    rintro e w1 ⟨⟨q, rfl, k⟩, c⟩
    have K : Hid _ := k
    have B1 : Hid _ := bl_trans hb0.out c
    clear k c
    go_wp2
    go_ret
    exact ⟨⟨q, rfl, ⟨fun h => ⟨q1, q2, K.out.1 h⟩, fun h => K.out.2 h.2.2⟩⟩, B1.out⟩
open Classical in
noncomputable def fineB (r : PlaceD) : Bool := decide r.fine
theorem fineB_iff (r : PlaceD) : fineB r = true ↔ r.fine := by
  classical
  unfold fineB
  exact decide_eq_true_iff
theorem fineB_of {r : PlaceD} {q : Bool} (k : q = true ↔ r.fine) : q = fineB r := by
  have h := k.trans (fineB_iff r).symm
  cases q <;> cases hf : fineB r <;> simp_all
theorem placeOk_any (r : PlaceD) (w : World) (hk : r.blk 0 w) (hb : r.b.size ≤ maxLen) (hfit : ∀ q ∈ r.ws, q.fits) (hl : r.ws.length ≤ 1048576) :
    Calls Tryz.prog 132 #[.agg #[.string r.b, .int .i64 r.s, .slice r.a r.ws.length r.c]] w fun e w' => e = .returned (.bool (fineB r)) ∧ Below w.heap.size w w' := by
  obtain ⟨b, s, a, c, ws⟩ := r
  obtain ⟨g, e1, e2, -, h3, h4⟩ := hk
  simp only at e1 e2 hb hfit hl h4
  subst e1 e2
  refine (placeOk_q b s g ws w hb h3 h4 hfit hl).mono ?_
  rintro e w' ⟨⟨q, rfl, k⟩, c⟩
  refine ⟨?_, c⟩
  have : q = fineB ⟨b, s, some ⟨g, 0, none⟩, ws.length, ws⟩ := fineB_of k
  rw [this]

set_option maxRecDepth 4000 in
set_option maxHeartbeats 1000000 in
theorem placesOk_any (t : Int) (gs : List G.GrantD) (ps : List PlaceD) (b1 b2 : Nat) (w : World) (hA : LandAt w gs ps b1 b2) (hF : Fit gs ps) :
    Calls Tryz.prog 106 #[.agg #[.int .i64 t, .slice (some ⟨b1, 0, none⟩) gs.length gs.length, .slice (some ⟨b2, 0, none⟩) ps.length ps.length]] w fun e w' => (∃ q : Bool, e = .returned (.bool q) ∧ SaysP q ps) ∧ Below w.heap.size w w' := by
  have HA : Hid (LandAt w gs ps b1 b2) := hA
  have HF : Hid (Fit gs ps) := hF
  have hpl := hF.pl
  clear hA hF
  by_cases h4 : ps.length ≤ 4
  · have hi4 : (ps.length : Int) ≤ 4 := by omega
    go_enter Tryz.func106, Tryz.ntmps106
    go_wp2_with fail
    have hb0 : Below w.heap.size w (w.alloc (.cells #[.int .i64 t, .slice (some ⟨b1, 0, none⟩) gs.length gs.length, .slice (some ⟨b2, 0, none⟩) ps.length ps.length] 27)) := bl_alloc (Below.refl _ _) _
    refine (ascends b2 0 ps.length ps _ (HA.out.keep hb0).p (HA.out.keep hb0).p1 hpl).mono ?_
    rintro e w1 ⟨⟨q1, rfl, k1⟩, c1⟩
    have B1 : Hid (Below w.heap.size w w1) := bl_trans hb0 c1
    have H0 : Hid _ := k1
    obtain ⟨kb, kz⟩ := ml_box c1
    clear k1 hb0 c1
    cases q1
    · go_wp2
      go_ret
      exact ⟨⟨false, rfl, ⟨fun h => (by cases h), fun h => by have := H0.out.2 h.2.1; cases this⟩⟩, B1.out⟩
    · have H1 : Hid _ := H0.out.1 rfl
      clear H0
      go_wp2_with fail
      refine (allOk fineB b2 0 ps.length ps w1 (HA.out.keep B1.out).p (HA.out.keep B1.out).p1 hpl (fun r hr x hx => placeOk_any r x (((HA.out.keep B1.out).k r hr).keep hx) (HF.out.p r hr).1 (HF.out.p r hr).2 (HF.out.ln r hr))).mono ?_
      rintro e w2 ⟨⟨q2, rfl, k2⟩, c2⟩
      have B2 : Hid _ := bl_trans B1.out c2
      have H2 : Hid _ := k2
      clear c2 k2 kb
      go_wp2
      go_ret
      exact ⟨⟨q2, rfl, ⟨fun h => ⟨h4, H1.out, fun p hp => (fineB_iff p).1 (H2.out.1 h p hp)⟩, fun h => H2.out.2 (fun p hp => (fineB_iff p).2 (h.2.2 p hp))⟩⟩, B2.out⟩
  · have hi4 : (4 : Int) < (ps.length : Int) := by omega
    have H4 : Hid _ := h4
    clear h4
    go_enter Tryz.func106, Tryz.ntmps106
    go_wp2
    go_ret
    first
    | exact ⟨Or.inl ⟨rfl, ⟨fun h => (by cases h), fun h => absurd h.1 H4.out⟩⟩, bl_alloc (Below.refl _ _) _⟩
    | exact ⟨⟨false, rfl, ⟨fun h => (by cases h), fun h => absurd h.1 H4.out⟩⟩, bl_alloc (Below.refl _ _) _⟩
end Go.Proofs.YtdkjhonaafadjaaGreat.P
/- A list's cells, one behind the other. -/
namespace Go.Proofs.YtdkjhonaafadjaaGreat.W
open Go.RowKit
set_option linter.unusedVariables false

theorem flat_cells {w : World} {g : Nat} {l : List WantD} (h : RowsAt w g 0 l) : ∀ j u, (flatR l)[j]? = some u → w.cell? ((⟨g, 0, none⟩ : Addr).add j) = some u := by
  intro j u hj
  have hlt : j < l.length * 7 := by rw [← flatR_len]; exact (List.getElem?_eq_some_iff.1 hj).1
  have hk : j / 7 < l.length := by omega
  have hr : j % 7 < 7 := Nat.mod_lt _ (by decide)
  have e : j / 7 * 7 + j % 7 = j := by omega
  have h1 := flatR_at l (j / 7) l[j / 7] (List.getElem?_eq_getElem hk) (j % 7) hr
  rw [e, hj] at h1
  have h2 := h (j / 7) l[j / 7] (List.getElem?_eq_getElem hk) (j % 7) u h1.symm
  rw [Addr.add_mid]
  rw [show 0 + j / 7 * 7 + j % 7 = 0 + j from by omega] at h2
  exact h2
end Go.Proofs.YtdkjhonaafadjaaGreat.W
/- Books that are ok: holds at all places; the program's side. -/
namespace Go.Proofs.YtdkjhonaafadjaaGreat.W
open Go.RowKit
set_option linter.unusedVariables false

set_option maxHeartbeats 1000000 in
theorem holdsDiffer2 (a : Option Addr) (cap : Nat) (ws : List WantD) (w : World) (hG : Gv w a ws) (hc : ws.length ≤ cap) (hl : ws.length ≤ 1048576) :
    Calls Tryz.prog 46 #[.slice a ws.length cap] w fun e w' => (∃ q : Bool, e = .returned (.bool q) ∧ (q = true ↔ Diff ws ws.length)) ∧ Below w.heap.size w w' := by
  go_enter Tryz.func46, Tryz.ntmps46
  go_wp2
  go_loopw [9] (fun i wx => ∃ (k : Nat), k ≤ ws.length ∧ i = .int .i64 k ∧ Hid (Diff ws k) ∧ Below w.heap.size w wx) (fun i _ => ws.length - (intOf i).toNat)
  case atStart => exact ⟨0, Nat.zero_le _, rfl, fun j r h => by omega, Below.refl _ _⟩
  case round =>
    obtain ⟨k, hk, rfl, Ha, hB⟩ := hrel
    by_cases hlt : k < ws.length
    · obtain ⟨b, rfl, l1, hR⟩ := hG.resolve_left (fun h => by rw [h] at hlt; simp at hlt)
      have hkc : (k : Int) ≤ (cap : Int) := by omega
      obtain ⟨r, hr⟩ : ∃ r, ws[k]? = some r := ⟨ws[k], List.getElem?_eq_getElem hlt⟩
      have Hr : Hid _ := hr
      clear hr
      have i0 : (0 : Int) ≤ (k : Int) := by omega
      have i1 : (k : Int) ≤ (ws.length : Int) := by omega
      obtain ⟨c0, c1, c2, c3, c4, c5, c6⟩ := (hR.keep l1 hB).at Hr.out
      simp only [Nat.zero_add] at c0 c1 c2 c3 c4 c5 c6
      obtain ⟨wo, rfl⟩ : ∃ wo : World, wo = wr := ⟨_, rfl⟩
      go_wp2_with fail
      clear c0 c1 c2 c3 c4 c5 c6
      go_loopw [18] (fun j wx => ∃ (n : Nat), n ≤ k ∧ j = .int .i64 n ∧ Hid (NoneOf ws r n) ∧ Below (wo.alloc (.cells #[.string r.c, .int .i64 r.v, .string r.h, .int .i64 r.p, .int .i64 r.s, .int .i64 r.d, .int .i64 r.g] 68)).heap.size (wo.alloc (.cells #[.string r.c, .int .i64 r.v, .string r.h, .int .i64 r.p, .int .i64 r.s, .int .i64 r.d, .int .i64 r.g] 68)) wx) (fun j _ => k - (intOf j).toNat)
      case atStart => exact ⟨0, Nat.zero_le _, rfl, fun i q h => by omega, Below.refl _ _⟩
      case round =>
        obtain ⟨n, hn, rfl, Hn, hBn⟩ := hrel
        have bo : Below w.heap.size w wr := bl_trans (bl_trans hB (bl_alloc (Below.refl _ _) _)) hBn
        by_cases hnl : n < k
        · obtain ⟨t, ht⟩ : ∃ t, ws[n]? = some t := ⟨ws[n], List.getElem?_eq_getElem (by omega)⟩
          have Ht : Hid _ := ht
          clear ht
          have j0 : (0 : Int) ≤ (n : Int) := by omega
          have j1 : (n : Int) < (k : Int) := by omega
          obtain ⟨c0, c1, c2, c3, c4, c5, c6⟩ := (hR.keep l1 bo).at Ht.out
          simp only [Nat.zero_add] at c0 c1 c2 c3 c4 c5 c6
          have hkb := box_keep hBn
          have hzb := boxlt hBn
          cases he : r.h.toList.isEmpty
          · cases hcl : (t.h.toList == r.h.toList)
            · go_wp2
              exact ⟨⟨n + 1, by omega, by go_num, NoneOf.step Hn.out Ht.out (by simp [clash, he, hcl]), bl_trans hBn (bl_alloc (Below.refl _ _) _)⟩, by simp [intOf]; omega⟩
            · go_wp2
              go_ret
              exact ⟨⟨false, rfl, ⟨fun h => (by cases h), fun h => by have := h k r hlt Hr.out n t hnl Ht.out; simp [clash, he, hcl] at this⟩⟩, bl_alloc bo _⟩
          · go_wp2
            exact ⟨⟨n + 1, by omega, by go_num, NoneOf.step Hn.out Ht.out (by simp [clash, he]), bl_trans hBn (bl_alloc (Below.refl _ _) _)⟩, by simp [intOf]; omega⟩
        · have hne : n = k := by omega
          subst hne
          go_wp2
          exact ⟨⟨n + 1, by omega, by go_num, Ha.out.step Hr.out Hn.out, bo⟩, by simp [intOf]; omega⟩
    · go_wp2
      go_ret
      exact ⟨⟨true, rfl, ⟨fun _ j r hj hr => Ha.out j r (by omega) hr, fun _ => rfl⟩⟩, hB⟩
end Go.Proofs.YtdkjhonaafadjaaGreat.W
namespace Go.Proofs.YtdkjhonaafadjaaGreat.P
open Go.RowKit
set_option linter.unusedVariables false

def SaysH (q : Bool) (ps : List PlaceD) : Prop := q = true ↔ W.Diff (ps.flatMap (·.ws)) (ps.flatMap (·.ws)).length
theorem flat_len (ps : List PlaceD) (h : ∀ p ∈ ps, p.ws.length ≤ 10) : (ps.flatMap (·.ws)).length ≤ ps.length * 10 := by
  induction ps with
  | nil => simp
  | cons p ps ih =>
    rw [List.flatMap_cons, List.length_append, List.length_cons]
    have h1 := h p (List.mem_cons_self ..)
    have h2 := ih (fun q hq => h q (List.mem_cons_of_mem _ hq))
    omega
theorem flatW_append (xs ys : List W.WantD) : W.flatR (xs ++ ys) = W.flatR xs ++ W.flatR ys := by simp [W.flatR]
theorem flat_step {ps : List PlaceD} {k : Nat} {p : PlaceD} (hp : ps[k]? = some p) : (ps.take (k + 1)).flatMap (·.ws) = (ps.take k).flatMap (·.ws) ++ p.ws := by
  have hlt : k < ps.length := (List.getElem?_eq_some_iff.1 hp).1
  have he : ps[k] = p := by rw [List.getElem?_eq_getElem hlt] at hp; exact Option.some.inj hp
  rw [List.take_succ_eq_append_getElem hlt, List.flatMap_append, he]
  simp
theorem sl_gv {w : World} {v : Value} {ws : List W.WantD} {B : Nat} (h : w.ownsRow B 68 7 v ws.length (W.flatR ws)) : ∃ a c, v = .slice a ws.length c ∧ ws.length ≤ c ∧ W.Gv w a ws := by
  have hs : W.Sl w v ws B := W.Sl.of_owns h
  rcases h.2 with ⟨h1, h2⟩ | ⟨g, cap, cur, h1, -, -, h4, -⟩
  · exact ⟨none, 0, by rw [h2]; exact h1, by omega, Or.inl (List.eq_nil_of_length_eq_zero h2)⟩
  · refine ⟨_, cap, h1, h4, ?_⟩
    rcases hs with ⟨-, h⟩ | ⟨g', cap', e, h1', h2', h3', h4'⟩
    · exact Or.inl h
    · rw [h1] at e; cases e; exact Or.inr ⟨g, rfl, h2', h3'⟩

set_option maxRecDepth 4000 in
set_option maxHeartbeats 1000000 in
theorem holdApart_any (t : Int) (gs : List G.GrantD) (ps : List PlaceD) (b1 b2 : Nat) (w : World) (hA : LandAt w gs ps b1 b2) (hF : Fit gs ps) (h4 : ps.length ≤ 4) (h10 : ∀ p ∈ ps, p.ws.length ≤ 10) :
    Calls Tryz.prog 107 #[.agg #[.int .i64 t, .slice (some ⟨b1, 0, none⟩) gs.length gs.length, .slice (some ⟨b2, 0, none⟩) ps.length ps.length]] w fun e w' => (∃ q : Bool, e = .returned (.bool q) ∧ SaysH q ps) ∧ Below w.heap.size w w' := by
  have HA : Hid (LandAt w gs ps b1 b2) := hA
  have H10 : Hid _ := h10
  obtain ⟨i0, hi, hz0, hz1, hz2⟩ := info_parts W.infoR
  clear hA hF h10
  go_enter Tryz.func107, Tryz.ntmps107
  go_wp2
  go_loopw [3, 9] (fun v i wx => ∃ (k : Nat), k ≤ ps.length ∧ i = .int .i64 k ∧ wx.ownsRow (w.heap.size + 1) 68 7 v ((ps.take k).flatMap (·.ws)).length (W.flatR ((ps.take k).flatMap (·.ws))) ∧ Below (w.alloc (.cells #[.int .i64 t, .slice (some ⟨b1, 0, none⟩) gs.length gs.length, .slice (some ⟨b2, 0, none⟩) ps.length ps.length] 27)).heap.size (w.alloc (.cells #[.int .i64 t, .slice (some ⟨b1, 0, none⟩) gs.length gs.length, .slice (some ⟨b2, 0, none⟩) ps.length ps.length] 27)) wx) (fun _ i _ => ps.length - (intOf i).toNat)
  case atStart => exact ⟨0, Nat.zero_le _, rfl, World.ownsRow_nil _ _ _ _, Below.refl _ _⟩
  case round =>
    obtain ⟨k, hk, rfl, hown, hB⟩ := hrel
    by_cases hlt : k < ps.length
    · obtain ⟨p, hp⟩ : ∃ p, ps[k]? = some p := ⟨ps[k], List.getElem?_eq_getElem hlt⟩
      have Hp : Hid _ := hp
      have hA1 := HA.out.keep (bl_trans (bl_alloc (Below.refl _ _) _) hB)
      obtain ⟨c0, c1, c2⟩ := hA1.p.at hp
      simp only [Nat.zero_add] at c0 c1 c2
      obtain ⟨g, e1, e2, -, hg, hrw⟩ := hA1.k p (List.mem_of_getElem? hp)
      have hw10 : p.ws.length ≤ 10 := H10.out p (List.mem_of_getElem? hp)
      rw [e1, e2] at c2
      obtain ⟨n, hn⟩ : ∃ n, n = ((ps.take k).flatMap (·.ws)).length := ⟨_, rfl⟩
      obtain ⟨xs, hxs⟩ : ∃ xs, xs = W.flatR ((ps.take k).flatMap (·.ws)) := ⟨_, rfl⟩
      have hnk : n ≤ 40 := by
        rw [hn]
        have h1 := flat_len (ps.take k) (fun q hq => H10.out q (List.mem_of_mem_take hq))
        have h2 : (ps.take k).length ≤ 4 := by rw [List.length_take]; omega
        omega
      rw [← hn, ← hxs] at hown
      have Ho : Hid (wr.ownsRow (w.heap.size + 1) 68 7 _ n xs) := hown
      have Hn : Hid _ := hn
      have Hx : Hid _ := hxs
      have Hrw : Hid (W.RowsAt wr g 0 p.ws) := hrw
      have hz : w.heap.size + 1 ≤ wr.heap.size := by have := hB.size; simpa using this
      clear hp hown hn hxs hrw hA1
      go_wp2_with (at_builtin; refine wpList_append_own _ rfl _ _ 48 rfl (w.heap.size + 1) 68 i0 _ 7 72 Tryz.underlying48 hi hz0 hz1 hz2 rfl (by decide) _ n _ rfl (by exact owns_below Ho.out (by repeat (first | exact Below.refl _ _ | refine bl_alloc ?_ _))) ⟨g, 0, none⟩ p.ws.length p.ws.length (W.flatR p.ws) (by first | rfl | simp [Act.eval]) (W.flatR_len _) (W.flat_cells (Hrw.out.keep hg (by repeat (first | exact Below.refl _ _ | refine bl_alloc ?_ _)))) (W.flatR_one _) (by unfold maxLen; omega) (by omega) (by simp; omega) ?_; intro v' w2 ho2 hg2 hn2)
      refine ⟨⟨k + 1, by omega, by go_num, ?_, Below.grown (by repeat (first | exact hB | refine bl_alloc ?_ _)) hg2 (by simp; omega) (fun j hj => by have := owns_ge Ho.out j hj; simpa using this)⟩, by simp [intOf]; omega⟩
      rw [flat_step Hp.out, List.length_append, flatW_append, ← Hn.out, ← Hx.out]
      exact ho2
    · have hk' : k = ps.length := by omega
      subst hk'
      rw [List.take_of_length_le (Nat.le_refl _)] at hown
      obtain ⟨a, c, rfl, hc, hG⟩ := sl_gv hown
      have HG : Hid _ := hG
      have hlen : (ps.flatMap (·.ws)).length ≤ 1048576 := by
        have h1 := flat_len ps H10.out
        omega
      obtain ⟨l, hl⟩ : ∃ l, l = ps.flatMap (·.ws) := ⟨_, rfl⟩
      have Hl : Hid _ := hl
      rw [← hl] at hc hlen ⊢
      have HG2 : Hid (W.Gv wr a l) := by rw [hl]; exact HG.out
      have HB : Hid (Below w.heap.size w wr) := bl_trans (bl_alloc (Below.refl _ _) _) hB
      clear hl hown hG HG hB
      go_wp2_with fail
      refine (W.holdsDiffer2 a c l _ HG2.out hc hlen).mono ?_
      rintro e w3 ⟨⟨q, rfl, kq⟩, c3⟩
      have K : Hid _ := kq
      have B3 : Hid (Below w.heap.size w w3) := bl_trans HB.out c3
      clear kq c3
      go_wp2
      go_ret
      exact ⟨⟨q, rfl, by unfold SaysH; rw [← Hl.out]; exact K.out⟩, B3.out⟩
end Go.Proofs.YtdkjhonaafadjaaGreat.P
/- MateLandOk: the program's side. -/
namespace Go.Proofs.YtdkjhonaafadjaaGreat.P
open Go.RowKit
set_option linter.unusedVariables false

theorem build_land (w : World) : Sem.run Tryz.prog (Instr.buildSlice 136 4 #[(0, .func (.func 104) #[] #[]), (1, .func (.func 105) #[] #[]), (2, .func (.func 106) #[] #[]), (3, .func (.func 107) #[] #[])]) w = .ok (.slice (some ⟨w.heap.size, 0, none⟩) 4 4) (w.alloc (.cells #[.func (.func 104) #[] #[], .func (.func 105) #[] #[], .func (.func 106) #[] #[], .func (.func 107) #[] #[]] 60)) := by kernel_rfl
theorem saysL_no {t : Int} {gs : List G.GrantD} {ps : List PlaceD} (h : LandSay t gs ps → False) : SaysL false t gs ps := ⟨fun h' => (by cases h'), fun h' => (h h').elim⟩
theorem three_land {w w' : World} {t : Int} {gs : List G.GrantD} {ps : List PlaceD} {b1 b2 : Nat} (hb : Below ((((w.alloc (.cells #[.int .i64 t, .slice (some ⟨b1, 0, none⟩) gs.length gs.length, .slice (some ⟨b2, 0, none⟩) ps.length ps.length] 27))).alloc (.cells #[.func (.func 104) #[] #[], .func (.func 105) #[] #[], .func (.func 106) #[] #[], .func (.func 107) #[] #[]] 60)).alloc (.cells #[.int .i64 t, .slice (some ⟨b1, 0, none⟩) gs.length gs.length, .slice (some ⟨b2, 0, none⟩) ps.length ps.length] 27)).heap.size ((((w.alloc (.cells #[.int .i64 t, .slice (some ⟨b1, 0, none⟩) gs.length gs.length, .slice (some ⟨b2, 0, none⟩) ps.length ps.length] 27))).alloc (.cells #[.func (.func 104) #[] #[], .func (.func 105) #[] #[], .func (.func 106) #[] #[], .func (.func 107) #[] #[]] 60)).alloc (.cells #[.int .i64 t, .slice (some ⟨b1, 0, none⟩) gs.length gs.length, .slice (some ⟨b2, 0, none⟩) ps.length ps.length] 27)) w') :
    (∀ k, w'.cell? ⟨w.heap.size + 1, k, none⟩ = (#[.func (.func 104) #[] #[], .func (.func 105) #[] #[], .func (.func 106) #[] #[], .func (.func 107) #[] #[]] : Array Value)[k]?) ∧ (∀ k, w'.cell? ⟨w.heap.size + 1 + 1, k, none⟩ = (#[.int .i64 t, .slice (some ⟨b1, 0, none⟩) gs.length gs.length, .slice (some ⟨b2, 0, none⟩) ps.length ps.length] : Array Value)[k]?) := by
  constructor
  · intro k
    rw [hb.cell (p := ⟨w.heap.size + 1, k, none⟩) (by simp)]
    simp [go_sem, World.cell?_alloc_past]
  · intro k
    rw [hb.cell (p := ⟨w.heap.size + 1 + 1, k, none⟩) (by simp)]
    simp [go_sem]

set_option maxRecDepth 4000 in
set_option maxHeartbeats 2000000 in
theorem implLandOk (t : Int) (gs : List G.GrantD) (ps : List PlaceD) (b1 b2 : Nat) (w : World) (hA : LandAt w gs ps b1 b2) (hF : Fit gs ps) :
    Calls Tryz.prog 80 #[.agg #[.int .i64 t, .slice (some ⟨b1, 0, none⟩) gs.length gs.length, .slice (some ⟨b2, 0, none⟩) ps.length ps.length]] w fun e w' => (∃ q : Bool, e = .returned (.bool q) ∧ SaysL q t gs ps) ∧ Below w.heap.size w w' := by
  have Hx0 : Hid (Below w.heap.size w ((((w.alloc (.cells #[.int .i64 t, .slice (some ⟨b1, 0, none⟩) gs.length gs.length, .slice (some ⟨b2, 0, none⟩) ps.length ps.length] 27))).alloc (.cells #[.func (.func 104) #[] #[], .func (.func 105) #[] #[], .func (.func 106) #[] #[], .func (.func 107) #[] #[]] 60)).alloc (.cells #[.int .i64 t, .slice (some ⟨b1, 0, none⟩) gs.length gs.length, .slice (some ⟨b2, 0, none⟩) ps.length ps.length] 27))) := bl_alloc (bl_alloc (bl_alloc (Below.refl _ _) _) _) _
  have HA0 : Hid (LandAt ((((w.alloc (.cells #[.int .i64 t, .slice (some ⟨b1, 0, none⟩) gs.length gs.length, .slice (some ⟨b2, 0, none⟩) ps.length ps.length] 27))).alloc (.cells #[.func (.func 104) #[] #[], .func (.func 105) #[] #[], .func (.func 106) #[] #[], .func (.func 107) #[] #[]] 60)).alloc (.cells #[.int .i64 t, .slice (some ⟨b1, 0, none⟩) gs.length gs.length, .slice (some ⟨b2, 0, none⟩) ps.length ps.length] 27)) gs ps b1 b2) := hA.keep Hx0.out
  have HF : Hid (Fit gs ps) := hF
  clear hA hF
  have hbv := build_land
  go_enter Tryz.func80, Tryz.ntmps80
  go_wp2_with go_in
  clear hbv
  refine wp_loop_rounds 5 ?_
  rw [rounds_succ]
  go_wp2_with fail
  refine (timeOk_any t _ _ _ _ _ _ _).mono ?_
  rintro e w1 ⟨rfl, c1⟩
  obtain ⟨q1, hq1⟩ : ∃ q, q = timeB t := ⟨_, rfl⟩
  have H1 : Hid (q1 = true ↔ timeB t = true) := by rw [hq1]; exact Iff.rfl
  rw [← hq1]
  have C1 : Hid (Below ((((w.alloc (.cells #[.int .i64 t, .slice (some ⟨b1, 0, none⟩) gs.length gs.length, .slice (some ⟨b2, 0, none⟩) ps.length ps.length] 27))).alloc (.cells #[.func (.func 104) #[] #[], .func (.func 105) #[] #[], .func (.func 106) #[] #[], .func (.func 107) #[] #[]] 60)).alloc (.cells #[.int .i64 t, .slice (some ⟨b1, 0, none⟩) gs.length gs.length, .slice (some ⟨b2, 0, none⟩) ps.length ps.length] 27)).heap.size ((((w.alloc (.cells #[.int .i64 t, .slice (some ⟨b1, 0, none⟩) gs.length gs.length, .slice (some ⟨b2, 0, none⟩) ps.length ps.length] 27))).alloc (.cells #[.func (.func 104) #[] #[], .func (.func 105) #[] #[], .func (.func 106) #[] #[], .func (.func 107) #[] #[]] 60)).alloc (.cells #[.int .i64 t, .slice (some ⟨b1, 0, none⟩) gs.length gs.length, .slice (some ⟨b2, 0, none⟩) ps.length ps.length] 27)) w1) := c1
  clear hq1 c1
  obtain ⟨kf1, km1⟩ := three_land C1.out
  cases q1
  · go_wp2
    go_ret
    exact ⟨⟨false, rfl, saysL_no (fun h => by have := H1.out.2 h.1; cases this)⟩, bl_trans Hx0.out C1.out⟩
  have G1 : Hid (timeB t = true) := H1.out.1 rfl
  clear H1
  have ht0 : 0 ≤ t := by have := G1.out; simp [timeB, inB] at this; omega
  have ht1 : t ≤ 2000000 := by have := G1.out; simp [timeB, inB] at this; omega
  have HA1 : Hid (LandAt w1 gs ps b1 b2) := HA0.out.keep C1.out
  go_wp2_with fail
  rw [rounds_succ]
  go_wp2_with fail
  refine (grantsOk_any t gs ps b1 b2 _ HA1.out HF.out ht0 ht1).mono ?_
  rintro e w2 ⟨⟨q2, rfl, h2⟩, c2⟩
  have H2 : Hid (q2 = true ↔ GrantsSay t gs) := h2
  have C2 : Hid (Below ((((w.alloc (.cells #[.int .i64 t, .slice (some ⟨b1, 0, none⟩) gs.length gs.length, .slice (some ⟨b2, 0, none⟩) ps.length ps.length] 27))).alloc (.cells #[.func (.func 104) #[] #[], .func (.func 105) #[] #[], .func (.func 106) #[] #[], .func (.func 107) #[] #[]] 60)).alloc (.cells #[.int .i64 t, .slice (some ⟨b1, 0, none⟩) gs.length gs.length, .slice (some ⟨b2, 0, none⟩) ps.length ps.length] 27)).heap.size ((((w.alloc (.cells #[.int .i64 t, .slice (some ⟨b1, 0, none⟩) gs.length gs.length, .slice (some ⟨b2, 0, none⟩) ps.length ps.length] 27))).alloc (.cells #[.func (.func 104) #[] #[], .func (.func 105) #[] #[], .func (.func 106) #[] #[], .func (.func 107) #[] #[]] 60)).alloc (.cells #[.int .i64 t, .slice (some ⟨b1, 0, none⟩) gs.length gs.length, .slice (some ⟨b2, 0, none⟩) ps.length ps.length] 27)) w2) := bl_trans C1.out c2
  clear h2 c2 kf1 km1
  obtain ⟨kf2, km2⟩ := three_land C2.out
  cases q2
  · go_wp2
    go_ret
    exact ⟨⟨false, rfl, saysL_no (fun h => by have := H2.out.2 h.2.1; cases this)⟩, bl_trans Hx0.out C2.out⟩
  have G2 : Hid (GrantsSay t gs) := H2.out.1 rfl
  clear H2
  have HA2 : Hid (LandAt w2 gs ps b1 b2) := HA0.out.keep C2.out
  go_wp2_with fail
  rw [rounds_succ]
  go_wp2_with fail
  refine (placesOk_any t gs ps b1 b2 _ HA2.out HF.out).mono ?_
  rintro e w3 ⟨⟨q3, rfl, h3⟩, c3⟩
  have H3 : Hid (q3 = true ↔ PlacesSay ps) := h3
  have C3 : Hid (Below ((((w.alloc (.cells #[.int .i64 t, .slice (some ⟨b1, 0, none⟩) gs.length gs.length, .slice (some ⟨b2, 0, none⟩) ps.length ps.length] 27))).alloc (.cells #[.func (.func 104) #[] #[], .func (.func 105) #[] #[], .func (.func 106) #[] #[], .func (.func 107) #[] #[]] 60)).alloc (.cells #[.int .i64 t, .slice (some ⟨b1, 0, none⟩) gs.length gs.length, .slice (some ⟨b2, 0, none⟩) ps.length ps.length] 27)).heap.size ((((w.alloc (.cells #[.int .i64 t, .slice (some ⟨b1, 0, none⟩) gs.length gs.length, .slice (some ⟨b2, 0, none⟩) ps.length ps.length] 27))).alloc (.cells #[.func (.func 104) #[] #[], .func (.func 105) #[] #[], .func (.func 106) #[] #[], .func (.func 107) #[] #[]] 60)).alloc (.cells #[.int .i64 t, .slice (some ⟨b1, 0, none⟩) gs.length gs.length, .slice (some ⟨b2, 0, none⟩) ps.length ps.length] 27)) w3) := bl_trans C2.out c3
  clear h3 c3 kf2 km2
  obtain ⟨kf3, km3⟩ := three_land C3.out
  cases q3
  · go_wp2
    go_ret
    exact ⟨⟨false, rfl, saysL_no (fun h => by have := H3.out.2 h.2.2.1; cases this)⟩, bl_trans Hx0.out C3.out⟩
  have G3 : Hid (PlacesSay ps) := H3.out.1 rfl
  clear H3
  have HA3 : Hid (LandAt w3 gs ps b1 b2) := HA0.out.keep C3.out
  go_wp2_with fail
  rw [rounds_succ]
  go_wp2_with fail
  refine (holdApart_any t gs ps b1 b2 _ HA3.out HF.out G3.out.1 (fun p hp => (G3.out.2.2 p hp).2.2.1)).mono ?_
  rintro e w4 ⟨⟨q4, rfl, h4⟩, c4⟩
  have H4 : Hid (q4 = true ↔ Apart ps) := h4.trans (apart_iff ps G3.out.2.2)
  have C4 : Hid (Below ((((w.alloc (.cells #[.int .i64 t, .slice (some ⟨b1, 0, none⟩) gs.length gs.length, .slice (some ⟨b2, 0, none⟩) ps.length ps.length] 27))).alloc (.cells #[.func (.func 104) #[] #[], .func (.func 105) #[] #[], .func (.func 106) #[] #[], .func (.func 107) #[] #[]] 60)).alloc (.cells #[.int .i64 t, .slice (some ⟨b1, 0, none⟩) gs.length gs.length, .slice (some ⟨b2, 0, none⟩) ps.length ps.length] 27)).heap.size ((((w.alloc (.cells #[.int .i64 t, .slice (some ⟨b1, 0, none⟩) gs.length gs.length, .slice (some ⟨b2, 0, none⟩) ps.length ps.length] 27))).alloc (.cells #[.func (.func 104) #[] #[], .func (.func 105) #[] #[], .func (.func 106) #[] #[], .func (.func 107) #[] #[]] 60)).alloc (.cells #[.int .i64 t, .slice (some ⟨b1, 0, none⟩) gs.length gs.length, .slice (some ⟨b2, 0, none⟩) ps.length ps.length] 27)) w4) := bl_trans C3.out c4
  clear h4 c4 kf3 km3
  obtain ⟨kf4, km4⟩ := three_land C4.out
  cases q4
  · go_wp2
    go_ret
    exact ⟨⟨false, rfl, saysL_no (fun h => by have := H4.out.2 h.2.2.2; cases this)⟩, bl_trans Hx0.out C4.out⟩
  have G4 : Hid (Apart ps) := H4.out.1 rfl
  clear H4
  have HA4 : Hid (LandAt w4 gs ps b1 b2) := HA0.out.keep C4.out
  go_wp2_with fail
  rw [rounds_succ]
  go_wp2
  go_ret
  exact ⟨⟨true, rfl, ⟨fun _ => ⟨G1.out, G2.out, G3.out, G4.out⟩, fun _ => rfl⟩⟩, bl_trans Hx0.out C4.out⟩
end Go.Proofs.YtdkjhonaafadjaaGreat.P
