import Derived.Test.YtdkjhonaafadjaaGreatJ17
import Derived.Test.YtdkjhonaafadjaaGreatJ20
import Derived.Test.YtdkjhonaafadjaaGreatJ09
import Derived.Deep.RegionHeld3
import Derived.Laws.Pointers
import Derived.StillTactics
import Derived.Test.YtdkjhonaafadjaaGreatJ02
import Derived.Test.YtdkjhonaafadjaaGreatJ16
import Derived.Laws.EntriesVeiled
/- MateSettled: the specification's side. -/
namespace Go.Proofs.YtdkjhonaafadjaaGreat
open Go.RowKit
set_option linter.unusedVariables false

theorem build0ww (w : World) : Sem.run Tryz.prog (Instr.buildSlice 48 0 #[]) w = .ok (.slice (some ⟨w.heap.size, 0, none⟩) 0 0) (w.alloc (.cells #[] 68)) := by kernel_rfl
theorem box9 {wo wr : World} {m : MateD} {g1 g2 g3 g4 : Nat} (h : Below (wo.alloc (.cells #[.string m.nm, .bool m.up, .int .i64 m.ck, .bool m.kn, .int .i64 m.se, .slice (some ⟨g1, 0, none⟩) m.ws.length m.ws.length, .slice (some ⟨g2, 0, none⟩) m.rs.length m.rs.length, .slice (some ⟨g3, 0, none⟩) m.qs.length m.qs.length, .slice (some ⟨g4, 0, none⟩) m.gs.length m.gs.length] 52)).heap.size (wo.alloc (.cells #[.string m.nm, .bool m.up, .int .i64 m.ck, .bool m.kn, .int .i64 m.se, .slice (some ⟨g1, 0, none⟩) m.ws.length m.ws.length, .slice (some ⟨g2, 0, none⟩) m.rs.length m.rs.length, .slice (some ⟨g3, 0, none⟩) m.qs.length m.qs.length, .slice (some ⟨g4, 0, none⟩) m.gs.length m.gs.length] 52)) wr) : ∀ k, wr.cell? ⟨wo.heap.size, k, none⟩ = (#[.string m.nm, .bool m.up, .int .i64 m.ck, .bool m.kn, .int .i64 m.se, .slice (some ⟨g1, 0, none⟩) m.ws.length m.ws.length, .slice (some ⟨g2, 0, none⟩) m.rs.length m.rs.length, .slice (some ⟨g3, 0, none⟩) m.qs.length m.qs.length, .slice (some ⟨g4, 0, none⟩) m.gs.length m.gs.length] : Array Value)[k]? := by
  intro k
  rw [h.cell (p := ⟨wo.heap.size, k, none⟩) (by simp)]
  simp [go_sem]
theorem gv_of {X wx : World} {a : Option Addr} {l : List W.WantD} (h : (l = [] ∨ ∃ b, a = some ⟨b, 0, none⟩ ∧ b < X.heap.size ∧ W.RowsAt X b 0 l)) (hb : Below X.heap.size X wx) : W.Gv wx a l := W.Gv.keep (w := X) h hb

set_option maxRecDepth 4000 in
set_option maxHeartbeats 3000000 in
theorem specSettled (t : Int) (gs : List G.GrantD) (ps : List P.PlaceD) (rs : List Mt.MRow) (fs : List ByteArray) (b1 b2 b3 b4 B : Nat) (w : World) (hA : WorldAt w gs ps rs fs b1 b2 b3 b4 B) (hF : WorldFit gs ps rs fs) :
    Calls Tryz.prog 22 #[.agg #[.int .i64 t, .slice (some ⟨b1, 0, none⟩) gs.length gs.length, .slice (some ⟨b2, 0, none⟩) ps.length ps.length, .slice (some ⟨b3, 0, none⟩) rs.length rs.length, .slice (some ⟨b4, 0, none⟩) fs.length fs.length]] w fun e w' => (∃ q : Bool, e = .returned (.bool q) ∧ (q = true ↔ SettledOk t gs ps (rs.map Mt.MRow.m) fs)) ∧ Below w.heap.size w w' := by
  have Hb0 : Hid (Below w.heap.size w (w.alloc (.cells #[.int .i64 t, .slice (some ⟨b1, 0, none⟩) gs.length gs.length, .slice (some ⟨b2, 0, none⟩) ps.length ps.length, .slice (some ⟨b3, 0, none⟩) rs.length rs.length, .slice (some ⟨b4, 0, none⟩) fs.length fs.length] 30))) := bl_alloc (Below.refl _ _) _
  have HA : Hid (WorldAt (w.alloc (.cells #[.int .i64 t, .slice (some ⟨b1, 0, none⟩) gs.length gs.length, .slice (some ⟨b2, 0, none⟩) ps.length ps.length, .slice (some ⟨b3, 0, none⟩) rs.length rs.length, .slice (some ⟨b4, 0, none⟩) fs.length fs.length] 30)) gs ps rs fs b1 b2 b3 b4 B) := hA.keep Hb0.out
  have HF : Hid (WorldFit gs ps rs fs) := hF
  clear hA hF
  obtain ⟨iw, hiw, hz0, hz1, hz2⟩ := info_parts W.infoR
  have nbw := build0ww
  go_enter Tryz.func22, Tryz.ntmps22
  go_wp2_with fail
  refine (specWorldOk t gs ps rs fs b1 b2 b3 b4 B _ HA.out HF.out).mono ?_
  rintro e w1 ⟨⟨q, rfl, h⟩, c1⟩
  have H1 : Hid (SaysWd q t gs ps (rs.map Mt.MRow.m) fs) := h
  have C1 : Hid (Below (w.alloc (.cells #[.int .i64 t, .slice (some ⟨b1, 0, none⟩) gs.length gs.length, .slice (some ⟨b2, 0, none⟩) ps.length ps.length, .slice (some ⟨b3, 0, none⟩) rs.length rs.length, .slice (some ⟨b4, 0, none⟩) fs.length fs.length] 30)).heap.size (w.alloc (.cells #[.int .i64 t, .slice (some ⟨b1, 0, none⟩) gs.length gs.length, .slice (some ⟨b2, 0, none⟩) ps.length ps.length, .slice (some ⟨b3, 0, none⟩) rs.length rs.length, .slice (some ⟨b4, 0, none⟩) fs.length fs.length] 30)) w1) := c1
  have kb := wd_box c1
  clear h c1
  cases q
  · go_wp2_with fail
    go_ret
    exact ⟨⟨false, rfl, ⟨fun h => (by cases h), fun h => by have := H1.out.2 h.1; cases this⟩⟩, bl_trans Hb0.out C1.out⟩
  have G1 : Hid (WorldSay t gs ps (rs.map Mt.MRow.m) fs) := H1.out.1 rfl
  clear H1
  have H20 : Hid (∀ r ∈ rs, r.m.rs.length ≤ 20) := (world_runs G1.out).1
  have h4 : rs.length ≤ 4 := (world_runs G1.out).2
  have H4 : Hid (rs.length ≤ 4) := h4
  have zb1 : w.heap.size + 1 ≤ w1.heap.size := by have := C1.out.size; simpa using this
  have hpl := HF.out.f.pl
  have HP4 : Hid (ps.length ≤ 4 ∧ ∀ p ∈ ps, p.ws.length ≤ 10) := ⟨G1.out.1.2.2.1.1, fun p hp => (G1.out.1.2.2.1.2.2 p hp).2.2.1⟩
  go_wp2_with fail
  clear kb
  go_loopw [3] (fun i wx => ∃ (k : Nat), k ≤ rs.length ∧ i = .int .i64 k ∧ Hid (∀ (j : Nat) r, j < k → rs[j]? = some r → SettM ps r.m) ∧ Hid (Below (w.alloc (.cells #[.int .i64 t, .slice (some ⟨b1, 0, none⟩) gs.length gs.length, .slice (some ⟨b2, 0, none⟩) ps.length ps.length, .slice (some ⟨b3, 0, none⟩) rs.length rs.length, .slice (some ⟨b4, 0, none⟩) fs.length fs.length] 30)).heap.size (w.alloc (.cells #[.int .i64 t, .slice (some ⟨b1, 0, none⟩) gs.length gs.length, .slice (some ⟨b2, 0, none⟩) ps.length ps.length, .slice (some ⟨b3, 0, none⟩) rs.length rs.length, .slice (some ⟨b4, 0, none⟩) fs.length fs.length] 30)) wx)) (fun i _ => rs.length - (intOf i).toNat)
  case atStart => exact ⟨0, Nat.zero_le _, rfl, (fun j r h => by omega), C1.out⟩
  case round =>
    obtain ⟨k, hk, rfl, HN, HB⟩ := hrel
    have kb := wd_box HB.out
    have zw : w.heap.size + 1 ≤ wr.heap.size := by have := HB.out.size; simpa using this
    have zw0 : w.heap.size < wr.heap.size := by omega
    by_cases hlt : k < rs.length
    rotate_left
    · have e : k = rs.length := by omega
      subst e
      go_wp2
      go_ret
      exact ⟨⟨true, rfl, ⟨fun _ => ⟨G1.out, fun m hm => by
        obtain ⟨r, hr, rfl⟩ := List.mem_map.1 hm
        obtain ⟨j, hj⟩ := List.getElem?_of_mem hr
        exact HN.out j r (List.getElem?_eq_some_iff.1 hj).1 hj⟩, fun _ => rfl⟩⟩, bl_trans Hb0.out HB.out⟩
    obtain ⟨r, hr⟩ : ∃ r, rs[k]? = some r := ⟨rs[k], List.getElem?_eq_getElem hlt⟩
    have HM : Hid (MatesOwn wr rs b3 B) := HA.out.m.keep HB.out
    obtain ⟨g1, g2, g3, g4, hbp⟩ := HM.out.k r (List.mem_of_getElem? hr)
    have HLr : Hid (Lists wr r.m g1 g2 g3 g4) := hbp.l
    have hl20 : r.m.rs.length ≤ 20 := H20.out r (List.mem_of_getElem? hr)
    have Hr : Hid (rs[k]? = some r) := hr
    have x1 := hbp.e1; have x2 := hbp.e2; have x3 := hbp.e3; have x4 := hbp.e4
    have t1 := hbp.f1; have t2 := hbp.f2; have t3 := hbp.f3; have t4 := hbp.f4
    clear hr hbp
    obtain ⟨m, pa1, pc1, pa2, pc2, pa3, pc3, pa4, pc4⟩ := r
    simp only at x1 x2 x3 x4 t1 t2 t3 t4
    subst x1 x2 x3 x4 t1 t2 t3 t4
    have hl20' : m.rs.length ≤ 20 := hl20
    clear hl20
    obtain ⟨c0, c1, c2, c3, c4, c5, c6, c7, c8⟩ := rowM HM.out.r Hr.out
    have i0 : (0 : Int) ≤ (k : Int) := by omega
    have i1 : (k : Int) < (rs.length : Int) := by omega
    have HL0 : Hid (Lists (w.alloc (.cells #[.int .i64 t, .slice (some ⟨b1, 0, none⟩) gs.length gs.length, .slice (some ⟨b2, 0, none⟩) ps.length ps.length, .slice (some ⟨b3, 0, none⟩) rs.length rs.length, .slice (some ⟨b4, 0, none⟩) fs.length fs.length] 30)) m g1 g2 g3 g4) := by
      obtain ⟨x1, x2, x3, x4, hx⟩ := HA.out.m.k _ (List.mem_of_getElem? Hr.out)
      have e1 := hx.e1; have e2 := hx.e2; have e3 := hx.e3; have e4 := hx.e4
      simp only [Option.some.injEq, Addr.mk.injEq, and_true] at e1 e2 e3 e4
      subst e1 e2 e3 e4
      exact hx.l
    have HNo : Hid (¬ SettM ps m → ¬ SettledOk t gs ps (rs.map Mt.MRow.m) fs) := fun hn hs => hn (hs.2 m (List.mem_map.2 ⟨_, List.mem_of_getElem? Hr.out, rfl⟩))
    go_wp2_with fail
    obtain ⟨wo, rfl⟩ : ∃ wo : World, wo = wr := ⟨_, rfl⟩
    clear kb c0 c1 c2 c3 c4 c5 c6 c7 c8 HLr HM
    have B0 : Hid (Below (w.alloc (.cells #[.int .i64 t, .slice (some ⟨b1, 0, none⟩) gs.length gs.length, .slice (some ⟨b2, 0, none⟩) ps.length ps.length, .slice (some ⟨b3, 0, none⟩) rs.length rs.length, .slice (some ⟨b4, 0, none⟩) fs.length fs.length] 30)).heap.size (w.alloc (.cells #[.int .i64 t, .slice (some ⟨b1, 0, none⟩) gs.length gs.length, .slice (some ⟨b2, 0, none⟩) ps.length ps.length, .slice (some ⟨b3, 0, none⟩) rs.length rs.length, .slice (some ⟨b4, 0, none⟩) fs.length fs.length] 30)) (wo.alloc (.cells #[.string m.nm, .bool m.up, .int .i64 m.ck, .bool m.kn, .int .i64 m.se, .slice (some ⟨g1, 0, none⟩) m.ws.length m.ws.length, .slice (some ⟨g2, 0, none⟩) m.rs.length m.rs.length, .slice (some ⟨g3, 0, none⟩) m.qs.length m.qs.length, .slice (some ⟨g4, 0, none⟩) m.gs.length m.gs.length] 52))) := bl_alloc HB.out _
    go_loopw [5, 6] (fun v i wx => ∃ (j : Nat), j ≤ ps.length ∧ i = .int .i64 j ∧ (∃ a c, v = .slice a (wantsAt (ps.take j) m.nm).length c ∧ Hid (((wantsAt (ps.take j) m.nm) = [] ∨ ∃ b, a = some ⟨b, 0, none⟩ ∧ b < (w.alloc (.cells #[.int .i64 t, .slice (some ⟨b1, 0, none⟩) gs.length gs.length, .slice (some ⟨b2, 0, none⟩) ps.length ps.length, .slice (some ⟨b3, 0, none⟩) rs.length rs.length, .slice (some ⟨b4, 0, none⟩) fs.length fs.length] 30)).heap.size ∧ W.RowsAt (w.alloc (.cells #[.int .i64 t, .slice (some ⟨b1, 0, none⟩) gs.length gs.length, .slice (some ⟨b2, 0, none⟩) ps.length ps.length, .slice (some ⟨b3, 0, none⟩) rs.length rs.length, .slice (some ⟨b4, 0, none⟩) fs.length fs.length] 30)) b 0 (wantsAt (ps.take j) m.nm)))) ∧ Hid (Below (wo.alloc (.cells #[.string m.nm, .bool m.up, .int .i64 m.ck, .bool m.kn, .int .i64 m.se, .slice (some ⟨g1, 0, none⟩) m.ws.length m.ws.length, .slice (some ⟨g2, 0, none⟩) m.rs.length m.rs.length, .slice (some ⟨g3, 0, none⟩) m.qs.length m.qs.length, .slice (some ⟨g4, 0, none⟩) m.gs.length m.gs.length] 52)).heap.size (wo.alloc (.cells #[.string m.nm, .bool m.up, .int .i64 m.ck, .bool m.kn, .int .i64 m.se, .slice (some ⟨g1, 0, none⟩) m.ws.length m.ws.length, .slice (some ⟨g2, 0, none⟩) m.rs.length m.rs.length, .slice (some ⟨g3, 0, none⟩) m.qs.length m.qs.length, .slice (some ⟨g4, 0, none⟩) m.gs.length m.gs.length] 52)) wx)) (fun _ i _ => ps.length - (intOf i).toNat)
    case atStart => exact ⟨0, Nat.zero_le _, rfl, ⟨_, _, rfl, Or.inl rfl⟩, bl_alloc (Below.refl _ _) _⟩
    case round =>
      obtain ⟨j, hj, rfl, ⟨a5, p5, rfl, HG⟩, HW⟩ := hrel
      have BB : Hid (Below (w.alloc (.cells #[.int .i64 t, .slice (some ⟨b1, 0, none⟩) gs.length gs.length, .slice (some ⟨b2, 0, none⟩) ps.length ps.length, .slice (some ⟨b3, 0, none⟩) rs.length rs.length, .slice (some ⟨b4, 0, none⟩) fs.length fs.length] 30)).heap.size (w.alloc (.cells #[.int .i64 t, .slice (some ⟨b1, 0, none⟩) gs.length gs.length, .slice (some ⟨b2, 0, none⟩) ps.length ps.length, .slice (some ⟨b3, 0, none⟩) rs.length rs.length, .slice (some ⟨b4, 0, none⟩) fs.length fs.length] 30)) wr) := bl_trans B0.out HW.out
      have kb := wd_box BB.out
      have km := box9 HW.out
      have LA : Hid (P.LandAt wr gs ps b1 b2) := HA.out.a.a.keep BB.out
      by_cases hjl : j < ps.length
      · obtain ⟨p, hp⟩ : ∃ p, ps[j]? = some p := ⟨ps[j], List.getElem?_eq_getElem hjl⟩
        have Hp : Hid (ps[j]? = some p) := hp
        obtain ⟨c0, c1, c2⟩ := LA.out.p.at hp
        simp only [Nat.zero_add] at c0 c1 c2
        obtain ⟨g, e1, e2, -, hg, hrw⟩ := HA.out.a.a.k p (List.mem_of_getElem? hp)
        have Hg : Hid (g < (w.alloc (.cells #[.int .i64 t, .slice (some ⟨b1, 0, none⟩) gs.length gs.length, .slice (some ⟨b2, 0, none⟩) ps.length ps.length, .slice (some ⟨b3, 0, none⟩) rs.length rs.length, .slice (some ⟨b4, 0, none⟩) fs.length fs.length] 30)).heap.size ∧ W.RowsAt (w.alloc (.cells #[.int .i64 t, .slice (some ⟨b1, 0, none⟩) gs.length gs.length, .slice (some ⟨b2, 0, none⟩) ps.length ps.length, .slice (some ⟨b3, 0, none⟩) rs.length rs.length, .slice (some ⟨b4, 0, none⟩) fs.length fs.length] 30)) g 0 p.ws) := ⟨hg, hrw⟩
        rw [e1, e2] at c2
        have j0 : (0 : Int) ≤ (j : Int) := by omega
        have j1 : (j : Int) < (ps.length : Int) := by omega
        clear hp e1 e2 hg hrw
        cases hb : (p.b.toList == m.nm.toList)
        · go_wp2_with fail
          go_quiet (fail)
          go_wp2
          refine ⟨⟨j + 1, by omega, by go_num, ⟨a5, p5, by rw [wantsAt_step m.nm Hp.out, hb]; rfl, by rw [wantsAt_step m.nm Hp.out, hb]; exact HG.out⟩, Tx.bl_dnT HW.out⟩, by simp [intOf]; omega⟩
        · go_wp2_with fail
          go_quiet (fail)
          go_wp2
          refine ⟨⟨j + 1, by omega, by go_num, ⟨some ⟨g, 0, none⟩, p.ws.length, by rw [wantsAt_step m.nm Hp.out, hb]; rfl, by rw [wantsAt_step m.nm Hp.out, hb]; exact Or.inr ⟨g, rfl, Hg.out.1, Hg.out.2⟩⟩, Tx.bl_dnT HW.out⟩, by simp [intOf]; omega⟩
      have e : j = ps.length := by omega
      subst e
      rw [List.take_of_length_le (Nat.le_refl _)] at HG ⊢
      obtain ⟨ls, hls⟩ : ∃ ls, ls = wantsAt ps m.nm := ⟨_, rfl⟩
      rw [← hls] at HG ⊢
      have Hls : Hid (ls = wantsAt ps m.nm) := hls
      have hlsl : ls.length ≤ 1048576 := by
        rw [hls]
        have key : ∀ (l : List P.PlaceD) (acc : List W.WantD), (∀ p ∈ l, p.ws.length ≤ 10) → acc.length ≤ 10 → (l.foldl (fun acc p => if p.b.toList == m.nm.toList then p.ws else acc) acc).length ≤ 10 := by
          intro l
          induction l with
          | nil => intro acc _ h; exact h
          | cons p l ih =>
            intro acc h1 h2
            simp only [List.foldl_cons]
            refine ih _ (fun q hq => h1 q (List.mem_cons_of_mem _ hq)) ?_
            split
            · exact h1 p (List.mem_cons_self ..)
            · exact h2
        exact Nat.le_trans (key ps [] HP4.out.2 (by simp)) (by omega)
      clear hls LA
      have zo : wo.heap.size + 1 ≤ wr.heap.size := by have := HW.out.size; simpa using this
      go_wp2_with fail
      obtain ⟨wm, rfl⟩ : ∃ wm : World, wm = wr := ⟨_, rfl⟩
      clear kb km
      have HW2 : Hid (Below (wo.alloc (.cells #[.string m.nm, .bool m.up, .int .i64 m.ck, .bool m.kn, .int .i64 m.se, .slice (some ⟨g1, 0, none⟩) m.ws.length m.ws.length, .slice (some ⟨g2, 0, none⟩) m.rs.length m.rs.length, .slice (some ⟨g3, 0, none⟩) m.qs.length m.qs.length, .slice (some ⟨g4, 0, none⟩) m.gs.length m.gs.length] 52)).heap.size (wo.alloc (.cells #[.string m.nm, .bool m.up, .int .i64 m.ck, .bool m.kn, .int .i64 m.se, .slice (some ⟨g1, 0, none⟩) m.ws.length m.ws.length, .slice (some ⟨g2, 0, none⟩) m.rs.length m.rs.length, .slice (some ⟨g3, 0, none⟩) m.qs.length m.qs.length, .slice (some ⟨g4, 0, none⟩) m.gs.length m.gs.length] 52)) (wm.alloc (.cells #[] 68))) := bl_alloc HW.out _
      go_loopw [7, 8] (fun v i wx => ∃ (q : Nat), q ≤ m.rs.length ∧ i = .int .i64 q ∧ wx.ownsRow (wo.heap.size + 1) 68 7 v ((m.rs.take q).map wantOf).length (W.flatR ((m.rs.take q).map wantOf)) ∧ Hid (∀ r ∈ m.rs.take q, r.a = 4) ∧ Hid (Below (wo.alloc (.cells #[.string m.nm, .bool m.up, .int .i64 m.ck, .bool m.kn, .int .i64 m.se, .slice (some ⟨g1, 0, none⟩) m.ws.length m.ws.length, .slice (some ⟨g2, 0, none⟩) m.rs.length m.rs.length, .slice (some ⟨g3, 0, none⟩) m.qs.length m.qs.length, .slice (some ⟨g4, 0, none⟩) m.gs.length m.gs.length] 52)).heap.size (wo.alloc (.cells #[.string m.nm, .bool m.up, .int .i64 m.ck, .bool m.kn, .int .i64 m.se, .slice (some ⟨g1, 0, none⟩) m.ws.length m.ws.length, .slice (some ⟨g2, 0, none⟩) m.rs.length m.rs.length, .slice (some ⟨g3, 0, none⟩) m.qs.length m.qs.length, .slice (some ⟨g4, 0, none⟩) m.gs.length m.gs.length] 52)) wx)) (fun _ i _ => m.rs.length - (intOf i).toNat)
      case atStart => exact ⟨0, Nat.zero_le _, rfl, World.ownsRow_made _ #[] 0 zo (Nat.zero_le _) rfl, (fun r hr => by simp at hr), HW2.out⟩
      case round =>
        obtain ⟨q, hq, rfl, hown, H4s, HV⟩ := hrel
        have km := box9 HV.out
        have BV : Hid (Below (w.alloc (.cells #[.int .i64 t, .slice (some ⟨b1, 0, none⟩) gs.length gs.length, .slice (some ⟨b2, 0, none⟩) ps.length ps.length, .slice (some ⟨b3, 0, none⟩) rs.length rs.length, .slice (some ⟨b4, 0, none⟩) fs.length fs.length] 30)).heap.size (w.alloc (.cells #[.int .i64 t, .slice (some ⟨b1, 0, none⟩) gs.length gs.length, .slice (some ⟨b2, 0, none⟩) ps.length ps.length, .slice (some ⟨b3, 0, none⟩) rs.length rs.length, .slice (some ⟨b4, 0, none⟩) fs.length fs.length] 30)) wr) := bl_trans B0.out HV.out
        have zr : wo.heap.size + 1 ≤ wr.heap.size := by have := HV.out.size; simpa using this
        by_cases hql : q < m.rs.length
        · obtain ⟨y, hy⟩ : ∃ y, m.rs[q]? = some y := ⟨m.rs[q], List.getElem?_eq_getElem hql⟩
          have Hy : Hid (m.rs[q]? = some y) := hy
          have HLr : Hid (Lists wr m g1 g2 g3 g4) := HL0.out.keep BV.out
          obtain ⟨d0, d1, d2, d3, d4, d5, d6, d7, d8, d9, d10⟩ := HLr.out.r2.at hy
          simp only [Nat.zero_add] at d0 d1 d2 d3 d4 d5 d6 d7 d8 d9 d10
          have q0 : (0 : Int) ≤ (q : Int) := by omega
          have q1 : (q : Int) < (m.rs.length : Int) := by omega
          obtain ⟨n, hn⟩ : ∃ n, n = ((m.rs.take q).map wantOf).length := ⟨_, rfl⟩
          obtain ⟨xs, hxs⟩ : ∃ xs, xs = W.flatR ((m.rs.take q).map wantOf) := ⟨_, rfl⟩
          have hnk : n ≤ 20 := by rw [hn, List.length_map, List.length_take]; omega
          rw [← hn, ← hxs] at hown
          have HO : Hid (wr.ownsRow (wo.heap.size + 1) 68 7 u7 n xs) := hown
          have Hn : Hid (n = ((m.rs.take q).map wantOf).length) := hn
          have Hx : Hid (xs = W.flatR ((m.rs.take q).map wantOf)) := hxs
          have htake : (m.rs.take (q + 1)) = m.rs.take q ++ [y] := by
            have he : m.rs[q] = y := by have := Hy.out; rw [List.getElem?_eq_getElem hql] at this; exact Option.some.inj this
            rw [List.take_succ_eq_append_getElem hql, he]
          have Htk : Hid (m.rs.take (q + 1) = m.rs.take q ++ [y]) := htake
          clear hy hown hn hxs htake
          by_cases h4' : y.a = 4
          · have h4b : (y.a == 4) = true := by simp [h4']
            have H4y : Hid (y.a = 4) := h4'
            clear h4'
            go_wp2_with (at_builtin; refine wpList_append_own _ rfl _ _ 48 rfl (wo.heap.size + 1) 68 iw _ 7 72 Tryz.underlying48 hiw hz0 hz1 hz2 rfl (by decide) _ n _ rfl (by exact owns_below HO.out (bl_alloc (Below.refl _ _) _)) ⟨_, 0, none⟩ 1 1 (wantOf y).cells rfl rfl (W.new_cells _ _ (by simp) _ _ _ rfl) (W.cellsR_one _) (by unfold maxLen; omega) (by omega) (by simp; omega) ?_; intro v' w3 ho hg hnn; have B3 : Hid (Below (wo.alloc (.cells #[.string m.nm, .bool m.up, .int .i64 m.ck, .bool m.kn, .int .i64 m.se, .slice (some ⟨g1, 0, none⟩) m.ws.length m.ws.length, .slice (some ⟨g2, 0, none⟩) m.rs.length m.rs.length, .slice (some ⟨g3, 0, none⟩) m.qs.length m.qs.length, .slice (some ⟨g4, 0, none⟩) m.gs.length m.gs.length] 52)).heap.size (wo.alloc (.cells #[.string m.nm, .bool m.up, .int .i64 m.ck, .bool m.kn, .int .i64 m.se, .slice (some ⟨g1, 0, none⟩) m.ws.length m.ws.length, .slice (some ⟨g2, 0, none⟩) m.rs.length m.rs.length, .slice (some ⟨g3, 0, none⟩) m.qs.length m.qs.length, .slice (some ⟨g4, 0, none⟩) m.gs.length m.gs.length] 52)) w3) := Below.grown (bl_alloc HV.out _) hg (by simp; omega) (fun z hz => by have := owns_ge HO.out z hz; simpa using this); have km3 := box9 B3.out; have f7 := ((HL0.out.keep (bl_trans B0.out B3.out)).r2.at Hy.out).2.2.2.2.2.2.2.1; simp only [Nat.zero_add] at f7; have HO3 : Hid (w3.ownsRow (wo.heap.size + 1) 68 7 v' (n + 1) (xs ++ (wantOf y).cells)) := ho; clear ho hg hnn)
            refine ⟨⟨q + 1, by omega, by go_num, ?_, ?_, B3.out⟩, by simp [intOf]; omega⟩
            · rw [Htk.out, List.map_append, List.length_append, P.flatW_append, ← Hn.out, ← Hx.out]
              have e2 : W.flatR (List.map wantOf [y]) = (wantOf y).cells := by simp [W.flatR]
              rw [e2]
              exact HO3.out
            · intro r hr
              rw [Htk.out] at hr
              rcases List.mem_append.1 hr with h | h
              · exact H4s.out r h
              · obtain rfl := List.mem_singleton.1 h
                exact H4y.out
          · have h4b : (y.a == 4) = false := by simpa using h4'
            have H4y : Hid (¬ y.a = 4) := h4'
            clear h4'
            go_wp2_with (at_builtin; refine wpList_append_own _ rfl _ _ 48 rfl (wo.heap.size + 1) 68 iw _ 7 72 Tryz.underlying48 hiw hz0 hz1 hz2 rfl (by decide) _ n _ rfl (by exact owns_below HO.out (bl_alloc (Below.refl _ _) _)) ⟨_, 0, none⟩ 1 1 (wantOf y).cells rfl rfl (W.new_cells _ _ (by simp) _ _ _ rfl) (W.cellsR_one _) (by unfold maxLen; omega) (by omega) (by simp; omega) ?_; intro v' w3 ho hg hnn; have B3 : Hid (Below (wo.alloc (.cells #[.string m.nm, .bool m.up, .int .i64 m.ck, .bool m.kn, .int .i64 m.se, .slice (some ⟨g1, 0, none⟩) m.ws.length m.ws.length, .slice (some ⟨g2, 0, none⟩) m.rs.length m.rs.length, .slice (some ⟨g3, 0, none⟩) m.qs.length m.qs.length, .slice (some ⟨g4, 0, none⟩) m.gs.length m.gs.length] 52)).heap.size (wo.alloc (.cells #[.string m.nm, .bool m.up, .int .i64 m.ck, .bool m.kn, .int .i64 m.se, .slice (some ⟨g1, 0, none⟩) m.ws.length m.ws.length, .slice (some ⟨g2, 0, none⟩) m.rs.length m.rs.length, .slice (some ⟨g3, 0, none⟩) m.qs.length m.qs.length, .slice (some ⟨g4, 0, none⟩) m.gs.length m.gs.length] 52)) w3) := Below.grown (bl_alloc HV.out _) hg (by simp; omega) (fun z hz => by have := owns_ge HO.out z hz; simpa using this); have km3 := box9 B3.out; have f7 := ((HL0.out.keep (bl_trans B0.out B3.out)).r2.at Hy.out).2.2.2.2.2.2.2.1; simp only [Nat.zero_add] at f7; clear ho hg hnn)
            go_ret
            exact ⟨⟨false, rfl, ⟨fun h => (by cases h), fun h => (HNo.out (fun hs => H4y.out (hs.2.1 y (List.mem_of_getElem? Hy.out))) h).elim⟩⟩, bl_trans Hb0.out (bl_trans B0.out B3.out)⟩
        have e : q = m.rs.length := by omega
        subst e
        rw [List.take_of_length_le (Nat.le_refl _)] at hown H4s
        obtain ⟨l7, hl7⟩ : ∃ l, l = m.rs.map wantOf := ⟨_, rfl⟩
        rw [← hl7] at hown
        have H7 : Hid (l7 = m.rs.map wantOf) := hl7
        have hlen7 : l7.length ≤ 1048576 := by rw [hl7, List.length_map]; omega
        obtain ⟨a7, p7, hs7, hc7, hG7⟩ := P.sl_gv hown
        subst hs7
        have HG7 : Hid (W.Gv wr a7 l7) := hG7
        clear hown hG7 hc7 hl7
        obtain ⟨v, hv⟩ : ∃ v, m.up = v := ⟨_, rfl⟩
        have Hv : Hid (m.up = v) := hv
        rw [hv] at km
        clear hv
        cases v
        · go_wp2_with fail
          go_ret
          exact ⟨⟨false, rfl, ⟨fun h => (by cases h), fun h => (HNo.out (fun hs => by have := hs.1; rw [Hv.out] at this; cases this) h).elim⟩⟩, bl_trans Hb0.out BV.out⟩
        go_wp2_with fail
        refine (l6Same_any a7 a5 p7 p5 l7 ls _ HG7.out (gv_of HG.out BV.out) hlen7 hlsl).mono ?_
        rintro e w4 ⟨⟨q, rfl, hq⟩, c4⟩
        have Hq : Hid (q = true ↔ m.rs.map wantOf = wantsAt ps m.nm) := by rw [← H7.out, ← Hls.out]; exact hq
        have B4 : Hid (Below (w.alloc (.cells #[.int .i64 t, .slice (some ⟨b1, 0, none⟩) gs.length gs.length, .slice (some ⟨b2, 0, none⟩) ps.length ps.length, .slice (some ⟨b3, 0, none⟩) rs.length rs.length, .slice (some ⟨b4, 0, none⟩) fs.length fs.length] 30)).heap.size (w.alloc (.cells #[.int .i64 t, .slice (some ⟨b1, 0, none⟩) gs.length gs.length, .slice (some ⟨b2, 0, none⟩) ps.length ps.length, .slice (some ⟨b3, 0, none⟩) rs.length rs.length, .slice (some ⟨b4, 0, none⟩) fs.length fs.length] 30)) w4) := bl_trans BV.out c4
        clear hq c4
        cases q
        · go_wp2_with fail
          go_ret
          exact ⟨⟨false, rfl, ⟨fun h => (by cases h), fun h => (HNo.out (fun hs => by have := Hq.out.2 hs.2.2; cases this) h).elim⟩⟩, bl_trans Hb0.out B4.out⟩
        · go_wp2_with fail
          refine ⟨⟨k + 1, by omega, by go_num, (fun j r hj hr => ?_), B4.out⟩, by simp [intOf]; omega⟩
          by_cases e : j = k
          · subst e
            have h1 := Hr.out
            rw [h1] at hr
            cases hr
            exact ⟨Hv.out, H4s.out, Hq.out.1 (by first | rfl | trivial)⟩
          · exact HN.out j r (by omega) hr
end Go.Proofs.YtdkjhonaafadjaaGreat
/- all, at mates, of MateSettled's own function. -/
namespace Go.Proofs.YtdkjhonaafadjaaGreat.Mt
open Go.RowKit
set_option linter.unusedVariables false

set_option maxRecDepth 4000 in
set_option maxHeartbeats 1000000 in
theorem allSettled (bk : Nat) (P : MRow → Bool) (b off cap : Nat) (rs : List MRow) (w : World) (hR : RowsAt w b off rs) (l1 : b < w.heap.size) (hl : rs.length ≤ 1048576)
    (hF : ∀ r ∈ rs, ∀ x, Below w.heap.size w x → Calls Tryz.prog 51 #[.agg #[.string r.m.nm, .bool r.m.up, .int .i64 r.m.ck, .bool r.m.kn, .int .i64 r.m.se, .slice r.a1 r.m.ws.length r.c1, .slice r.a2 r.m.rs.length r.c2, .slice r.a3 r.m.qs.length r.c3, .slice r.a4 r.m.gs.length r.c4], .pointer (some ⟨bk, 0, none⟩)] x fun e x' => e = .returned (.bool (P r)) ∧ Below x.heap.size x x') :
    Calls Tryz.prog 50 #[.slice (some ⟨b, off, none⟩) rs.length cap, .func (.func 51) #[] #[.pointer (some ⟨bk, 0, none⟩)]] w fun e w' => (∃ q : Bool, e = .returned (.bool q) ∧ (q = true ↔ ∀ r ∈ rs, P r = true)) ∧ Below w.heap.size w w' := by
  have HF : Hid _ := hF
  clear hF
  go_enter Tryz.func50, Tryz.ntmps50
  go_wp2
  go_loopw [9] (fun i wx => ∃ (k : Nat), k ≤ rs.length ∧ i = .int .i64 k ∧ Hid (∀ j r, j < k → rs[j]? = some r → P r = true) ∧ Below w.heap.size w wx) (fun i _ => rs.length - (intOf i).toNat)
  case atStart => exact ⟨0, Nat.zero_le _, rfl, fun j r h => by omega, Below.refl _ _⟩
  case round =>
    obtain ⟨k, hk, rfl, Ha, hB⟩ := hrel
    by_cases hlt : k < rs.length
    · obtain ⟨r, hr⟩ : ∃ r, rs[k]? = some r := ⟨rs[k], List.getElem?_eq_getElem hlt⟩
      have Hr : Hid _ := hr
      clear hr
      obtain ⟨c0, c1, c2, c3, c4, c5, c6, c7, c8⟩ := (hR.keep l1 hB).at Hr.out
      go_wp2_with fail
      refine (HF.out r (List.mem_of_getElem? Hr.out) _ (bl_alloc hB _)).mono ?_
      rintro e w1 ⟨rfl, hb⟩
      have hB1 := bl_trans (bl_alloc hB _) hb
      have Hb1 : Hid _ := hB1
      clear hB hb hB1
      cases hP : P r
      · go_wp2
        go_ret
        exact ⟨⟨false, rfl, ⟨fun h => (by cases h), fun h => by have := h r (List.mem_of_getElem? Hr.out); rw [hP] at this; cases this⟩⟩, Hb1.out⟩
      · go_wp2
        exact ⟨⟨k + 1, by omega, by go_num, (fun j q hj hq => by
          by_cases e : j = k
          · subst e; have hh := Hr.out; rw [hh] at hq; cases hq; exact hP
          · exact Ha.out j q (by omega) hq), Hb1.out⟩, by simp [intOf]; omega⟩
    · go_wp2
      go_ret
      exact ⟨⟨true, rfl, ⟨fun _ r hr => by
        obtain ⟨j, hj⟩ := List.getElem?_of_mem hr
        have hjl : j < rs.length := (List.getElem?_eq_some_iff.1 hj).1
        exact Ha.out j r (by omega) hj, fun _ => rfl⟩⟩, hB⟩
end Go.Proofs.YtdkjhonaafadjaaGreat.Mt
/- Places as they lie: a slice as it is. -/
namespace Go.Proofs.YtdkjhonaafadjaaGreat.Pr
open Go.RowKit
set_option linter.unusedVariables false

structure PlRaw where
  b : ByteArray
  s : Int
  a : Option Addr
  n : Nat
  c : Nat
def PlRaw.cells (r : PlRaw) : List Value := [.string r.b, .int .i64 r.s, .slice r.a r.n r.c]
def RowsAt (w : World) (b off : Nat) (rs : List PlRaw) : Prop := ∀ k r, rs[k]? = some r → w.rangeAt b (off + k * 3) r.cells
theorem RowsAt.keep {w w' : World} {b off : Nat} {rs : List PlRaw} (h : RowsAt w b off rs) (hb : b < w.heap.size) (hB : Below w.heap.size w w') : RowsAt w' b off rs :=
  fun k r hk j v hj => (hB.cell (p := ⟨b, off + k * 3 + j, none⟩) hb).trans (h k r hk j v hj)
theorem RowsAt.at {w : World} {b off : Nat} {rs : List PlRaw} (h : RowsAt w b off rs) {k : Nat} {r : PlRaw} (hk : rs[k]? = some r) :
    w.cell? ⟨b, off + k * 3, none⟩ = some (.string r.b) ∧ w.cell? ⟨b, off + k * 3 + 1, none⟩ = some (.int .i64 r.s) ∧ w.cell? ⟨b, off + k * 3 + 2, none⟩ = some (.slice r.a r.n r.c) :=
  ⟨h k r hk 0 _ rfl, h k r hk 1 _ rfl, h k r hk 2 _ rfl⟩
def raw (r : P.PlaceD) : PlRaw := ⟨r.b, r.s, r.a, r.ws.length, r.c⟩
theorem raw_rows {w : World} {b off : Nat} {ps : List P.PlaceD} (h : P.RowsAt w b off ps) : RowsAt w b off (ps.map raw) := by
  intro k r hk
  rw [List.getElem?_map] at hk
  obtain ⟨p, hp, rfl⟩ := Option.map_eq_some_iff.1 hk
  exact h k p hp
end Go.Proofs.YtdkjhonaafadjaaGreat.Pr
/- all and ascends, at places, raw. -/
namespace Go.Proofs.YtdkjhonaafadjaaGreat.Pr
open Go.RowKit
set_option linter.unusedVariables false

theorem name_any (r : PlRaw) (w : World) :
    Calls Tryz.prog 49 #[.agg #[.string r.b, .int .i64 r.s, .slice r.a r.n r.c]] w fun e w' => e = .returned (.string r.b) ∧ Below w.heap.size w w' := by
  go_enter Tryz.func49, Tryz.ntmps49
  go_wp2
  go_ret
  exact ⟨rfl, by repeat (first | exact Below.refl _ _ | refine bl_alloc ?_ _)⟩
/-- Ascending by their names, the first n. -/
def AscN (rs : List PlRaw) (n : Nat) : Prop := ∀ j q r, j + 1 < n → rs[j]? = some q → rs[j + 1]? = some r → Op.bytesLess q.b.toList r.b.toList = true
theorem AscN.step {rs : List PlRaw} {k : Nat} {q r : PlRaw} (h : AscN rs (k + 1)) (hq : rs[k]? = some q) (hr : rs[k + 1]? = some r) (hs : Op.bytesLess q.b.toList r.b.toList = true) : AscN rs (k + 1 + 1) := by
  intro j q' r' hj hq' hr'
  by_cases e : j = k
  · subst e; rw [hq] at hq'; rw [hr] at hr'; cases hq'; cases hr'; exact hs
  · exact h j q' r' (by omega) hq' hr'
theorem keepAsc {x w' : World} {b off m : Nat} {rs : List PlRaw} {r q : PlRaw} (hk : rs[m + 1]? = some r) (hq : rs[m]? = some q) (h1 : RowsAt x b off rs) (l1 : b < x.heap.size) (hb : Below x.heap.size x w') :
    Below x.heap.size x w' ∧ (w'.cell? ⟨b, off + (m + 1) * 3, none⟩ = some (.string r.b) ∧ w'.cell? ⟨b, off + (m + 1) * 3 + 1, none⟩ = some (.int .i64 r.s) ∧ w'.cell? ⟨b, off + (m + 1) * 3 + 2, none⟩ = some (.slice r.a r.n r.c)) ∧ (w'.cell? ⟨b, off + m * 3, none⟩ = some (.string q.b) ∧ w'.cell? ⟨b, off + m * 3 + 1, none⟩ = some (.int .i64 q.s) ∧ w'.cell? ⟨b, off + m * 3 + 2, none⟩ = some (.slice q.a q.n q.c)) := ⟨hb, (h1.keep l1 hb).at hk, (h1.keep l1 hb).at hq⟩

set_option maxRecDepth 4000 in
set_option maxHeartbeats 2000000 in
theorem ascends (b off cap : Nat) (rs : List PlRaw) (w : World) (hR : RowsAt w b off rs) (l1 : b < w.heap.size) (hl : rs.length ≤ 1048576) :
    Calls Tryz.prog 130 #[.slice (some ⟨b, off, none⟩) rs.length cap, .func (.func 49) #[] #[]] w fun e w' => (∃ q : Bool, e = .returned (.bool q) ∧ (q = true ↔ AscN rs rs.length)) ∧ Below w.heap.size w w' := by
  go_enter Tryz.func130, Tryz.ntmps130
  go_wp2
  go_loopw [5] (fun i wx => ∃ (m : Nat), m ≤ rs.length ∧ i = .int .i64 ((m : Int) + 1) ∧ Hid (AscN rs (m + 1)) ∧ Below w.heap.size w wx) (fun i _ => rs.length + 1 - (intOf i).toNat)
  case atStart => exact ⟨0, Nat.zero_le _, rfl, (fun j q r hj _ _ => by omega), Below.refl _ _⟩
  case round =>
    obtain ⟨m, hk, rfl, Ha, hB⟩ := hrel
    by_cases hlt : m + 1 < rs.length
    · obtain ⟨r, hr⟩ : ∃ r, rs[m + 1]? = some r := ⟨rs[m + 1], List.getElem?_eq_getElem hlt⟩
      obtain ⟨q, hq⟩ : ∃ q, rs[m]? = some q := ⟨rs[m], List.getElem?_eq_getElem (by omega)⟩
      have Hr : Hid _ := hr
      have Hq : Hid _ := hq
      clear hr hq
      have g1 := hR.keep l1 hB
      have z1 : b < wr.heap.size := Nat.lt_of_lt_of_le l1 hB.size
      have i0 : (0 : Int) ≤ (m : Int) := by omega
      have i1 : (m : Int) + 1 < (rs.length : Int) := by omega
      have i2 : (m : Int) < (rs.length : Int) := by omega
      have i3 : (0 : Int) ≤ (m : Int) + 1 := by omega
      have iw : IntKind.i64.wrap (m : Int) = (m : Int) := by rw [IntKind.wrap_i64]; omega
      cases hasc : Op.bytesLess q.b.toList r.b.toList
      · go_wp2_with fail
        go_region_held3 (fun w' => Below wr.heap.size wr w' ∧ (w'.cell? ⟨b, off + (m + 1) * 3, none⟩ = some (.string r.b) ∧ w'.cell? ⟨b, off + (m + 1) * 3 + 1, none⟩ = some (.int .i64 r.s) ∧ w'.cell? ⟨b, off + (m + 1) * 3 + 2, none⟩ = some (.slice r.a r.n r.c)) ∧ (w'.cell? ⟨b, off + m * 3, none⟩ = some (.string q.b) ∧ w'.cell? ⟨b, off + m * 3 + 1, none⟩ = some (.int .i64 q.s) ∧ w'.cell? ⟨b, off + m * 3 + 2, none⟩ = some (.slice q.a q.n q.c)))
          (first | exact keepAsc Hr.out Hq.out g1 z1 (bl_drew (Below.refl _ _)) | exact keepAsc Hr.out Hq.out g1 z1 (bl_trans (bl_drew (Below.refl _ _)) hx) | exact keepAsc Hr.out Hq.out g1 z1 (bl_trans (bl_trans (bl_drew (Below.refl _ _)) hx) hy))
          (first | (go_at_call 49; refine (name_any q _).mono ?_; rintro e w' ⟨rfl, hx⟩) | (go_at_call 49; refine (name_any r _).mono ?_; rintro e w'' ⟨rfl, hy⟩))
        have y1 := bl_trans (bl_trans (bl_drew (Below.refl _ wr)) hx) hy
        have Hb1 : Hid _ := bl_trans hB y1
        clear hx hy y1 hB g1
        go_wp2
        go_ret
        exact ⟨⟨false, rfl, ⟨fun h => (by cases h), fun h => by have := h m q r (by omega) Hq.out Hr.out; rw [hasc] at this; cases this⟩⟩, Hb1.out⟩
      · go_wp2_with fail
        go_region_held3 (fun w' => Below wr.heap.size wr w' ∧ (w'.cell? ⟨b, off + (m + 1) * 3, none⟩ = some (.string r.b) ∧ w'.cell? ⟨b, off + (m + 1) * 3 + 1, none⟩ = some (.int .i64 r.s) ∧ w'.cell? ⟨b, off + (m + 1) * 3 + 2, none⟩ = some (.slice r.a r.n r.c)) ∧ (w'.cell? ⟨b, off + m * 3, none⟩ = some (.string q.b) ∧ w'.cell? ⟨b, off + m * 3 + 1, none⟩ = some (.int .i64 q.s) ∧ w'.cell? ⟨b, off + m * 3 + 2, none⟩ = some (.slice q.a q.n q.c)))
          (first | exact keepAsc Hr.out Hq.out g1 z1 (bl_drew (Below.refl _ _)) | exact keepAsc Hr.out Hq.out g1 z1 (bl_trans (bl_drew (Below.refl _ _)) hx) | exact keepAsc Hr.out Hq.out g1 z1 (bl_trans (bl_trans (bl_drew (Below.refl _ _)) hx) hy))
          (first | (go_at_call 49; refine (name_any q _).mono ?_; rintro e w' ⟨rfl, hx⟩) | (go_at_call 49; refine (name_any r _).mono ?_; rintro e w'' ⟨rfl, hy⟩))
        have y1 := bl_trans (bl_trans (bl_drew (Below.refl _ wr)) hx) hy
        have Hb1 : Hid _ := bl_trans hB y1
        clear hx hy y1 hB g1
        go_wp2
        exact ⟨⟨m + 1, by omega, by go_num, Ha.out.step Hq.out Hr.out hasc, Hb1.out⟩, by simp [intOf]; omega⟩
    · go_wp2
      go_ret
      exact ⟨⟨true, rfl, ⟨fun _ j q r hj hq hr => Ha.out j q r (by omega) hq hr, fun _ => rfl⟩⟩, hB⟩
end Go.Proofs.YtdkjhonaafadjaaGreat.Pr
/- Lists in maps by their names: places, raw. -/
namespace Go.Proofs.YtdkjhonaafadjaaGreat.Pr
open Go.RowKit Go.Maps Go.WideMaps
set_option linter.unusedVariables false

theorem lawV : Keyed Tryz.prog 9 := string_keyed Tryz.underlying9
def RVL (xs : List Value) : Option (DataW PlRaw × List MemPlace) :=
  match xs with
  | [.string b', .int .i64 s', .slice a' n' c'] => some (.held ⟨b', s', a', n', c'⟩, [])
  | _ => none
/-- How an element of the map is read. -/
def RV (v : Value) : Option (DataW PlRaw × List MemPlace) :=
  match v with
  | .agg xs => RVL xs.toList
  | _ => none
theorem RV_inv {v : Value} {r : PlRaw} {ps : List MemPlace} (h : RV v = some (.held r, ps)) : v = .agg #[.string r.b, .int .i64 r.s, .slice r.a r.n r.c] := by
  unfold RV at h
  split at h
  · rename_i xs
    obtain ⟨l⟩ := xs
    simp only at h
    unfold RVL at h
    split at h
    · simp only [Option.some.injEq, Prod.mk.injEq, DataW.held.injEq] at h
      obtain ⟨rfl, -⟩ := h
      rfl
    · cases h
  · cases h
def keyV (r : PlRaw) : List UInt8 := r.b.data.toList
def dec (rs : List PlRaw) : DataW PlRaw := Ord.dec keyV rs
def Srt (rs : List PlRaw) : Prop := Ord.Srt keyV rs
theorem srt_asc {rs : List PlRaw} (h : AscN rs rs.length) : Srt rs :=
  Ord.srt_of keyV rs (fun j q r hq hr => by
    have h1 := h j q r (by have := (List.getElem?_eq_some_iff.1 hr).1; omega) hq hr
    rw [Ord.less_before, ByteArray.toList_eq, ByteArray.toList_eq] at h1
    exact h1)
theorem mapv_below {x y : World} {b n : Nat} {D : DataW PlRaw} (h : x.ownsMap Tryz.prog 9 RV b n D) (hb : Below x.heap.size x y) : y.ownsMap Tryz.prog 9 RV b n D :=
  h.kept (row := none) ⟨hb.os, hb.tape, hb.output, hb.size, fun k hk _ => hb.block k hk⟩ (by simp)
theorem mapv_step {w : World} (b n : Nat) (rs : List PlRaw) (r : PlRaw) (hown : w.ownsMap Tryz.prog 9 RV b n (dec rs)) (hn : n < maxLen) (hs : r.b.size ≤ maxLen) :
    ∃ w', Sem.run Tryz.prog (Instr.mapUpdate 77 (.map (some b)) (.string r.b) (.agg #[.string r.b, .int .i64 r.s, .slice r.a r.n r.c])) w = .ok () w' ∧ w'.ownsMap Tryz.prog 9 RV b (n + 1) (dec (Ord.ins keyV r rs)) ∧ w.grownBy w' (some b) := by
  have h := hown.update lawV (t := 77) (e := 75) Tryz.underlying77 hn (keyOf_string_mk Tryz.underlying9 hs) (val := .agg #[.string r.b, .int .i64 r.s, .slice r.a r.n r.c]) (d := .held r) (ps := []) rfl
  have e : (dec rs).put (Lit.string r.b.data.toList) (.held r) = dec (Ord.ins keyV r rs) := Ord.dec_put keyV r rs
  rw [e] at h
  exact h
theorem boxV {wr w' : World} {r : PlRaw} (hb : Below (wr.alloc (.cells #[.string r.b, .int .i64 r.s, .slice r.a r.n r.c] 75)).heap.size (wr.alloc (.cells #[.string r.b, .int .i64 r.s, .slice r.a r.n r.c] 75)) w') : w'.cell? ⟨wr.heap.size, 0, none⟩ = some (.string r.b) ∧ w'.cell? ⟨wr.heap.size, 1, none⟩ = some (.int .i64 r.s) ∧ w'.cell? ⟨wr.heap.size, 2, none⟩ = some (.slice r.a r.n r.c) := by
  have hk := box_keep hb
  exact ⟨by rw [hk 0]; simp [go_sem], by rw [hk 1]; simp [go_sem], by rw [hk 2]; simp [go_sem]⟩
theorem boxV_grown {wr w' w2 : World} {r : PlRaw} {B : Nat} (h : w'.cell? ⟨wr.heap.size, 0, none⟩ = some (.string r.b) ∧ w'.cell? ⟨wr.heap.size, 1, none⟩ = some (.int .i64 r.s) ∧ w'.cell? ⟨wr.heap.size, 2, none⟩ = some (.slice r.a r.n r.c)) (hg : w'.grownBy w2 (some B)) (hne : wr.heap.size ≠ B) : w2.cell? ⟨wr.heap.size, 0, none⟩ = some (.string r.b) ∧ w2.cell? ⟨wr.heap.size, 1, none⟩ = some (.int .i64 r.s) ∧ w2.cell? ⟨wr.heap.size, 2, none⟩ = some (.slice r.a r.n r.c) :=
  ⟨hg.cell h.1 (by simpa using hne), hg.cell h.2.1 (by simpa using hne), hg.cell h.2.2 (by simpa using hne)⟩
theorem make_mapV (n : Nat) (w : World) : Sem.run Tryz.prog (Instr.makeMap 77 (some (.int .i64 (n : Int)))) w = .ok (.map (some w.heap.size)) (w.alloc (.map #[] 0)) := by
  kernel_rfl

set_option maxRecDepth 4000 in
set_option maxHeartbeats 2000000 in
theorem byNameV (b off cap : Nat) (rs : List PlRaw) (w : World) (hR : RowsAt w b off rs) (l1 : b < w.heap.size) (hfit : ∀ r ∈ rs, r.b.size ≤ maxLen) (hl : rs.length ≤ 1048576) (hs : Srt rs) :
    Calls Tryz.prog 48 #[.slice (some ⟨b, off, none⟩) rs.length cap, .func (.func 49) #[] #[]] w fun e w' => e = .returned (.map (some w.heap.size)) ∧ w'.ownsMap Tryz.prog 9 RV w.heap.size rs.length (dec rs) ∧ Below w.heap.size w w' := by
  have hmm := make_mapV rs.length
  have HS : Hid (Srt rs) := hs
  clear hs
  go_enter Tryz.func48, Tryz.ntmps48
  go_wp2
  clear hmm
  go_loopw [13] (fun i wx => ∃ (k : Nat), k ≤ rs.length ∧ i = .int .i64 k ∧ Hid (wx.ownsMap Tryz.prog 9 RV w.heap.size k (dec (rs.take k))) ∧ Below w.heap.size w wx) (fun i _ => rs.length - (intOf i).toNat)
  case atStart => exact ⟨0, Nat.zero_le _, rfl, World.ownsMap_made _ _ _ _, bl_alloc (Below.refl _ _) _⟩
  case round =>
    obtain ⟨k, hk, rfl, Ho, hB⟩ := hrel
    by_cases hlt : k < rs.length
    · obtain ⟨r, hr⟩ : ∃ r, rs[k]? = some r := ⟨rs[k], List.getElem?_eq_getElem hlt⟩
      have Hr : Hid _ := hr
      have hf1 := hfit r (List.mem_of_getElem? hr)
      obtain ⟨c0, c1, c2⟩ := (hR.keep l1 hB).at hr
      clear hr
      have hne : wr.heap.size ≠ w.heap.size := by have := Ho.out.lt; omega
      go_wp2_with fail
      go_region_held3 (fun w' => w'.cell? ⟨wr.heap.size, 0, none⟩ = some (.string r.b) ∧ w'.cell? ⟨wr.heap.size, 1, none⟩ = some (.int .i64 r.s) ∧ w'.cell? ⟨wr.heap.size, 2, none⟩ = some (.slice r.a r.n r.c))
        (first | exact boxV (bl_drew (Below.refl _ _)) | exact boxV (bl_trans (bl_drew (Below.refl _ _)) hx) | exact boxV_grown (boxV (bl_trans (bl_drew (Below.refl _ _)) hx)) hg2 hne)
        (first | (go_at_call 49; refine (name_any r _).mono ?_; rintro e w' ⟨rfl, hx⟩) | (have hms := mapv_step w.heap.size k (rs.take k) r (mapv_below (mapv_below Ho.out (bl_drew (bl_alloc (Below.refl _ _) _))) hx) (by unfold maxLen; omega) hf1; obtain ⟨w2, hrun, ho2, hg2⟩ := hms; go_simp))
      have y1 := bl_trans (bl_trans hB (bl_alloc (Below.refl _ wr) _)) (bl_trans (bl_drew (Below.refl _ _)) hx)
      have Y2 : Hid (Below w.heap.size w w2) := Below.grown y1 hg2 y1.size (fun j hj => by cases hj; exact Nat.le_refl _)
      have O2 : Hid (w2.ownsMap Tryz.prog 9 RV w.heap.size (k + 1) (dec (rs.take (k + 1)))) := by
        show World.ownsMap _ _ _ _ _ _ _
        rw [← Ord.take_last keyV HS.out Hr.out]; exact ho2
      clear y1 hx hg2 ho2 hrun
      go_wp2
      exact ⟨⟨k + 1, by omega, by go_num, O2.out, Y2.out⟩, by simp [intOf]; omega⟩
    · go_wp2
      go_ret
      have e : k = rs.length := by omega
      subst e
      rw [List.take_of_length_le (Nat.le_refl _)] at Ho
      exact ⟨rfl, Ho.out, hB⟩
theorem zeroV (w : World) : (zeroValue 75).run Tryz.prog w = .ok (.agg #[.string ⟨#[]⟩, .int .i64 0, .slice none 0 0]) w := by kernel_rfl
/-- 'x, ok := m[k]'. -/
theorem lookV {w : World} (b n : Nat) (rs : List PlRaw) (hown : w.ownsMap Tryz.prog 9 RV b n (dec rs)) (hs : Srt rs) (s : ByteArray) (hz : s.size ≤ maxLen) :
    (∃ r ∈ rs, r.b = s ∧ Sem.run Tryz.prog (Instr.lookup 77 (.map (some b)) (.string s) true) w = .ok (.tuple #[.agg #[.string r.b, .int .i64 r.s, .slice r.a r.n r.c], .bool true]) w) ∨ ((∀ r ∈ rs, r.b ≠ s) ∧ Sem.run Tryz.prog (Instr.lookup 77 (.map (some b)) (.string s) true) w = .ok (.tuple #[.agg #[.string ⟨#[]⟩, .int .i64 0, .slice none 0 0], .bool false]) w) := by
  obtain ⟨v, ps, hrun, hv⟩ := hown.look_ok lawV (t := 77) (e := 75) Tryz.underlying77 (zeroV w) (zd := .held ⟨⟨#[]⟩, 0, none, 0, 0⟩) (zp := []) rfl (keyOf_string_mk Tryz.underlying9 hz)
  have hh : has (dec rs) (Lit.string s.data.toList) = rs.any (fun y => keyV y == s.data.toList) := Ord.dec_has keyV _ rs
  rw [hh] at hrun
  cases ha : rs.any (fun y => keyV y == s.data.toList)
  · right
    refine ⟨fun r hr e => ?_, ?_⟩
    · have := List.any_eq_false.1 ha r hr
      rw [← e] at this
      simp [keyV] at this
    · rw [show (dec rs).atKey (Lit.string s.data.toList) (.held ⟨⟨#[]⟩, 0, none, 0, 0⟩) = .held ⟨⟨#[]⟩, 0, none, 0, 0⟩ from Ord.dec_none keyV ha _] at hv
      rw [RV_inv hv, ha] at hrun
      exact hrun
  · left
    obtain ⟨r, hr, he⟩ := List.any_eq_true.1 ha
    have e1 : r.b.data.toList = s.data.toList := by simpa [keyV] using he
    have e2 : r.b = s := Ord.ba_ext e1
    refine ⟨r, hr, e2, ?_⟩
    rw [show Lit.string s.data.toList = Lit.string (keyV r) from by rw [← e1]; rfl, show (dec rs).atKey (Lit.string (keyV r)) (.held ⟨⟨#[]⟩, 0, none, 0, 0⟩) = .held r from Ord.dec_at keyV hs hr _] at hv
    rw [RV_inv hv, ha] at hrun
    exact hrun
/-- 'm[k]'. -/
theorem look1V {w : World} (b n : Nat) (rs : List PlRaw) (hown : w.ownsMap Tryz.prog 9 RV b n (dec rs)) (hs : Srt rs) (s : ByteArray) (hz : s.size ≤ maxLen) :
    (∃ r ∈ rs, r.b = s ∧ Sem.run Tryz.prog (Instr.lookup 77 (.map (some b)) (.string s) false) w = .ok (.agg #[.string r.b, .int .i64 r.s, .slice r.a r.n r.c]) w) ∨ ((∀ r ∈ rs, r.b ≠ s) ∧ Sem.run Tryz.prog (Instr.lookup 77 (.map (some b)) (.string s) false) w = .ok (.agg #[.string ⟨#[]⟩, .int .i64 0, .slice none 0 0]) w) := by
  obtain ⟨v, ps, hrun, hv⟩ := hown.lookup lawV (t := 77) (e := 75) Tryz.underlying77 (zeroV w) (zd := .held ⟨⟨#[]⟩, 0, none, 0, 0⟩) (zp := []) rfl (keyOf_string_mk Tryz.underlying9 hz)
  cases ha : rs.any (fun y => keyV y == s.data.toList)
  · right
    refine ⟨fun r hr e => ?_, ?_⟩
    · have := List.any_eq_false.1 ha r hr
      rw [← e] at this
      simp [keyV] at this
    · rw [show (dec rs).atKey (Lit.string s.data.toList) (.held ⟨⟨#[]⟩, 0, none, 0, 0⟩) = .held ⟨⟨#[]⟩, 0, none, 0, 0⟩ from Ord.dec_none keyV ha _] at hv
      rw [RV_inv hv] at hrun
      exact hrun
  · left
    obtain ⟨r, hr, he⟩ := List.any_eq_true.1 ha
    have e1 : r.b.data.toList = s.data.toList := by simpa [keyV] using he
    have e2 : r.b = s := Ord.ba_ext e1
    refine ⟨r, hr, e2, ?_⟩
    rw [show Lit.string s.data.toList = Lit.string (keyV r) from by rw [← e1]; rfl, show (dec rs).atKey (Lit.string (keyV r)) (.held ⟨⟨#[]⟩, 0, none, 0, 0⟩) = .held r from Ord.dec_at keyV hs hr _] at hv
    rw [RV_inv hv] at hrun
    exact hrun
end Go.Proofs.YtdkjhonaafadjaaGreat.Pr
/- MateLandOk: the program's side. -/
namespace Go.Proofs.YtdkjhonaafadjaaGreat.P
open Go.RowKit
set_option linter.unusedVariables false

theorem build_land (w : World) : Sem.run Tryz.prog (Instr.buildSlice 136 4 #[(0, .func (.func 104) #[] #[]), (1, .func (.func 105) #[] #[]), (2, .func (.func 106) #[] #[]), (3, .func (.func 107) #[] #[])]) w = .ok (.slice (some ⟨w.heap.size, 0, none⟩) 4 4) (w.alloc (.cells #[.func (.func 104) #[] #[], .func (.func 105) #[] #[], .func (.func 106) #[] #[], .func (.func 107) #[] #[]] 60)) := by kernel_rfl
theorem saysL_no {t : Int} {gs : List G.GrantD} {ps : List PlaceD} (h : LandSay t gs ps → False) : SaysL false t gs ps := ⟨fun h' => (by cases h'), fun h' => (h h').elim⟩
theorem three_land {w w' : World} {t : Int} {gs : List G.GrantD} {ps : List PlaceD} {b1 b2 : Nat} (hb : Below ((((w.alloc (.cells #[.int .i64 t, .slice (some ⟨b1, 0, none⟩) gs.length gs.length, .slice (some ⟨b2, 0, none⟩) ps.length ps.length] 27))).alloc (.cells #[.func (.func 104) #[] #[], .func (.func 105) #[] #[], .func (.func 106) #[] #[], .func (.func 107) #[] #[]] 60)).alloc (.cells #[.int .i64 t, .slice (some ⟨b1, 0, none⟩) gs.length gs.length, .slice (some ⟨b2, 0, none⟩) ps.length ps.length] 27)).heap.size ((((w.alloc (.cells #[.int .i64 t, .slice (some ⟨b1, 0, none⟩) gs.length gs.length, .slice (some ⟨b2, 0, none⟩) ps.length ps.length] 27))).alloc (.cells #[.func (.func 104) #[] #[], .func (.func 105) #[] #[], .func (.func 106) #[] #[], .func (.func 107) #[] #[]] 60)).alloc (.cells #[.int .i64 t, .slice (some ⟨b1, 0, none⟩) gs.length gs.length, .slice (some ⟨b2, 0, none⟩) ps.length ps.length] 27)) w') :
    (∀ k, w'.cell? ⟨w.heap.size + 1, k, none⟩ = (#[.func (.func 104) #[] #[], .func (.func 105) #[] #[], .func (.func 106) #[] #[], .func (.func 107) #[] #[]] : Array Value)[k]?) ∧ (∀ k, w'.cell? ⟨w.heap.size + 1 + 1, k, none⟩ = (#[.int .i64 t, .slice (some ⟨b1, 0, none⟩) gs.length gs.length, .slice (some ⟨b2, 0, none⟩) ps.length ps.length] : Array Value)[k]?) := by
  constructor
  · intro k
    rw [hb.cell (p := ⟨w.heap.size + 1, k, none⟩) (by simp)]
    simp [go_sem, World.cell?_alloc_past]
  · intro k
    rw [hb.cell (p := ⟨w.heap.size + 1 + 1, k, none⟩) (by simp)]
    simp [go_sem]

set_option maxRecDepth 4000 in
set_option maxHeartbeats 2000000 in
theorem implLandOk (t : Int) (gs : List G.GrantD) (ps : List PlaceD) (b1 b2 : Nat) (w : World) (hA : LandAt w gs ps b1 b2) (hF : Fit gs ps) :
    Calls Tryz.prog 80 #[.agg #[.int .i64 t, .slice (some ⟨b1, 0, none⟩) gs.length gs.length, .slice (some ⟨b2, 0, none⟩) ps.length ps.length]] w fun e w' => (∃ q : Bool, e = .returned (.bool q) ∧ SaysL q t gs ps) ∧ Below w.heap.size w w' := by
  have Hx0 : Hid (Below w.heap.size w ((((w.alloc (.cells #[.int .i64 t, .slice (some ⟨b1, 0, none⟩) gs.length gs.length, .slice (some ⟨b2, 0, none⟩) ps.length ps.length] 27))).alloc (.cells #[.func (.func 104) #[] #[], .func (.func 105) #[] #[], .func (.func 106) #[] #[], .func (.func 107) #[] #[]] 60)).alloc (.cells #[.int .i64 t, .slice (some ⟨b1, 0, none⟩) gs.length gs.length, .slice (some ⟨b2, 0, none⟩) ps.length ps.length] 27))) := bl_alloc (bl_alloc (bl_alloc (Below.refl _ _) _) _) _
  have HA0 : Hid (LandAt ((((w.alloc (.cells #[.int .i64 t, .slice (some ⟨b1, 0, none⟩) gs.length gs.length, .slice (some ⟨b2, 0, none⟩) ps.length ps.length] 27))).alloc (.cells #[.func (.func 104) #[] #[], .func (.func 105) #[] #[], .func (.func 106) #[] #[], .func (.func 107) #[] #[]] 60)).alloc (.cells #[.int .i64 t, .slice (some ⟨b1, 0, none⟩) gs.length gs.length, .slice (some ⟨b2, 0, none⟩) ps.length ps.length] 27)) gs ps b1 b2) := hA.keep Hx0.out
  have HF : Hid (Fit gs ps) := hF
  clear hA hF
  have hbv := build_land
  go_enter Tryz.func80, Tryz.ntmps80
  go_wp2_with go_in
  clear hbv
  refine wp_loop_rounds 5 ?_
  rw [rounds_succ]
  go_wp2_with fail
  refine (timeOk_any t _ _ _ _ _ _ _).mono ?_
  rintro e w1 ⟨rfl, c1⟩
  obtain ⟨q1, hq1⟩ : ∃ q, q = timeB t := ⟨_, rfl⟩
  have H1 : Hid (q1 = true ↔ timeB t = true) := by rw [hq1]; exact Iff.rfl
  rw [← hq1]
  have C1 : Hid (Below ((((w.alloc (.cells #[.int .i64 t, .slice (some ⟨b1, 0, none⟩) gs.length gs.length, .slice (some ⟨b2, 0, none⟩) ps.length ps.length] 27))).alloc (.cells #[.func (.func 104) #[] #[], .func (.func 105) #[] #[], .func (.func 106) #[] #[], .func (.func 107) #[] #[]] 60)).alloc (.cells #[.int .i64 t, .slice (some ⟨b1, 0, none⟩) gs.length gs.length, .slice (some ⟨b2, 0, none⟩) ps.length ps.length] 27)).heap.size ((((w.alloc (.cells #[.int .i64 t, .slice (some ⟨b1, 0, none⟩) gs.length gs.length, .slice (some ⟨b2, 0, none⟩) ps.length ps.length] 27))).alloc (.cells #[.func (.func 104) #[] #[], .func (.func 105) #[] #[], .func (.func 106) #[] #[], .func (.func 107) #[] #[]] 60)).alloc (.cells #[.int .i64 t, .slice (some ⟨b1, 0, none⟩) gs.length gs.length, .slice (some ⟨b2, 0, none⟩) ps.length ps.length] 27)) w1) := c1
  clear hq1 c1
  obtain ⟨kf1, km1⟩ := three_land C1.out
  cases q1
  · go_wp2
    go_ret
    exact ⟨⟨false, rfl, saysL_no (fun h => by have := H1.out.2 h.1; cases this)⟩, bl_trans Hx0.out C1.out⟩
  have G1 : Hid (timeB t = true) := H1.out.1 rfl
  clear H1
  have ht0 : 0 ≤ t := by have := G1.out; simp [timeB, inB] at this; omega
  have ht1 : t ≤ 2000000 := by have := G1.out; simp [timeB, inB] at this; omega
  have HA1 : Hid (LandAt w1 gs ps b1 b2) := HA0.out.keep C1.out
  go_wp2_with fail
  rw [rounds_succ]
  go_wp2_with fail
  refine (grantsOk_any t gs ps b1 b2 _ HA1.out HF.out ht0 ht1).mono ?_
  rintro e w2 ⟨⟨q2, rfl, h2⟩, c2⟩
  have H2 : Hid (q2 = true ↔ GrantsSay t gs) := h2
  have C2 : Hid (Below ((((w.alloc (.cells #[.int .i64 t, .slice (some ⟨b1, 0, none⟩) gs.length gs.length, .slice (some ⟨b2, 0, none⟩) ps.length ps.length] 27))).alloc (.cells #[.func (.func 104) #[] #[], .func (.func 105) #[] #[], .func (.func 106) #[] #[], .func (.func 107) #[] #[]] 60)).alloc (.cells #[.int .i64 t, .slice (some ⟨b1, 0, none⟩) gs.length gs.length, .slice (some ⟨b2, 0, none⟩) ps.length ps.length] 27)).heap.size ((((w.alloc (.cells #[.int .i64 t, .slice (some ⟨b1, 0, none⟩) gs.length gs.length, .slice (some ⟨b2, 0, none⟩) ps.length ps.length] 27))).alloc (.cells #[.func (.func 104) #[] #[], .func (.func 105) #[] #[], .func (.func 106) #[] #[], .func (.func 107) #[] #[]] 60)).alloc (.cells #[.int .i64 t, .slice (some ⟨b1, 0, none⟩) gs.length gs.length, .slice (some ⟨b2, 0, none⟩) ps.length ps.length] 27)) w2) := bl_trans C1.out c2
  clear h2 c2 kf1 km1
  obtain ⟨kf2, km2⟩ := three_land C2.out
  cases q2
  · go_wp2
    go_ret
    exact ⟨⟨false, rfl, saysL_no (fun h => by have := H2.out.2 h.2.1; cases this)⟩, bl_trans Hx0.out C2.out⟩
  have G2 : Hid (GrantsSay t gs) := H2.out.1 rfl
  clear H2
  have HA2 : Hid (LandAt w2 gs ps b1 b2) := HA0.out.keep C2.out
  go_wp2_with fail
  rw [rounds_succ]
  go_wp2_with fail
  refine (placesOk_any t gs ps b1 b2 _ HA2.out HF.out).mono ?_
  rintro e w3 ⟨⟨q3, rfl, h3⟩, c3⟩
  have H3 : Hid (q3 = true ↔ PlacesSay ps) := h3
  have C3 : Hid (Below ((((w.alloc (.cells #[.int .i64 t, .slice (some ⟨b1, 0, none⟩) gs.length gs.length, .slice (some ⟨b2, 0, none⟩) ps.length ps.length] 27))).alloc (.cells #[.func (.func 104) #[] #[], .func (.func 105) #[] #[], .func (.func 106) #[] #[], .func (.func 107) #[] #[]] 60)).alloc (.cells #[.int .i64 t, .slice (some ⟨b1, 0, none⟩) gs.length gs.length, .slice (some ⟨b2, 0, none⟩) ps.length ps.length] 27)).heap.size ((((w.alloc (.cells #[.int .i64 t, .slice (some ⟨b1, 0, none⟩) gs.length gs.length, .slice (some ⟨b2, 0, none⟩) ps.length ps.length] 27))).alloc (.cells #[.func (.func 104) #[] #[], .func (.func 105) #[] #[], .func (.func 106) #[] #[], .func (.func 107) #[] #[]] 60)).alloc (.cells #[.int .i64 t, .slice (some ⟨b1, 0, none⟩) gs.length gs.length, .slice (some ⟨b2, 0, none⟩) ps.length ps.length] 27)) w3) := bl_trans C2.out c3
  clear h3 c3 kf2 km2
  obtain ⟨kf3, km3⟩ := three_land C3.out
  cases q3
  · go_wp2
    go_ret
    exact ⟨⟨false, rfl, saysL_no (fun h => by have := H3.out.2 h.2.2.1; cases this)⟩, bl_trans Hx0.out C3.out⟩
  have G3 : Hid (PlacesSay ps) := H3.out.1 rfl
  clear H3
  have HA3 : Hid (LandAt w3 gs ps b1 b2) := HA0.out.keep C3.out
  go_wp2_with fail
  rw [rounds_succ]
  go_wp2_with fail
  refine (holdApart_any t gs ps b1 b2 _ HA3.out HF.out G3.out.1 (fun p hp => (G3.out.2.2 p hp).2.2.1)).mono ?_
  rintro e w4 ⟨⟨q4, rfl, h4⟩, c4⟩
  have H4 : Hid (q4 = true ↔ Apart ps) := h4.trans (apart_iff ps G3.out.2.2)
  have C4 : Hid (Below ((((w.alloc (.cells #[.int .i64 t, .slice (some ⟨b1, 0, none⟩) gs.length gs.length, .slice (some ⟨b2, 0, none⟩) ps.length ps.length] 27))).alloc (.cells #[.func (.func 104) #[] #[], .func (.func 105) #[] #[], .func (.func 106) #[] #[], .func (.func 107) #[] #[]] 60)).alloc (.cells #[.int .i64 t, .slice (some ⟨b1, 0, none⟩) gs.length gs.length, .slice (some ⟨b2, 0, none⟩) ps.length ps.length] 27)).heap.size ((((w.alloc (.cells #[.int .i64 t, .slice (some ⟨b1, 0, none⟩) gs.length gs.length, .slice (some ⟨b2, 0, none⟩) ps.length ps.length] 27))).alloc (.cells #[.func (.func 104) #[] #[], .func (.func 105) #[] #[], .func (.func 106) #[] #[], .func (.func 107) #[] #[]] 60)).alloc (.cells #[.int .i64 t, .slice (some ⟨b1, 0, none⟩) gs.length gs.length, .slice (some ⟨b2, 0, none⟩) ps.length ps.length] 27)) w4) := bl_trans C3.out c4
  clear h4 c4 kf3 km3
  obtain ⟨kf4, km4⟩ := three_land C4.out
  cases q4
  · go_wp2
    go_ret
    exact ⟨⟨false, rfl, saysL_no (fun h => by have := H4.out.2 h.2.2.2; cases this)⟩, bl_trans Hx0.out C4.out⟩
  have G4 : Hid (Apart ps) := H4.out.1 rfl
  clear H4
  have HA4 : Hid (LandAt w4 gs ps b1 b2) := HA0.out.keep C4.out
  go_wp2_with fail
  rw [rounds_succ]
  go_wp2
  go_ret
  exact ⟨⟨true, rfl, ⟨fun _ => ⟨G1.out, G2.out, G3.out, G4.out⟩, fun _ => rfl⟩⟩, bl_trans Hx0.out C4.out⟩
end Go.Proofs.YtdkjhonaafadjaaGreat.P
