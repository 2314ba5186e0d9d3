import Derived.Test.YtefiiobdlfdbjaaGreatDoorJ18
import Derived.Test.YtefiiobdlfdbjaaGreatDoorJ19
import Derived.StillTactics
/- put of a book. -/
namespace Go.Proofs.YtefiiobdlfdbjaaGreatDoor
open Go.RowKit Go.Maps Go.WideMaps
set_option linter.unusedVariables false

def slPu : Nat → Nat
  | 0 => 16
  | 1 => 17
  | 2 => 18
  | 3 => 19
  | 4 => 20
  | 5 => 21
  | 6 => 22
  | 7 => 23
  | 8 => 24
  | 9 => 25
  | 10 => 26
  | 11 => 27
  | 12 => 28
  | 13 => 29
  | 14 => 30
  | 15 => 31
  | _ => 0
theorem slPu_inj (i : Nat) (hi : i < 16) : ∀ j, j < 16 → slPu j = slPu i → j = i := by
  have h : ∀ a : _root_.Fin 16, ∀ b : _root_.Fin 16, slPu b.1 = slPu a.1 → b.1 = a.1 := by decide
  intro j hj e
  exact h ⟨i, hi⟩ ⟨j, hj⟩ e
theorem slPu_far : ∀ j, (j < 16 ∨ 16 + 16 ≤ j) → ∀ i, i < 16 → slPu i ≠ j := by
  intro j h2 i hi
  match i, hi with
  | 0, _ => show 16 ≠ j; omega
  | 1, _ => show 17 ≠ j; omega
  | 2, _ => show 18 ≠ j; omega
  | 3, _ => show 19 ≠ j; omega
  | 4, _ => show 20 ≠ j; omega
  | 5, _ => show 21 ≠ j; omega
  | 6, _ => show 22 ≠ j; omega
  | 7, _ => show 23 ≠ j; omega
  | 8, _ => show 24 ≠ j; omega
  | 9, _ => show 25 ≠ j; omega
  | 10, _ => show 26 ≠ j; omega
  | 11, _ => show 27 ≠ j; omega
  | 12, _ => show 28 ≠ j; omega
  | 13, _ => show 29 ≠ j; omega
  | 14, _ => show 30 ≠ j; omega
  | 15, _ => show 31 ≠ j; omega
  | m + 16, h => exact absurd h (by omega)
def GPu (d m2 : Nat) (b : ByteArray) (aw : Option Addr) (nw cw : Nat) (s : Int) (w : World) : Nat → Value → Prop
  | 0, v => v = .pointer (some ⟨d, 0, none⟩)
  | 1, v => v = .pointer (some ⟨d, 0, none⟩)
  | 2, v => v = .pointer (some ⟨d, 2, none⟩)
  | 3, v => v = .map (some m2)
  | 4, v => v = .string b
  | 5, v => v = .string b
  | 6, v => v = .pointer (some ⟨d, 0, none⟩)
  | 7, v => v = .pointer (some ⟨d, 0, none⟩)
  | 8, v => v = .pointer (some ⟨d, 2, none⟩)
  | 9, v => v = .map (some m2)
  | 10, v => v = .string b
  | 11, v => ∃ rb a n c, v = .agg #[.string rb, .int .i64 s, .slice a n c]
  | 12, v => v = .int .i64 s
  | 13, v => v = .int .i64 (s + 1)
  | 14, v => v = .slice aw nw cw
  | 15, v => v = .agg #[.string b, .int .i64 (s + 1), .slice aw nw cw]
  | _, _ => True
theorem pt_landx {w : World} {B Z lb : Nat} {t : Int} {gs : List G.GrantD} {qs0 qs : List P.PlaceD} {a1 a2 : Option Addr} {c1 c2 : Nat} (h : Pt w B Z lb t gs qs0 qs qs0.length (.slice a1 gs.length c1) a2 c2) : P.LandX w gs qs a1 a2 ∧ ∀ r ∈ qs, r.ws.length ≤ r.c := by
  have hL := pt_ldo h
  have hlen := h.like.len
  have hjl : ∀ (j : Nat) q, qs[j]? = some q → j < qs0.length := fun j q hq => by rw [← hlen]; exact (List.getElem?_eq_some_iff.1 hq).1
  refine ⟨⟨?_, ?_, fun r hr => ?_⟩, fun r hr => ?_⟩
  · rcases hL.g with ⟨h1, h2⟩ | ⟨g, cap, h1, h2, h3, h4, h5⟩
    · exact Or.inl h2
    · injection h1 with e1 e2 e3
      exact Or.inr ⟨g, e1, h3, h4⟩
  · rcases hL.p.o with ⟨h1, h2⟩ | ⟨g, cap, h1, h2, h3, h4, h5⟩
    · exact Or.inl (List.map_eq_nil_iff.1 h2)
    · injection h1 with e1 e2 e3
      refine Or.inr ⟨g, e1, h3, fun k r hr => ?_⟩
      exact h4 k (Pr.raw r) (by rw [List.getElem?_map, hr]; rfl)
  · obtain ⟨j, hj⟩ := List.getElem?_of_mem hr
    exact (hL.p.k j r hj).src
  · obtain ⟨j, hj⟩ := List.getElem?_of_mem hr
    exact h.cap j r (hjl j r hj) hj
theorem fit_put {gs : List G.GrantD} {ps : List P.PlaceD} {b : ByteArray} {aw : Option Addr} {cw : Nat} {ws : List W.WantD} (h : P.Fit gs ps) (hb : b.size ≤ maxLen) (hw : ∀ r ∈ ws, r.fits) (hl : ws.length ≤ 1048576) (hp : ps.length ≤ 4) : P.Fit gs (putP b aw cw ws ps) := by
  have hm : ∀ q ∈ putP b aw cw ws ps, q = ⟨b, seenOf b ps + 1, aw, cw, ws⟩ ∨ q ∈ ps := fun q hq => Ord.insS_mem keyP _ ps q hq
  refine ⟨h.g, fun p hp => ?_, h.gl, ?_, fun p hp => ?_⟩
  · rcases hm p hp with rfl | hq
    · exact ⟨hb, hw⟩
    · exact h.p p hq
  · have := Ord.insS_len keyP (⟨b, seenOf b ps + 1, aw, cw, ws⟩ : P.PlaceD) ps
    show (Ord.insS keyP _ ps).length ≤ _
    omega
  · rcases hm p hp with rfl | hq
    · exact hl
    · exact h.ln p hq
theorem seen_bound {b : ByteArray} : ∀ {ps : List P.PlaceD}, (∀ p ∈ ps, p.fine) → 0 ≤ seenOf b ps ∧ seenOf b ps ≤ 1000000
  | [], _ => by simp [seenOf]
  | p :: ps, h => by
    have h1 := (h p (List.mem_cons_self ..)).2.1
    have h2 := seen_bound (b := b) (fun q hq => h q (List.mem_cons_of_mem _ hq))
    simp [inB] at h1
    rw [seenOf]
    split
    · omega
    · exact h2
theorem look_seen {w : World} {m2 n : Nat} {b : ByteArray} {ps : List P.PlaceD} (ho : w.ownsMap Tryz.prog 9 Pr.RV m2 n (Pr.dec (ps.map Pr.raw))) (hs : Ord.Srt keyP ps) (hb : b.size ≤ maxLen) :
    ∃ rb a n c, Sem.run Tryz.prog (Instr.lookup 89 (.map (some m2)) (.string b) false) w = .ok (.agg #[.string rb, .int .i64 (seenOf b ps), .slice a n c]) w := by
  rcases Pr.look1V m2 n (ps.map Pr.raw) ho (srtP_raw hs) b hb with ⟨r, hr, e, hrun⟩ | ⟨hno, hrun⟩
  · obtain ⟨p, hp, rfl⟩ := List.mem_map.1 hr
    have e2 : seenOf b ps = (Pr.raw p).s := seen_of_mem hs hp e
    exact ⟨_, _, _, _, by rw [hrun, e2]⟩
  · have e2 : seenOf b ps = 0 := seen_none (fun p hp e => hno (Pr.raw p) (List.mem_map_of_mem hp) e)
    exact ⟨_, _, _, _, by rw [hrun, e2]⟩
theorem off_below {b : Nat} {w y z : World} (h : Off (fun j => j = b) w y) (hb : Below y.heap.size y z) : Off (fun j => j = b) w z := h.trans (Off.of_below hb)
theorem book_put {w y y' : World} {d m1 m2 n : Nat} {t : Int} {gs : List G.GrantD} {rs rs' : List Pr.PlRaw} (h : Book y d t m1 m2 gs rs) (hd : d ≠ m2) (hg : y.grownBy y' (some m2)) (ho : y'.ownsMap Tryz.prog 9 Pr.RV m2 n (Pr.dec rs')) : Book y' d t m1 m2 gs rs' := by
  obtain ⟨n1, o1⟩ := h.o1
  have hdn : some d ≠ some m2 := fun e => hd (Option.some.inj e)
  exact ⟨fun k => (World.cell?_of_block (w := y) (a := ⟨d, k, none⟩) (hg.block d h.l hdn)).trans (h.c k), fun k => (World.frozen?_of_block (w := y) (a := ⟨d, k, none⟩) (hg.block d h.l hdn)).trans (h.f k), Nat.lt_of_lt_of_le h.l hg.size, ⟨n1, o1.kept (row := some m2) hg (fun e => h.ne (Option.some.inj e))⟩, ⟨n, ho⟩, h.ne⟩

set_option maxRecDepth 4000 in
set_option maxHeartbeats 2000000 in
theorem put_no (d : Nat) (b : ByteArray) (aw : Option Addr) (cw : Nat) (ws : List W.WantD) (w : World) (hb : b.size ≤ maxLen) (hW : W.Gv w aw ws) (hcw : ws.length ≤ cw) (hwf : ∀ r ∈ ws, r.fits) (hwl : ws.length ≤ 1048576) (hno : ¬ (nameB b = true ∧ (ws.length ≤ 10 ∧ W.AllW ws ws.length))) (te : TypeId) (pe : Value) (hev : w.cell? ⟨1, 0, none⟩ = some (.iface te pe)) (hev0 : 1 < w.heap.size) :
    Calls Tryz.prog 27 #[.pointer (some ⟨d, 0, none⟩), .string b, .slice aw ws.length cw] w fun e w' => e = .returned (.iface te pe) ∧ Below w.heap.size w w' := by
  cases q1 : nameB b
  · go_enter Tryz.func27, Tryz.ntmps27
    go_wp2_with (go_at_call 48; refine (implName_any _ _ hb).mono ?_; rintro e w' ⟨rfl, hw⟩; have hw2 := hw.symm; subst hw2; clear hw)
    go_ret
    exact ⟨rfl, Below.refl _ _⟩
  · have OK : Hid (Calls Tryz.prog 49 #[.slice aw ws.length cw] w fun e w' => e = .returned (.bool false) ∧ Below w.heap.size w w') := by
      refine (W.implWantsOk_gv aw cw ws w hW hcw hwf hwl).mono ?_
      rintro e w' ⟨⟨q, rfl, hq⟩, hb⟩
      refine ⟨?_, hb⟩
      cases q with
      | false => rfl
      | true => exact (hno ⟨q1, hq.1 rfl⟩).elim
    have HEV : Hid (∀ y, Below w.heap.size w y → y.cell? ⟨1, 0, none⟩ = some (.iface te pe)) := fun y hy => (hy.cell (p := ⟨1, 0, none⟩) hev0).trans hev
    clear hW hwf hno hev
    go_enter Tryz.func27, Tryz.ntmps27
    go_wp2_with (go_at_call 48; refine (implName_any _ _ hb).mono ?_; rintro e w' ⟨rfl, hw⟩; have hw2 := hw.symm; subst hw2; clear hw)
    refine OK.out.mono ?_
    rintro e w1 ⟨rfl, c⟩
    have C : Hid (Below w.heap.size w w1) := c
    have he := HEV.out w1 c
    clear c
    go_wp2
    go_ret
    exact ⟨rfl, C.out⟩

set_option maxRecDepth 4000 in
set_option maxHeartbeats 4000000 in
theorem put_yes (hK1 : G.KeysSay) (hS1 : G.SortedSay) (hK2 : Pr.KeysSay) (hS2 : Pr.SortedSay) (d m1 m2 : Nat) (t : Int) (gs : List G.GrantD) (ps : List P.PlaceD) (b : ByteArray) (aw : Option Addr) (cw : Nat) (ws : List W.WantD) (w : World) (hB : Book w d t m1 m2 gs (ps.map Pr.raw)) (hd2 : d ≠ m2) (hnb : ∃ n, n ≤ 1048576 ∧ w.ownsMap Tryz.prog 9 Pr.RV m2 n (Pr.dec (ps.map Pr.raw))) (hok : P.LandSay t gs ps) (hF : P.Fit gs ps)
    (hsrc : ∀ y, Off (fun j => j = m2) w y → ∀ q ∈ ps, W.Src y q.a q.c q.ws) (hW : ∀ y, Off (fun j => j = m2) w y → W.Src y aw cw ws) (hb : b.size ≤ maxLen) (hcw : ws.length ≤ cw) (hwf : ∀ r ∈ ws, r.fits) (hyes : nameB b = true ∧ (ws.length ≤ 10 ∧ W.AllW ws ws.length)) (te : TypeId) (pe : Value) (hev : ∀ y, Off (fun j => j = m2) w y → y.cell? ⟨2, 0, none⟩ = some (.iface te pe)) :
    Calls Tryz.prog 27 #[.pointer (some ⟨d, 0, none⟩), .string b, .slice aw ws.length cw] w fun e w' => (∃ er, e = .returned er ∧ ((P.LandSay t gs (putP b none 0 ws ps) ∧ er = .nilIface) ∨ (¬ P.LandSay t gs (putP b none 0 ws ps) ∧ er = .iface te pe))) ∧ Book w' d t m1 m2 gs ((putP b aw cw ws ps).map Pr.raw) ∧ Off (fun j => j = m2) w w' := by
  obtain ⟨s, hs⟩ : ∃ s, s = seenOf b ps := ⟨_, rfl⟩
  obtain ⟨qs0, hqs⟩ : ∃ qs0, qs0 = putP b aw cw ws ps := ⟨_, rfl⟩
  have hsb := seen_bound (b := b) hok.2.2.1.2.2
  rw [← hs] at hsb
  obtain ⟨hs0, hs1⟩ := hsb
  have hwl : ws.length ≤ 1048576 := by have := hyes.2.1; omega
  have hsrt := srtP hok.2.2.1.2.1
  have hsrt' : Ord.Srt keyP qs0 := by rw [hqs]; exact Ord.insS_srt keyP _ ps hsrt
  have hfit' : P.Fit gs qs0 := by rw [hqs]; exact fit_put hF hb hwf hwl hok.2.2.1.1
  have hins : Ord.ins Pr.keyV (Pr.raw ⟨b, s + 1, aw, cw, ws⟩) (ps.map Pr.raw) = qs0.map Pr.raw := by rw [ins_raw hsrt, hqs, hs]; rfl
  have hmem : ∀ q ∈ qs0, q = ⟨b, s + 1, aw, cw, ws⟩ ∨ q ∈ ps := fun q hq => by rw [hqs] at hq; rw [hs]; exact Ord.insS_mem keyP _ ps q hq
  have OK : Hid (Calls Tryz.prog 49 #[.slice aw ws.length cw] w fun e w' => e = .returned (.bool true) ∧ Below w.heap.size w w') := by
    refine (W.implWantsOk_gv aw cw ws w (hW w (Off.refl _ _)).gv hcw hwf hwl).mono ?_
    rintro e w' ⟨⟨q, rfl, hq⟩, hb⟩
    exact ⟨by rw [hq.2 hyes.2], hb⟩
  have HBK : Hid (∀ y, Below w.heap.size w y → Book y d t m1 m2 gs (ps.map Pr.raw)) := fun y hy => hB.keep hy
  have K0 : Hid (∀ y, Below w.heap.size w y → y.cell? ⟨d, 2, none⟩ = some (.map (some m2))) := fun y hy => (hB.keep hy).c 2
  have LK0 : Hid (∀ y, Below w.heap.size w y → ∃ rb a n c, Sem.run Tryz.prog (Instr.lookup 89 (.map (some m2)) (.string b) false) y = .ok (.agg #[.string rb, .int .i64 s, .slice a n c]) y) := by
    intro y hy
    obtain ⟨n, ho⟩ := (hB.keep hy).o2
    rw [hs]
    exact look_seen ho hsrt hb
  have UP0 : Hid (∀ y, Below w.heap.size w y → ∃ w2 n, Sem.run Tryz.prog (Instr.mapUpdate 89 (.map (some m2)) (.string b) (.agg #[.string b, .int .i64 (s + 1), .slice aw ws.length cw])) y = .ok () w2 ∧ w2.ownsMap Tryz.prog 9 Pr.RV m2 n (Pr.dec (qs0.map Pr.raw)) ∧ y.grownBy w2 (some m2)) := by
    intro y hy
    obtain ⟨n, hn, ho0⟩ := hnb
    have ho := Pr.mapv_below ho0 hy
    obtain ⟨w2, h1, h2, h3⟩ := Pr.mapv_step m2 n (ps.map Pr.raw) (Pr.raw ⟨b, s + 1, aw, cw, ws⟩) ho (by unfold maxLen; omega) hb
    rw [hins] at h2
    exact ⟨w2, n + 1, h1, h2, h3⟩
  have TO : Hid (∀ y, Off (fun j => j = m2) w y → Book y d t m1 m2 gs (qs0.map Pr.raw) → Calls Tryz.prog 47 #[.pointer (some ⟨d, 0, none⟩)] y fun e w' => (∃ B Z lb qs s1 a2 c2, e = .returned (.agg #[.int .i64 t, s1, .slice a2 qs0.length c2]) ∧ y.heap.size < B ∧ Pt w' B Z lb t gs qs0 qs qs0.length s1 a2 c2) ∧ Below y.heap.size y w') := by
    intro y hy hBy
    exact told_any hK1 hS1 hK2 hS2 d m1 m2 t gs qs0 (qs0.map Pr.raw) rfl y hBy (G.srt_asc hok.2.1.2.1) (srtP_raw hsrt') (fun r hr => (hfit'.g r hr).1) (fun r hr => by obtain ⟨p, hp, rfl⟩ := List.mem_map.1 hr; exact (hfit'.p p hp).1) hfit'.gl (by rw [List.length_map]; exact hfit'.pl) (fun q hq => by
      rcases hmem q hq with rfl | h
      · exact ⟨hW y hy, hwl⟩
      · exact ⟨hsrc y hy q h, hF.ln q h⟩)
  have HFI : Hid (P.Fit gs qs0) := hfit'
  have HEV : Hid (∀ y, Off (fun j => j = m2) w y → y.cell? ⟨2, 0, none⟩ = some (.iface te pe)) := hev
  have HQS : Hid (qs0 = putP b aw cw ws ps) := hqs
  have q1 : nameB b = true := hyes.1
  have iw : IntKind.i64.wrap (s + 1) = s + 1 := by rw [IntKind.wrap_i64]; omega
  have HD2 : Hid (d ≠ m2) := hd2
  clear hK1 hS1 hK2 hS2 hB hnb hok hF hsrc hW hwf hyes hev hs hqs hsrt hsrt' hfit' hins hmem hd2
  go_enter Tryz.func27, Tryz.ntmps27
  go_wp2_with (go_at_call 48; refine (implName_any _ _ hb).mono ?_; rintro e w' ⟨rfl, hw⟩; have hw2 := hw.symm; subst hw2; clear hw)
  refine OK.out.mono ?_
  rintro e W0 ⟨rfl, c0⟩
  have C0 : Hid (Below w.heap.size w W0) := c0
  have LK : Hid (∀ y, Below W0.heap.size W0 y → ∃ rb a n c, Sem.run Tryz.prog (Instr.lookup 89 (.map (some m2)) (.string b) false) y = .ok (.agg #[.string rb, .int .i64 s, .slice a n c]) y) := fun y hy => LK0.out y (bl_trans C0.out hy)
  have UP : Hid (∀ y, Below W0.heap.size W0 y → ∃ w2 n, Sem.run Tryz.prog (Instr.mapUpdate 89 (.map (some m2)) (.string b) (.agg #[.string b, .int .i64 (s + 1), .slice aw ws.length cw])) y = .ok () w2 ∧ w2.ownsMap Tryz.prog 9 Pr.RV m2 n (Pr.dec (qs0.map Pr.raw)) ∧ y.grownBy w2 (some m2)) := fun y hy => UP0.out y (bl_trans C0.out hy)
  have K00 : Hid (∀ y, Below w.heap.size w y → y.cell? ⟨d, 2, none⟩ = some (.map (some m2))) := K0.out
  clear K0 c0
  have K0 : Hid (∀ y, Below W0.heap.size W0 y → y.cell? ⟨d, 2, none⟩ = some (.map (some m2))) := fun y hy => K00.out y (bl_trans C0.out hy)
  go_wp2_with fail
  refine wp_region_any (by kernel_rfl) ?_
  refine reg_invT slPu 16 0 (GPu d m2 b aw ws.length cw s) (fun y => Below W0.heap.size W0 y) (fun _ y => ∃ y0, Below W0.heap.size W0 y0 ∧ y0.grownBy y (some m2) ∧ ∃ n, y.ownsMap Tryz.prog 9 Pr.RV m2 n (Pr.dec (qs0.map Pr.raw))) (by decide) rfl (bl_drew (Below.refl _ _)) ?done ?step
  case done =>
    intro a y hdf hsz hout hE
    obtain ⟨y0, hb0, hg0, n0, ho0⟩ := hE
    obtain ⟨l', hl', ha⟩ := frameP_of (lo := 16) (n := 16) hdf hsz (fun j hj => hout j (fun i hi => slPu_far j hj i hi)) (Nat.le_of_ble_eq_true rfl)
    have OF : Hid (Off (fun j => j = m2) w y) := (Off.of_below (bl_trans C0.out hb0)).trans (Off.of_grown hg0 (fun j e => (Option.some.inj e).symm))
    have BY : Hid (Book y d t m1 m2 gs (qs0.map Pr.raw)) := book_put (w := w) (HBK.out y0 (bl_trans C0.out hb0)) HD2.out hg0 ho0
    clear hb0 hg0 ho0 hdf hsz hout
    subst ha
    obtain ⟨x0, n0, rfl, hm0⟩ := lenP_succ hl'
    obtain ⟨x1, n1, rfl, hm1⟩ := lenP_succ hm0
    obtain ⟨x2, n2, rfl, hm2⟩ := lenP_succ hm1
    obtain ⟨x3, n3, rfl, hm3⟩ := lenP_succ hm2
    obtain ⟨x4, n4, rfl, hm4⟩ := lenP_succ hm3
    obtain ⟨x5, n5, rfl, hm5⟩ := lenP_succ hm4
    obtain ⟨x6, n6, rfl, hm6⟩ := lenP_succ hm5
    obtain ⟨x7, n7, rfl, hm7⟩ := lenP_succ hm6
    obtain ⟨x8, n8, rfl, hm8⟩ := lenP_succ hm7
    obtain ⟨x9, n9, rfl, hm9⟩ := lenP_succ hm8
    obtain ⟨x10, n10, rfl, hm10⟩ := lenP_succ hm9
    obtain ⟨x11, n11, rfl, hm11⟩ := lenP_succ hm10
    obtain ⟨x12, n12, rfl, hm12⟩ := lenP_succ hm11
    obtain ⟨x13, n13, rfl, hm13⟩ := lenP_succ hm12
    obtain ⟨x14, n14, rfl, hm14⟩ := lenP_succ hm13
    obtain ⟨x15, n15, rfl, hm15⟩ := lenP_succ hm14
    obtain rfl := lenP_zero hm15
    simp only [List.take_succ_cons, List.take_zero, List.drop_succ_cons, List.drop_zero, List.cons_append, List.nil_append, Nat.reduceAdd]
    go_wp2_with fail
    refine (TO.out y OF.out BY.out).mono ?_
    rintro e w5 ⟨⟨B, Z, lb, qs, s1, a2, c2, rfl, -, hP⟩, c5⟩
    obtain ⟨a1, c1, rfl⟩ := OG.shape hP.g
    obtain ⟨hX, hcp⟩ := pt_landx hP
    have hlen : qs0.length = qs.length := hP.like.len.symm
    have HLK : Hid (P.Like qs qs0) := hP.like
    have LO := P.implLandOk_x t gs qs a1 a2 c1 c2 w5 hX hcp (HFI.out.like hP.like)
    rw [← hlen] at LO
    have LO2 : Hid (Calls Tryz.prog 45 #[.agg #[.int .i64 t, .slice a1 gs.length c1, .slice a2 qs0.length c2]] w5 fun e w' => (∃ q : Bool, e = .returned (.bool q) ∧ P.SaysL q t gs qs) ∧ Below w5.heap.size w5 w') := LO
    have OF5 : Hid (Off (fun j => j = m2) w w5) := off_below OF.out c5
    have BY5 : Hid (Book w5 d t m1 m2 gs (qs0.map Pr.raw)) := BY.out.keep c5
    clear hP c5 hX hcp LO hlen
    go_wp2_with fail
    refine LO2.out.mono ?_
    rintro e w6 ⟨⟨q, rfl, hq⟩, c6⟩
    have OF6 : Hid (Off (fun j => j = m2) w w6) := off_below OF5.out c6
    have BY6 : Hid (Book w6 d t m1 m2 gs ((putP b aw cw ws ps).map Pr.raw)) := by show Book _ _ _ _ _ _ _; rw [← HQS.out]; exact BY5.out.keep c6
    have HQ : Hid (q = true ↔ P.LandSay t gs (putP b none 0 ws ps)) := hq.trans ((P.like_says HLK.out).trans (by rw [HQS.out]; exact P.like_says (putP_like rfl)))
    have he := HEV.out w6 OF6.out
    clear c6 hq
    cases q
    · have HN : Hid (¬ P.LandSay t gs (putP b none 0 ws ps)) := fun h => by have := HQ.out.2 h; cases this
      clear HQ
      go_wp2
      go_ret
      exact ⟨⟨_, rfl, Or.inr ⟨HN.out, rfl⟩⟩, BY6.out, OF6.out⟩
    · have HY : Hid (P.LandSay t gs (putP b none 0 ws ps)) := HQ.out.1 rfl
      clear he HQ
      go_wp2
      go_ret
      exact ⟨⟨_, rfl, Or.inl ⟨HY.out, rfl⟩⟩, BY6.out, OF6.out⟩
  case step =>
    intro listed x y i hI hi hlt8
    obtain rfl | rfl | rfl | rfl | rfl | rfl | rfl | rfl | rfl | rfl | rfl | rfl | rfl | rfl | rfl | rfl | rfl : i = 0 ∨ i = 1 ∨ i = 2 ∨ i = 3 ∨ i = 4 ∨ i = 5 ∨ i = 6 ∨ i = 7 ∨ i = 8 ∨ i = 9 ∨ i = 10 ∨ i = 11 ∨ i = 12 ∨ i = 13 ∨ i = 14 ∨ i = 15 ∨ i = 16 := by omega
    · have ho := ready_open hi
      have hn : listed.getD 16 false = false := noT (fun h => openT ho (hI.tr 1 0 (by rfl) (hI.tr 2 1 (by rfl) (hI.tr 3 2 (by rfl) (hI.tr 16 3 (by rfl) h)))))
      have e1 : x.tmps[0]?.getD undef = .pointer (some ⟨d, 0, none⟩) := ev_tmp (hI.out 0 (fun i hi => slPu_far 0 (by omega) i hi))
      have HD : Hid (Below W0.heap.size W0 y) := hI.d hn
      have HJ : Hid (It _ _ _ _ _ _ _ _ _ _ _) := hI
      have HI : Hid (_ ∈ Region.ready _ _ _) := hi
      clear hi hI
      refine wpOp_plain rfl rfl ?_
      refine wp_cover (fun K hK => ?_)
      go_simp
      exact hK.out _ _ (HJ.out.same HI.out (by omega) hn (Nat.le_of_ble_eq_true rfl) (slPu_inj _ (by omega)) (rfl))
    · have ho := ready_open hi
      have hn : listed.getD 16 false = false := noT (fun h => openT ho (hI.tr 2 1 (by rfl) (hI.tr 3 2 (by rfl) (hI.tr 16 3 (by rfl) h))))
      have gf0 : GPu d m2 b aw ws.length cw s y 0 (x.tmps.getD 16 undef) := hI.good 0 (by omega) (waits_of hi (by rfl)) hn
      have e1 : x.tmps[16]?.getD undef = .pointer (some ⟨d, 0, none⟩) := ev_tmp gf0
      have HD : Hid (Below W0.heap.size W0 y) := hI.d hn
      have HJ : Hid (It _ _ _ _ _ _ _ _ _ _ _) := hI
      have HI : Hid (_ ∈ Region.ready _ _ _) := hi
      clear hi hI
      refine wpOp_plain rfl rfl ?_
      refine wp_cover (fun K hK => ?_)
      go_simp
      exact hK.out _ _ (HJ.out.same HI.out (by omega) hn (Nat.le_of_ble_eq_true rfl) (slPu_inj _ (by omega)) (rfl))
    · have ho := ready_open hi
      have hn : listed.getD 16 false = false := noT (fun h => openT ho (hI.tr 3 2 (by rfl) (hI.tr 16 3 (by rfl) h)))
      have gf1 : GPu d m2 b aw ws.length cw s y 1 (x.tmps.getD 17 undef) := hI.good 1 (by omega) (waits_of hi (by rfl)) hn
      have e1 : x.tmps[17]?.getD undef = .pointer (some ⟨d, 0, none⟩) := ev_tmp gf1
      have HD : Hid (Below W0.heap.size W0 y) := hI.d hn
      have HJ : Hid (It _ _ _ _ _ _ _ _ _ _ _) := hI
      have HI : Hid (_ ∈ Region.ready _ _ _) := hi
      clear hi hI
      refine wpOp_plain rfl rfl ?_
      refine wp_cover (fun K hK => ?_)
      go_simp
      exact hK.out _ _ (HJ.out.same HI.out (by omega) hn (Nat.le_of_ble_eq_true rfl) (slPu_inj _ (by omega)) (rfl))
    · have ho := ready_open hi
      have hn : listed.getD 16 false = false := noT (fun h => openT ho (hI.tr 16 3 (by rfl) h))
      have gf2 : GPu d m2 b aw ws.length cw s y 2 (x.tmps.getD 18 undef) := hI.good 2 (by omega) (waits_of hi (by rfl)) hn
      have e1 : x.tmps[18]?.getD undef = .pointer (some ⟨d, 2, none⟩) := ev_tmp gf2
      have k1 : y.cell? ⟨d, 2, none⟩ = some (.map (some m2)) := K0.out y (hI.d hn)
      have HD : Hid (Below W0.heap.size W0 y) := hI.d hn
      have HJ : Hid (It _ _ _ _ _ _ _ _ _ _ _) := hI
      have HI : Hid (_ ∈ Region.ready _ _ _) := hi
      clear hi hI
      refine wpOp_plain rfl rfl ?_
      refine wp_cover (fun K hK => ?_)
      go_simp
      exact hK.out _ _ (HJ.out.same HI.out (by omega) hn (Nat.le_of_ble_eq_true rfl) (slPu_inj _ (by omega)) (rfl))
    · have ho := ready_open hi
      have hn : listed.getD 16 false = false := noT (fun h => openT ho (hI.tr 16 4 (by rfl) h))
      have e1 : x.tmps[1]?.getD undef = .string b := ev_tmp (hI.out 1 (fun i hi => slPu_far 1 (by omega) i hi))
      have HD : Hid (Below W0.heap.size W0 y) := hI.d hn
      have HJ : Hid (It _ _ _ _ _ _ _ _ _ _ _) := hI
      have HI : Hid (_ ∈ Region.ready _ _ _) := hi
      clear hi hI
      refine wpOp_plain rfl rfl ?_
      refine wp_cover (fun K hK => ?_)
      go_simp
      exact hK.out _ _ (HJ.out.same HI.out (by omega) hn (Nat.le_of_ble_eq_true rfl) (slPu_inj _ (by omega)) (rfl))
    · have ho := ready_open hi
      have hn : listed.getD 16 false = false := noT (fun h => openT ho (hI.tr 15 5 (by rfl) (hI.tr 16 15 (by rfl) h)))
      have e1 : x.tmps[1]?.getD undef = .string b := ev_tmp (hI.out 1 (fun i hi => slPu_far 1 (by omega) i hi))
      have HD : Hid (Below W0.heap.size W0 y) := hI.d hn
      have HJ : Hid (It _ _ _ _ _ _ _ _ _ _ _) := hI
      have HI : Hid (_ ∈ Region.ready _ _ _) := hi
      clear hi hI
      refine wpOp_plain rfl rfl ?_
      refine wp_cover (fun K hK => ?_)
      go_simp
      exact hK.out _ _ (HJ.out.same HI.out (by omega) hn (Nat.le_of_ble_eq_true rfl) (slPu_inj _ (by omega)) (rfl))
    · have ho := ready_open hi
      have hn : listed.getD 16 false = false := noT (fun h => openT ho (hI.tr 7 6 (by rfl) (hI.tr 8 7 (by rfl) (hI.tr 9 8 (by rfl) (hI.tr 11 9 (by rfl) (hI.tr 12 11 (by rfl) (hI.tr 13 12 (by rfl) (hI.tr 15 13 (by rfl) (hI.tr 16 15 (by rfl) h)))))))))
      have e1 : x.tmps[0]?.getD undef = .pointer (some ⟨d, 0, none⟩) := ev_tmp (hI.out 0 (fun i hi => slPu_far 0 (by omega) i hi))
      have HD : Hid (Below W0.heap.size W0 y) := hI.d hn
      have HJ : Hid (It _ _ _ _ _ _ _ _ _ _ _) := hI
      have HI : Hid (_ ∈ Region.ready _ _ _) := hi
      clear hi hI
      refine wpOp_plain rfl rfl ?_
      refine wp_cover (fun K hK => ?_)
      go_simp
      exact hK.out _ _ (HJ.out.same HI.out (by omega) hn (Nat.le_of_ble_eq_true rfl) (slPu_inj _ (by omega)) (rfl))
    · have ho := ready_open hi
      have hn : listed.getD 16 false = false := noT (fun h => openT ho (hI.tr 8 7 (by rfl) (hI.tr 9 8 (by rfl) (hI.tr 11 9 (by rfl) (hI.tr 12 11 (by rfl) (hI.tr 13 12 (by rfl) (hI.tr 15 13 (by rfl) (hI.tr 16 15 (by rfl) h))))))))
      have gf6 : GPu d m2 b aw ws.length cw s y 6 (x.tmps.getD 22 undef) := hI.good 6 (by omega) (waits_of hi (by rfl)) hn
      have e1 : x.tmps[22]?.getD undef = .pointer (some ⟨d, 0, none⟩) := ev_tmp gf6
      have HD : Hid (Below W0.heap.size W0 y) := hI.d hn
      have HJ : Hid (It _ _ _ _ _ _ _ _ _ _ _) := hI
      have HI : Hid (_ ∈ Region.ready _ _ _) := hi
      clear hi hI
      refine wpOp_plain rfl rfl ?_
      refine wp_cover (fun K hK => ?_)
      go_simp
      exact hK.out _ _ (HJ.out.same HI.out (by omega) hn (Nat.le_of_ble_eq_true rfl) (slPu_inj _ (by omega)) (rfl))
    · have ho := ready_open hi
      have hn : listed.getD 16 false = false := noT (fun h => openT ho (hI.tr 9 8 (by rfl) (hI.tr 11 9 (by rfl) (hI.tr 12 11 (by rfl) (hI.tr 13 12 (by rfl) (hI.tr 15 13 (by rfl) (hI.tr 16 15 (by rfl) h)))))))
      have gf7 : GPu d m2 b aw ws.length cw s y 7 (x.tmps.getD 23 undef) := hI.good 7 (by omega) (waits_of hi (by rfl)) hn
      have e1 : x.tmps[23]?.getD undef = .pointer (some ⟨d, 0, none⟩) := ev_tmp gf7
      have HD : Hid (Below W0.heap.size W0 y) := hI.d hn
      have HJ : Hid (It _ _ _ _ _ _ _ _ _ _ _) := hI
      have HI : Hid (_ ∈ Region.ready _ _ _) := hi
      clear hi hI
      refine wpOp_plain rfl rfl ?_
      refine wp_cover (fun K hK => ?_)
      go_simp
      exact hK.out _ _ (HJ.out.same HI.out (by omega) hn (Nat.le_of_ble_eq_true rfl) (slPu_inj _ (by omega)) (rfl))
    · have ho := ready_open hi
      have hn : listed.getD 16 false = false := noT (fun h => openT ho (hI.tr 11 9 (by rfl) (hI.tr 12 11 (by rfl) (hI.tr 13 12 (by rfl) (hI.tr 15 13 (by rfl) (hI.tr 16 15 (by rfl) h))))))
      have gf8 : GPu d m2 b aw ws.length cw s y 8 (x.tmps.getD 24 undef) := hI.good 8 (by omega) (waits_of hi (by rfl)) hn
      have e1 : x.tmps[24]?.getD undef = .pointer (some ⟨d, 2, none⟩) := ev_tmp gf8
      have k1 : y.cell? ⟨d, 2, none⟩ = some (.map (some m2)) := K0.out y (hI.d hn)
      have HD : Hid (Below W0.heap.size W0 y) := hI.d hn
      have HJ : Hid (It _ _ _ _ _ _ _ _ _ _ _) := hI
      have HI : Hid (_ ∈ Region.ready _ _ _) := hi
      clear hi hI
      refine wpOp_plain rfl rfl ?_
      refine wp_cover (fun K hK => ?_)
      go_simp
      exact hK.out _ _ (HJ.out.same HI.out (by omega) hn (Nat.le_of_ble_eq_true rfl) (slPu_inj _ (by omega)) (rfl))
    · have ho := ready_open hi
      have hn : listed.getD 16 false = false := noT (fun h => openT ho (hI.tr 11 10 (by rfl) (hI.tr 12 11 (by rfl) (hI.tr 13 12 (by rfl) (hI.tr 15 13 (by rfl) (hI.tr 16 15 (by rfl) h))))))
      have e1 : x.tmps[1]?.getD undef = .string b := ev_tmp (hI.out 1 (fun i hi => slPu_far 1 (by omega) i hi))
      have HD : Hid (Below W0.heap.size W0 y) := hI.d hn
      have HJ : Hid (It _ _ _ _ _ _ _ _ _ _ _) := hI
      have HI : Hid (_ ∈ Region.ready _ _ _) := hi
      clear hi hI
      refine wpOp_plain rfl rfl ?_
      refine wp_cover (fun K hK => ?_)
      go_simp
      exact hK.out _ _ (HJ.out.same HI.out (by omega) hn (Nat.le_of_ble_eq_true rfl) (slPu_inj _ (by omega)) (rfl))
    · have ho := ready_open hi
      have hn : listed.getD 16 false = false := noT (fun h => openT ho (hI.tr 12 11 (by rfl) (hI.tr 13 12 (by rfl) (hI.tr 15 13 (by rfl) (hI.tr 16 15 (by rfl) h)))))
      have gf9 : GPu d m2 b aw ws.length cw s y 9 (x.tmps.getD 25 undef) := hI.good 9 (by omega) (waits_of hi (by rfl)) hn
      have gf10 : GPu d m2 b aw ws.length cw s y 10 (x.tmps.getD 26 undef) := hI.good 10 (by omega) (waits_of hi (by rfl)) hn
      have e1 : x.tmps[25]?.getD undef = .map (some m2) := ev_tmp gf9
      have e2 : x.tmps[26]?.getD undef = .string b := ev_tmp gf10
      obtain ⟨rb, ra, rn, rc, hl⟩ := LK.out y (hI.d hn)
      have HD : Hid (Below W0.heap.size W0 y) := hI.d hn
      have HJ : Hid (It _ _ _ _ _ _ _ _ _ _ _) := hI
      have HI : Hid (_ ∈ Region.ready _ _ _) := hi
      clear hi hI
      refine wpOp_plain rfl rfl ?_
      refine wp_cover (fun K hK => ?_)
      go_simp
      exact hK.out _ _ (HJ.out.same HI.out (by omega) hn (Nat.le_of_ble_eq_true rfl) (slPu_inj _ (by omega)) (⟨rb, ra, rn, rc, rfl⟩))
    · have ho := ready_open hi
      have hn : listed.getD 16 false = false := noT (fun h => openT ho (hI.tr 13 12 (by rfl) (hI.tr 15 13 (by rfl) (hI.tr 16 15 (by rfl) h))))
      have gf11 : GPu d m2 b aw ws.length cw s y 11 (x.tmps.getD 27 undef) := hI.good 11 (by omega) (waits_of hi (by rfl)) hn
      obtain ⟨rb, ra, rn, rc, hv⟩ := gf11
      have e1 : x.tmps[27]?.getD undef = _ := ev_tmp hv
      clear hv
      have HD : Hid (Below W0.heap.size W0 y) := hI.d hn
      have HJ : Hid (It _ _ _ _ _ _ _ _ _ _ _) := hI
      have HI : Hid (_ ∈ Region.ready _ _ _) := hi
      clear hi hI
      refine wpOp_plain rfl rfl ?_
      refine wp_cover (fun K hK => ?_)
      go_simp
      exact hK.out _ _ (HJ.out.same HI.out (by omega) hn (Nat.le_of_ble_eq_true rfl) (slPu_inj _ (by omega)) (rfl))
    · have ho := ready_open hi
      have hn : listed.getD 16 false = false := noT (fun h => openT ho (hI.tr 15 13 (by rfl) (hI.tr 16 15 (by rfl) h)))
      have gf12 : GPu d m2 b aw ws.length cw s y 12 (x.tmps.getD 28 undef) := hI.good 12 (by omega) (waits_of hi (by rfl)) hn
      have e1 : x.tmps[28]?.getD undef = .int .i64 s := ev_tmp gf12
      have HD : Hid (Below W0.heap.size W0 y) := hI.d hn
      have HJ : Hid (It _ _ _ _ _ _ _ _ _ _ _) := hI
      have HI : Hid (_ ∈ Region.ready _ _ _) := hi
      clear hi hI
      refine wpOp_plain rfl rfl ?_
      refine wp_cover (fun K hK => ?_)
      go_simp
      exact hK.out _ _ (HJ.out.same HI.out (by omega) hn (Nat.le_of_ble_eq_true rfl) (slPu_inj _ (by omega)) (rfl))
    · have ho := ready_open hi
      have hn : listed.getD 16 false = false := noT (fun h => openT ho (hI.tr 15 14 (by rfl) (hI.tr 16 15 (by rfl) h)))
      have e1 : x.tmps[2]?.getD undef = .slice aw ws.length cw := ev_tmp (hI.out 2 (fun i hi => slPu_far 2 (by omega) i hi))
      have HD : Hid (Below W0.heap.size W0 y) := hI.d hn
      have HJ : Hid (It _ _ _ _ _ _ _ _ _ _ _) := hI
      have HI : Hid (_ ∈ Region.ready _ _ _) := hi
      clear hi hI
      refine wpOp_plain rfl rfl ?_
      refine wp_cover (fun K hK => ?_)
      go_simp
      exact hK.out _ _ (HJ.out.same HI.out (by omega) hn (Nat.le_of_ble_eq_true rfl) (slPu_inj _ (by omega)) (rfl))
    · have ho := ready_open hi
      have hn : listed.getD 16 false = false := noT (fun h => openT ho (hI.tr 16 15 (by rfl) h))
      have gf5 : GPu d m2 b aw ws.length cw s y 5 (x.tmps.getD 21 undef) := hI.good 5 (by omega) (waits_of hi (by rfl)) hn
      have gf13 : GPu d m2 b aw ws.length cw s y 13 (x.tmps.getD 29 undef) := hI.good 13 (by omega) (waits_of hi (by rfl)) hn
      have gf14 : GPu d m2 b aw ws.length cw s y 14 (x.tmps.getD 30 undef) := hI.good 14 (by omega) (waits_of hi (by rfl)) hn
      have e1 : x.tmps[21]?.getD undef = .string b := ev_tmp gf5
      have e2 : x.tmps[29]?.getD undef = .int .i64 (s + 1) := ev_tmp gf13
      have e3 : x.tmps[30]?.getD undef = .slice aw ws.length cw := ev_tmp gf14
      have HD : Hid (Below W0.heap.size W0 y) := hI.d hn
      have HJ : Hid (It _ _ _ _ _ _ _ _ _ _ _) := hI
      have HI : Hid (_ ∈ Region.ready _ _ _) := hi
      clear hi hI
      refine wpOp_plain rfl rfl ?_
      refine wp_cover (fun K hK => ?_)
      go_simp
      exact hK.out _ _ (HJ.out.same HI.out (by omega) hn (Nat.le_of_ble_eq_true rfl) (slPu_inj _ (by omega)) (rfl))
    · have ho := ready_open hi
      have hn : listed.getD 16 false = false := noT (fun h => openT ho h)
      have gf3 : GPu d m2 b aw ws.length cw s y 3 (x.tmps.getD 19 undef) := hI.good 3 (by omega) (waits_of hi (by rfl)) hn
      have gf4 : GPu d m2 b aw ws.length cw s y 4 (x.tmps.getD 20 undef) := hI.good 4 (by omega) (waits_of hi (by rfl)) hn
      have gf15 : GPu d m2 b aw ws.length cw s y 15 (x.tmps.getD 31 undef) := hI.good 15 (by omega) (waits_of hi (by rfl)) hn
      have e1 : x.tmps[19]?.getD undef = .map (some m2) := ev_tmp gf3
      have e2 : x.tmps[20]?.getD undef = .string b := ev_tmp gf4
      have e3 : x.tmps[31]?.getD undef = .agg #[.string b, .int .i64 (s + 1), .slice aw ws.length cw] := ev_tmp gf15
      obtain ⟨w2, n2, hrun, ho2, hg2⟩ := UP.out y (hI.d hn)
      have HO2 : Hid _ := ho2
      have HG2 : Hid (y.grownBy w2 (some m2)) := hg2
      clear ho2 hg2
      have HD : Hid (Below W0.heap.size W0 y) := hI.d hn
      have HJ : Hid (It _ _ _ _ _ _ _ _ _ _ _) := hI
      have HI : Hid (_ ∈ Region.ready _ _ _) := hi
      clear hi hI
      refine wpOp_plain rfl rfl ?_
      refine wp_cover (fun K hK => ?_)
      go_simp
      exact hK.out _ _ (HJ.out.last (u := undef) HI.out ⟨y, HD.out, HG2.out, n2, HO2.out⟩)
end Go.Proofs.YtefiiobdlfdbjaaGreatDoor
