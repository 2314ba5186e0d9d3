import Derived.Test.YtefiiobdlfdbjaaGreatDoorJ21
import Derived.Deep.RegionWith
/- What a put's error comes to. -/
namespace Go.Proofs.YtefiiobdlfdbjaaGreatDoor
open Go.RowKit
set_option linter.unusedVariables false

/-- The book's three errors lie in their cells, each one by itself. -/
structure Er3 (w : World) (a0 a1 a2 : Addr) : Prop where
  c0 : w.cell? ⟨0, 0, none⟩ = some (.iface 169 (.pointer (some a0)))
  z0 : 0 < w.heap.size
  h0 : ∃ c t, w.heap[a0.block]? = some (.cells c t (0, 0))
  c1 : w.cell? ⟨1, 0, none⟩ = some (.iface 169 (.pointer (some a1)))
  z1 : 1 < w.heap.size
  h1 : ∃ c t, w.heap[a1.block]? = some (.cells c t (0, 0))
  c2 : w.cell? ⟨2, 0, none⟩ = some (.iface 169 (.pointer (some a2)))
  z2 : 2 < w.heap.size
  h2 : ∃ c t, w.heap[a2.block]? = some (.cells c t (0, 0))
  n01 : a0 ≠ a1
  n02 : a0 ≠ a2
  n12 : a1 ≠ a2
theorem Er3.keep {w w' : World} {a0 a1 a2 : Addr} (h : Er3 w a0 a1 a2) (hb : Below w.heap.size w w') : Er3 w' a0 a1 a2 := by
  have k : ∀ {a : Addr}, (∃ c t, w.heap[a.block]? = some (.cells c t (0, 0))) → ∃ c t, w'.heap[a.block]? = some (.cells c t (0, 0)) := by
    rintro a ⟨c, t, h⟩
    exact ⟨c, t, (hb.block _ (Array.getElem?_eq_some_iff.1 h).1).trans h⟩
  exact ⟨(hb.cell (p := ⟨0, 0, none⟩) h.z0).trans h.c0, Nat.lt_of_lt_of_le h.z0 hb.size, k h.h0, (hb.cell (p := ⟨1, 0, none⟩) h.z1).trans h.c1, Nat.lt_of_lt_of_le h.z1 hb.size, k h.h1, (hb.cell (p := ⟨2, 0, none⟩) h.z2).trans h.c2, Nat.lt_of_lt_of_le h.z2 hb.size, k h.h2, h.n01, h.n02, h.n12⟩
theorem code_none {w : World} {a0 a1 a2 : Addr} (h : Er3 w a0 a1 a2) : Calls Tryz.prog 28 #[.nilIface] w fun e w' => e = .returned (.int .i64 0) ∧ w' = w := by
  have c0 := h.c0
  have c1 := h.c1
  have c2 := h.c2
  obtain ⟨x0, y0, h0⟩ := h.h0
  obtain ⟨x1, y1, h1⟩ := h.h1
  obtain ⟨x2, y2, h2⟩ := h.h2
  have N : Hid (a0 ≠ a1 ∧ a0 ≠ a2 ∧ a1 ≠ a2) := ⟨h.n01, h.n02, h.n12⟩
  have H0 : Hid _ := h0
  have H1 : Hid _ := h1
  have H2 : Hid _ := h2
  clear h h0 h1 h2
  go_enter Tryz.func28, Tryz.ntmps28
  go_wp2_with fail
  refine (is_none a0 w).mono ?_
  rintro e w' ⟨rfl, hw⟩
  have hw2 := hw.symm
  subst hw2
  clear hw
  go_wp2_with fail
  refine (is_none a1 w).mono ?_
  rintro e w' ⟨rfl, hw⟩
  have hw2 := hw.symm
  subst hw2
  clear hw
  go_wp2_with fail
  refine (is_none a2 w).mono ?_
  rintro e w' ⟨rfl, hw⟩
  have hw2 := hw.symm
  subst hw2
  clear hw
  go_wp2
  go_ret
  exact ⟨rfl, rfl⟩
theorem code_0 {w : World} {a0 a1 a2 : Addr} (h : Er3 w a0 a1 a2) : Calls Tryz.prog 28 #[.iface 169 (.pointer (some a0))] w fun e w' => e = .returned (.int .i64 1) ∧ w' = w := by
  have c0 := h.c0
  have c1 := h.c1
  have c2 := h.c2
  obtain ⟨x0, y0, h0⟩ := h.h0
  obtain ⟨x1, y1, h1⟩ := h.h1
  obtain ⟨x2, y2, h2⟩ := h.h2
  have N : Hid (a0 ≠ a1 ∧ a0 ≠ a2 ∧ a1 ≠ a2) := ⟨h.n01, h.n02, h.n12⟩
  have H0 : Hid _ := h0
  have H1 : Hid _ := h1
  have H2 : Hid _ := h2
  clear h h0 h1 h2
  go_enter Tryz.func28, Tryz.ntmps28
  go_wp2_with fail
  refine (is_self a0 w).mono ?_
  rintro e w' ⟨rfl, hw⟩
  have hw2 := hw.symm
  subst hw2
  clear hw
  go_wp2
  go_ret
  exact ⟨rfl, rfl⟩
theorem code_1 {w : World} {a0 a1 a2 : Addr} (h : Er3 w a0 a1 a2) : Calls Tryz.prog 28 #[.iface 169 (.pointer (some a1))] w fun e w' => e = .returned (.int .i64 2) ∧ w' = w := by
  have c0 := h.c0
  have c1 := h.c1
  have c2 := h.c2
  obtain ⟨x0, y0, h0⟩ := h.h0
  obtain ⟨x1, y1, h1⟩ := h.h1
  obtain ⟨x2, y2, h2⟩ := h.h2
  have N : Hid (a0 ≠ a1 ∧ a0 ≠ a2 ∧ a1 ≠ a2) := ⟨h.n01, h.n02, h.n12⟩
  have H0 : Hid _ := h0
  have H1 : Hid _ := h1
  have H2 : Hid _ := h2
  clear h h0 h1 h2
  go_enter Tryz.func28, Tryz.ntmps28
  go_wp2_with fail
  refine (is_apart a1 a0 _ _ _ _ w (fun e => N.out.1 e.symm) H1.out H0.out).mono ?_
  rintro e w' ⟨rfl, hw⟩
  have hw2 := hw.symm
  subst hw2
  clear hw
  go_wp2_with fail
  refine (is_self a1 w).mono ?_
  rintro e w' ⟨rfl, hw⟩
  have hw2 := hw.symm
  subst hw2
  clear hw
  go_wp2
  go_ret
  exact ⟨rfl, rfl⟩
theorem code_2 {w : World} {a0 a1 a2 : Addr} (h : Er3 w a0 a1 a2) : Calls Tryz.prog 28 #[.iface 169 (.pointer (some a2))] w fun e w' => e = .returned (.int .i64 3) ∧ w' = w := by
  have c0 := h.c0
  have c1 := h.c1
  have c2 := h.c2
  obtain ⟨x0, y0, h0⟩ := h.h0
  obtain ⟨x1, y1, h1⟩ := h.h1
  obtain ⟨x2, y2, h2⟩ := h.h2
  have N : Hid (a0 ≠ a1 ∧ a0 ≠ a2 ∧ a1 ≠ a2) := ⟨h.n01, h.n02, h.n12⟩
  have H0 : Hid _ := h0
  have H1 : Hid _ := h1
  have H2 : Hid _ := h2
  clear h h0 h1 h2
  go_enter Tryz.func28, Tryz.ntmps28
  go_wp2_with fail
  refine (is_apart a2 a0 _ _ _ _ w (fun e => N.out.2.1 e.symm) H2.out H0.out).mono ?_
  rintro e w' ⟨rfl, hw⟩
  have hw2 := hw.symm
  subst hw2
  clear hw
  go_wp2_with fail
  refine (is_apart a2 a1 _ _ _ _ w (fun e => N.out.2.2 e.symm) H2.out H1.out).mono ?_
  rintro e w' ⟨rfl, hw⟩
  have hw2 := hw.symm
  subst hw2
  clear hw
  go_wp2_with fail
  refine (is_self a2 w).mono ?_
  rintro e w' ⟨rfl, hw⟩
  have hw2 := hw.symm
  subst hw2
  clear hw
  go_wp2
  go_ret
  exact ⟨rfl, rfl⟩
end Go.Proofs.YtefiiobdlfdbjaaGreatDoor
/- change at a put, all of it. -/
namespace Go.Proofs.YtefiiobdlfdbjaaGreatDoor
open Go.RowKit Go.Maps Go.WideMaps
set_option linter.unusedVariables false

theorem src_off {w y z : World} {a : Option Addr} {c m2 : Nat} {l : List W.WantD} (h : W.Src w a c l) (hb : Below w.heap.size w y) (ho : Off (fun j => j = m2) y z) (hm : w.heap.size ≤ m2) : W.Src z a c l := by
  rcases h with h | ⟨g, h1, h2, h3⟩
  · exact Or.inl h
  · have hgy : g < y.heap.size := Nat.lt_of_lt_of_le h2 hb.size
    have hne : ¬ (g = m2) := by omega
    refine Or.inr ⟨g, h1, Nat.lt_of_lt_of_le hgy ho.size, fun k r hr j v hj => ?_⟩
    exact (ho.cell (p := ⟨g, 0 + k * 7 + j, none⟩) hgy hne).trans ((h3.keep h2 hb) k r hr j v hj)
theorem cell_off {w y z : World} {g m2 : Nat} {v : Value} (h : w.cell? ⟨g, 0, none⟩ = some v) (hz : g < w.heap.size) (hb : Below w.heap.size w y) (ho : Off (fun j => j = m2) y z) (hm : w.heap.size ≤ m2) : z.cell? ⟨g, 0, none⟩ = some v :=
  (ho.cell (p := ⟨g, 0, none⟩) (Nat.lt_of_lt_of_le hz hb.size) (by show ¬ (g = m2); omega)).trans ((hb.cell (p := ⟨g, 0, none⟩) hz).trans h)
/-- What an error says. -/
def CodeOf (a0 a1 a2 : Addr) (er : Value) (code : Int) : Prop :=
  (er = .nilIface ∧ code = 0) ∨ (er = .iface 169 (.pointer (some a0)) ∧ code = 1) ∨ (er = .iface 169 (.pointer (some a1)) ∧ code = 2) ∨ (er = .iface 169 (.pointer (some a2)) ∧ code = 3)
theorem code_any {w : World} {a0 a1 a2 : Addr} {er : Value} {code : Int} (h : Er3 w a0 a1 a2) (hc : CodeOf a0 a1 a2 er code) : Calls Tryz.prog 28 #[er] w fun e w' => e = .returned (.int .i64 code) ∧ w' = w := by
  rcases hc with ⟨rfl, rfl⟩ | ⟨rfl, rfl⟩ | ⟨rfl, rfl⟩ | ⟨rfl, rfl⟩
  · exact code_none h
  · exact code_0 h
  · exact code_1 h
  · exact code_2 h
theorem change_put (hK1 : G.KeysSay) (hS1 : G.SortedSay) (hK2 : Pr.KeysSay) (hS2 : Pr.SortedSay) (t : Int) (gs : List G.GrantD) (ps : List P.PlaceD) (b1 b2 : Nat) (b : ByteArray) (aw : Option Addr) (cw : Nat) (ws : List W.WantD) (bb wb : Nat) (w : World) (hA : P.LandAt w gs ps b1 b2) (hF : P.Fit gs ps) (hW : W.Src w aw cw ws) (hb : b.size ≤ maxLen) (hcw : ws.length ≤ cw) (hwf : ∀ r ∈ ws, r.fits) (hwl : ws.length ≤ 1048576)
    (k1 : w.cell? ⟨bb, 0, none⟩ = some (.string b)) (zb : bb < w.heap.size) (k2 : w.cell? ⟨wb, 0, none⟩ = some (.slice aw ws.length cw)) (zw : wb < w.heap.size) (a0 a1 a2 : Addr) (hE : Er3 w a0 a1 a2) :
    Calls Tryz.prog 25 #[.agg #[.int .i64 t, .slice (some ⟨b1, 0, none⟩) gs.length gs.length, .slice (some ⟨b2, 0, none⟩) ps.length ps.length], .func (.func 26) #[] #[.pointer (some ⟨bb, 0, none⟩), .pointer (some ⟨wb, 0, none⟩)]] w fun e w' => (∃ t' gs' qs s1 s2 er code, e = .returned (.tuple #[.agg #[.int .i64 t', s1, s2], .slice none 0 0, er]) ∧ PutSay t gs ps b ws t' gs' qs code ∧ LdO w' w.heap.size gs' qs s1 s2 ∧ CodeOf a0 a1 a2 er code) ∧ Below w.heap.size w w' := by
  by_cases hok : P.LandSay t gs ps
  · have hpl : ps.length ≤ 4 := hok.2.2.1.1
    by_cases hn : nameB b = true ∧ (ws.length ≤ 10 ∧ W.AllW ws ws.length)
    · have PY : ∀ y d m1 m2, Below w.heap.size w y → w.heap.size + 2 ≤ d → w.heap.size + 2 ≤ m2 → d ≠ m2 → Book y d t m1 m2 gs (ps.map Pr.raw) → (∃ n, n ≤ 1048576 ∧ y.ownsMap Tryz.prog 9 Pr.RV m2 n (Pr.dec (ps.map Pr.raw))) → Calls Tryz.prog 27 #[.pointer (some ⟨d, 0, none⟩), .string b, .slice aw ws.length cw] y fun e w' => (∃ er, e = .returned er ∧ ((P.LandSay t gs (putP b none 0 ws ps) ∧ er = .nilIface) ∨ (¬ P.LandSay t gs (putP b none 0 ws ps) ∧ er = .iface 169 (.pointer (some a2))))) ∧ Book w' d t m1 m2 gs ((putP b aw cw ws ps).map Pr.raw) ∧ Off (fun j => j = m2) y w' := fun y d m1 m2 hy hd hm hdm hB hnb =>
        put_yes hK1 hS1 hK2 hS2 d m1 m2 t gs ps b aw cw ws y hB hdm hnb hok hF (fun z hz q hq => src_off (src_blk (hA.k q hq)) hy hz (by omega)) (fun z hz => src_off hW hy hz (by omega)) hb hcw hwf hn _ _ (fun z hz => cell_off hE.c2 hE.z2 hy hz (by omega))
      have C1 : ∀ y, Below w.heap.size w y → y.cell? ⟨bb, 0, none⟩ = some (.string b) ∧ y.cell? ⟨wb, 0, none⟩ = some (.slice aw ws.length cw) := fun y hy => ⟨(hy.cell (p := ⟨bb, 0, none⟩) zb).trans k1, (hy.cell (p := ⟨wb, 0, none⟩) zw).trans k2⟩
      by_cases hfine : P.LandSay t gs (putP b none 0 ws ps)
      · refine (change_pgo hK1 hS1 hK2 hS2 t gs ps b1 b2 w _ hA hF hok bb wb (putP b aw cw ws ps) ?_ ?_ rfl).mono ?_
        · intro y d m1 m2 hy hB
          have hfit' := fit_put (aw := aw) (cw := cw) hF hb hwf hwl hpl
          have hsrt' : Ord.Srt keyP (putP b aw cw ws ps) := Ord.insS_srt keyP _ ps (srtP hok.2.2.1.2.1)
          exact told_any hK1 hS1 hK2 hS2 d m1 m2 t gs _ _ rfl y hB (G.srt_asc hok.2.1.2.1) (srtP_raw hsrt') (fun r hr => (hfit'.g r hr).1) (fun r hr => by obtain ⟨p, hp, rfl⟩ := List.mem_map.1 hr; exact (hfit'.p p hp).1) hfit'.gl (by rw [List.length_map]; exact hfit'.pl) (fun q hq => by
            rcases Ord.insS_mem keyP _ ps q hq with rfl | h
            · exact ⟨hW.keep hy, hwl⟩
            · exact ⟨(src_blk (hA.k q h)).keep hy, hF.ln q h⟩)
        · intro y d m1 m2 hy hd hm hdm hB hnb
          refine (work_put d bb wb b _ y (fun er w' => er = .nilIface ∧ Book w' d t m1 m2 gs ((putP b aw cw ws ps).map Pr.raw) ∧ Off (fun j => j = m2) y w') (C1 y hy).1 (C1 y hy).2 ⟨_, _, _, rfl⟩ ((PY y d m1 m2 hy hd hm hdm hB hnb).mono ?_)).mono ?_
          · rintro e w' ⟨⟨er, rfl, h⟩, h2, h3⟩
            rcases h with ⟨-, rfl⟩ | ⟨h, -⟩
            · exact ⟨_, rfl, rfl, h2, h3⟩
            · exact (h hfine).elim
          · rintro e w' ⟨er, rfl, rfl, h2, h3⟩
            exact ⟨rfl, h2, h3⟩
        · rintro e w' ⟨⟨qs, s1, s2, rfl, hl, hL⟩, hbl⟩
          exact ⟨⟨t, gs, qs, s1, s2, _, 0, rfl, Or.inr ⟨hok, rfl, rfl, Or.inr (Or.inr ⟨hn, hfine, hl.trans (putP_like rfl), rfl⟩)⟩, hL, Or.inl ⟨rfl, rfl⟩⟩, hbl⟩
      · refine (change_perr hK1 hS1 hK2 hS2 t gs ps b1 b2 w _ hA hF hok bb wb 169 (.pointer (some a2)) ?_ rfl).mono ?_
        · intro y d m1 m2 hy hd hm hdm hB hnb
          refine (work_put d bb wb b _ y (fun er w' => er = .iface 169 (.pointer (some a2)) ∧ Off (fun j => j = m2) y w') (C1 y hy).1 (C1 y hy).2 ⟨_, _, _, rfl⟩ ((PY y d m1 m2 hy hd hm hdm hB hnb).mono ?_)).mono ?_
          · rintro e w' ⟨⟨er, rfl, h⟩, h2, h3⟩
            rcases h with ⟨h, -⟩ | ⟨-, rfl⟩
            · exact (hfine h).elim
            · exact ⟨_, rfl, rfl, h3⟩
          · rintro e w' ⟨er, rfl, rfl, h3⟩
            exact ⟨rfl, h3⟩
        · rintro e w' ⟨⟨qs, s1, s2, rfl, hl, hL⟩, hbl⟩
          exact ⟨⟨t, gs, qs, s1, s2, _, 3, rfl, Or.inr ⟨hok, rfl, rfl, Or.inr (Or.inl ⟨hn, hfine, hl, rfl⟩)⟩, hL, Or.inr (Or.inr (Or.inr ⟨rfl, rfl⟩))⟩, hbl⟩
    · refine (change_perr hK1 hS1 hK2 hS2 t gs ps b1 b2 w _ hA hF hok bb wb 169 (.pointer (some a1)) ?_ rfl).mono ?_
      · intro y d m1 m2 hy hd hm hdm hB hnb
        have C1 : y.cell? ⟨bb, 0, none⟩ = some (.string b) ∧ y.cell? ⟨wb, 0, none⟩ = some (.slice aw ws.length cw) := ⟨(hy.cell (p := ⟨bb, 0, none⟩) zb).trans k1, (hy.cell (p := ⟨wb, 0, none⟩) zw).trans k2⟩
        have hEy := hE.keep hy
        refine (work_put d bb wb b _ y (fun er w' => er = .iface 169 (.pointer (some a1)) ∧ Below y.heap.size y w') C1.1 C1.2 ⟨_, _, _, rfl⟩ ((put_no d b aw cw ws y hb (hW.keep hy).gv hcw hwf hwl hn _ _ hEy.c1 hEy.z1).mono ?_)).mono ?_
        · rintro e w' ⟨rfl, h3⟩
          exact ⟨_, rfl, rfl, h3⟩
        · rintro e w' ⟨er, rfl, rfl, h3⟩
          exact ⟨rfl, Off.of_below h3⟩
      · rintro e w' ⟨⟨qs, s1, s2, rfl, hl, hL⟩, hbl⟩
        exact ⟨⟨t, gs, qs, s1, s2, _, 2, rfl, Or.inr ⟨hok, rfl, rfl, Or.inl ⟨hn, hl, rfl⟩⟩, hL, Or.inr (Or.inr (Or.inl ⟨rfl, rfl⟩))⟩, hbl⟩
  · refine (change_pno t gs ps b1 b2 w _ hA hF hok _ hE.c0 hE.z0 ⟨_, _, rfl⟩).mono ?_
    rintro e w' ⟨rfl, hbl⟩
    exact ⟨⟨0, [], [], _, _, _, 1, rfl, Or.inl ⟨hok, rfl, rfl, rfl, rfl⟩, LdO.nil _ _, Or.inr (Or.inl ⟨rfl, rfl⟩)⟩, hbl⟩
end Go.Proofs.YtefiiobdlfdbjaaGreatDoor
/- impl.MatePut. -/
namespace Go.Proofs.YtefiiobdlfdbjaaGreatDoor
open Go.RowKit Go.Maps Go.WideMaps
set_option linter.unusedVariables false

set_option maxRecDepth 4000 in
set_option maxHeartbeats 4000000 in
theorem implPut (hK1 : G.KeysSay) (hS1 : G.SortedSay) (hK2 : Pr.KeysSay) (hS2 : Pr.SortedSay) (t : Int) (gs : List G.GrantD) (ps : List P.PlaceD) (b1 b2 : Nat) (b : ByteArray) (aw : Option Addr) (cw : Nat) (ws : List W.WantD) (w : World) (hA : P.LandAt w gs ps b1 b2) (hF : P.Fit gs ps) (hW : W.Src w aw cw ws) (hb : b.size ≤ maxLen) (hcw : ws.length ≤ cw) (hwf : ∀ r ∈ ws, r.fits) (hwl : ws.length ≤ 1048576) (a0 a1 a2 : Addr) (hE : Er3 w a0 a1 a2) :
    Calls Tryz.prog 9 #[.agg #[.int .i64 t, .slice (some ⟨b1, 0, none⟩) gs.length gs.length, .slice (some ⟨b2, 0, none⟩) ps.length ps.length], .string b, .slice aw ws.length cw] w fun e w' => (∃ t' gs' qs s1 s2 code, e = .returned (.tuple #[.agg #[.int .i64 t', s1, s2], .int .i64 code]) ∧ PutSay t gs ps b ws t' gs' qs code ∧ LdO w' w.heap.size gs' qs s1 s2) ∧ Below w.heap.size w w' := by
  obtain ⟨W1, hW1⟩ : ∃ W1, W1 = (((w.alloc (.cells #[.int .i64 t, .slice (some ⟨b1, 0, none⟩) gs.length gs.length, .slice (some ⟨b2, 0, none⟩) ps.length ps.length] 32)).alloc (.cells #[.string b] 9)).alloc (.cells #[.slice aw ws.length cw] 36)).alloc (.cells #[.int .i64 0, .slice none 0 0, .slice none 0 0] 32) := ⟨_, rfl⟩
  have HW1 : Hid (W1 = (((w.alloc (.cells #[.int .i64 t, .slice (some ⟨b1, 0, none⟩) gs.length gs.length, .slice (some ⟨b2, 0, none⟩) ps.length ps.length] 32)).alloc (.cells #[.string b] 9)).alloc (.cells #[.slice aw ws.length cw] 36)).alloc (.cells #[.int .i64 0, .slice none 0 0, .slice none 0 0] 32)) := hW1
  have B1 : Hid (Below w.heap.size w W1) := by rw [hW1]; exact bl_alloc (bl_alloc (bl_alloc (bl_alloc (Below.refl _ _) _) _) _) _
  have Z1 : Hid (W1.heap.size = w.heap.size + 4) := by rw [hW1]; show _ = _; simp
  have kb : W1.cell? ⟨w.heap.size + 1, 0, none⟩ = some (.string b) := by rw [hW1]; simp [go_sem, World.cell?_alloc_past]
  have kw : W1.cell? ⟨w.heap.size + 1 + 1, 0, none⟩ = some (.slice aw ws.length cw) := by rw [hW1]; simp [go_sem, World.cell?_alloc_past]
  have T1 : Hid (∀ y, Below W1.heap.size W1 y → y.heap[w.heap.size + 1 + 1 + 1]? = some (.cells #[.int .i64 0, .slice none 0 0, .slice none 0 0] 32 (0, 0))) := by
    intro y hy
    refine (hy.block _ (by have := Z1.out; omega)).trans ?_
    rw [hW1]
    have h := heap_alloc_newL (((w.alloc (.cells #[.int .i64 t, .slice (some ⟨b1, 0, none⟩) gs.length gs.length, .slice (some ⟨b2, 0, none⟩) ps.length ps.length] 32)).alloc (.cells #[.string b] 9)).alloc (.cells #[.slice aw ws.length cw] 36)) (.cells #[.int .i64 0, .slice none 0 0, .slice none 0 0] 32)
    simp only [World.size_alloc] at h
    exact h
  have CH : Hid (Calls Tryz.prog 25 #[.agg #[.int .i64 t, .slice (some ⟨b1, 0, none⟩) gs.length gs.length, .slice (some ⟨b2, 0, none⟩) ps.length ps.length], .func (.func 26) #[] #[.pointer (some ⟨w.heap.size + 1, 0, none⟩), .pointer (some ⟨w.heap.size + 1 + 1, 0, none⟩)]] W1 fun e w' => (∃ t' gs' qs s1 s2 er code, e = .returned (.tuple #[.agg #[.int .i64 t', s1, s2], .slice none 0 0, er]) ∧ PutSay t gs ps b ws t' gs' qs code ∧ LdO w' W1.heap.size gs' qs s1 s2 ∧ CodeOf a0 a1 a2 er code) ∧ Below W1.heap.size W1 w') :=
    change_put hK1 hS1 hK2 hS2 t gs ps b1 b2 b aw cw ws _ _ W1 (hA.keep B1.out) hF (hW.keep B1.out) hb hcw hwf hwl kb (by have := Z1.out; omega) kw (by have := Z1.out; omega) a0 a1 a2 (hE.keep B1.out)
  have ER : Hid (∀ y, Below w.heap.size w y → Er3 y a0 a1 a2) := fun y hy => hE.keep hy
  clear hK1 hS1 hK2 hS2 hA hF hW hE hW1 kb kw hwf
  go_enter Tryz.func9, Tryz.ntmps9
  go_wp2_with fail
  rw [← HW1.out]
  refine CH.out.mono ?_
  rintro e w2 ⟨⟨t', gs', qs, s1, s2, er, code, rfl, hS, hL, hC⟩, c2⟩
  obtain ⟨x1, p1, rfl⟩ := G.Sl.shape hL.g
  obtain ⟨x2, p2, hs2⟩ := Pr.Sl.shape hL.p.o
  rw [List.length_map] at hs2
  subst hs2
  have HS : Hid (PutSay t gs ps b ws t' gs' qs code) := hS
  have HC : Hid (CodeOf a0 a1 a2 er code) := hC
  have HL : Hid (LdO w2 W1.heap.size gs' qs (.slice x1 gs'.length p1) (.slice x2 qs.length p2)) := hL
  have D2 : Hid (Below W1.heap.size W1 w2) := c2
  obtain ⟨W3, hW3⟩ : ∃ W3, W3 = w2.alloc (.cells #[.int .i64 t', .slice x1 gs'.length p1, .slice x2 qs.length p2] 32) := ⟨_, rfl⟩
  have HW3 : Hid (W3 = w2.alloc (.cells #[.int .i64 t', .slice x1 gs'.length p1, .slice x2 qs.length p2] 32)) := hW3
  have D3 : Hid (Below W1.heap.size W1 W3) := by rw [hW3]; exact bl_trans c2 (bl_alloc (Below.refl _ _) _)
  have B3 : Hid (Below w.heap.size w W3) := bl_trans B1.out D3.out
  have p0 : W3.cell? ⟨w2.heap.size, 0, none⟩ = some (.int .i64 t') := by rw [hW3]; simp [go_sem]
  have q1 : W3.cell? ⟨w2.heap.size, 1, none⟩ = some (.slice x1 gs'.length p1) := by rw [hW3]; simp [go_sem]
  have q2 : W3.cell? ⟨w2.heap.size, 2, none⟩ = some (.slice x2 qs.length p2) := by rw [hW3]; simp [go_sem]
  have hT := T1.out W3 D3.out
  have t0 : W3.cell? ⟨w.heap.size + 1 + 1 + 1, 0, none⟩ = some (.int .i64 0) := by simp [World.cell?, hT]
  have t1 : W3.cell? ⟨w.heap.size + 1 + 1 + 1, 1, none⟩ = some (.slice none 0 0) := by simp [World.cell?, hT]
  have t2 : W3.cell? ⟨w.heap.size + 1 + 1 + 1, 2, none⟩ = some (.slice none 0 0) := by simp [World.cell?, hT]
  have z0 : W3.frozen? ⟨w.heap.size + 1 + 1 + 1, 0, none⟩ = false := by simp [World.frozen?, hT]
  have z1 : W3.frozen? ⟨w.heap.size + 1 + 1 + 1, 1, none⟩ = false := by simp [World.frozen?, hT]
  have z2 : W3.frozen? ⟨w.heap.size + 1 + 1 + 1, 2, none⟩ = false := by simp [World.frozen?, hT]
  have hn1 : ¬ (w2.heap.size = w.heap.size + 1 + 1 + 1) := by have h1 := c2.size; have h2 := Z1.out; omega
  have hn2 : ¬ (w.heap.size + 1 + 1 + 1 = w2.heap.size) := by have h1 := c2.size; have h2 := Z1.out; omega
  have HL3 : Hid (LdO W3 W1.heap.size gs' qs (.slice x1 gs'.length p1) (.slice x2 qs.length p2)) := by rw [hW3]; exact hL.keep (bl_alloc (Below.refl _ _) _)
  have FIN : Hid (∀ n, LdO ((((W3.drewN n).setCell ⟨w.heap.size + 1 + 1 + 1, 0, none⟩ (.int .i64 t')).setCell ⟨w.heap.size + 1 + 1 + 1, 1, none⟩ (.slice x1 gs'.length p1)).setCell ⟨w.heap.size + 1 + 1 + 1, 2, none⟩ (.slice x2 qs.length p2)) w.heap.size gs' qs (.slice x1 gs'.length p1) (.slice x2 qs.length p2) ∧ Below w.heap.size w ((((W3.drewN n).setCell ⟨w.heap.size + 1 + 1 + 1, 0, none⟩ (.int .i64 t')).setCell ⟨w.heap.size + 1 + 1 + 1, 1, none⟩ (.slice x1 gs'.length p1)).setCell ⟨w.heap.size + 1 + 1 + 1, 2, none⟩ (.slice x2 qs.length p2))) := by
    intro n
    have hz : W1.heap.size = w.heap.size + 4 := Z1.out
    have hx : Ex (w.heap.size + 1 + 1 + 1) (W3.drewN n) ((((W3.drewN n).setCell ⟨w.heap.size + 1 + 1 + 1, 0, none⟩ (.int .i64 t')).setCell ⟨w.heap.size + 1 + 1 + 1, 1, none⟩ (.slice x1 gs'.length p1)).setCell ⟨w.heap.size + 1 + 1 + 1, 2, none⟩ (.slice x2 qs.length p2)) := (((Ex.refl _ _).set _ _).set _ _).set _ _
    have hd : Below W3.heap.size W3 (W3.drewN n) := ⟨rfl, rfl, rfl, Nat.le_refl _, fun _ _ => rfl⟩
    exact ⟨((HL3.out.keep hd).off (off_of_ex hx) (fun g hg e => by have := (HL3.out.lt g hg).1; omega)).low (by omega), Ex.mono (bl_trans B3.out hd) hx (by omega)⟩
  clear hS hL hC c2 CH hT hW3
  go_wp2_with fail
  rw [← HW3.out]
  go_region_with (first | (go_at_call 28; refine (code_any ?_ HC.out).mono ?_; exact ER.out _ (by repeat (first | exact B3.out | refine bl_set ?_ (by show w.heap.size ≤ _; omega) _ | refine bl_drew ?_)); rintro e w' ⟨rfl, hw⟩; have hw2 := hw.symm; subst hw2; clear hw))
  all_goals (try go_wp2)
  all_goals exact bodyPost_ret (v := .tuple #[.agg #[.int .i64 t', .slice x1 gs'.length p1, .slice x2 qs.length p2], .int .i64 code]) (by simp [results, Tryz.results9, go_sem, t0, t1, t2]) rfl ⟨⟨t', gs', qs, _, _, code, rfl, HS.out, (FIN.out _).1⟩, (FIN.out _).2⟩
end Go.Proofs.YtefiiobdlfdbjaaGreatDoor
