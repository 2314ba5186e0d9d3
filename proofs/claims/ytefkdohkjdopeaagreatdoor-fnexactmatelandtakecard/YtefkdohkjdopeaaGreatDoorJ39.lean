import Derived.Test.YtefkdohkjdopeaaGreatDoorJ18
import Derived.Test.YtefkdohkjdopeaaGreatDoorJ10
import Derived.Deep.RegionHeld3
import Derived.Laws.Pointers
import Derived.StillTactics
namespace Go.Proofs.YtefkdohkjdopeaaGreatDoor
open Go.RowKit
set_option linter.unusedVariables false
def stPc (k : Int) (q : Pc.PcD) : Int := k + 1 + 1 + 1 + 7 * (q.ws.length : Int) + 1 + 1 + 1
def mkPc (k : Int) (q : Pc.PcD) : Pc.PcD := ⟨k, markB (k + 1), k + 1 + 1, q.a, q.c, W.marks (k + 1 + 1 + 1) q.ws.length, markB (k + 1 + 1 + 1 + 7 * (q.ws.length : Int)), markB (k + 1 + 1 + 1 + 7 * (q.ws.length : Int) + 1), k + 1 + 1 + 1 + 7 * (q.ws.length : Int) + 1 + 1⟩
theorem foldPc_bound (k0 : Int) (qs : List Pc.PcD) (hL : ∀ q ∈ qs, q.ws.length ≤ 1048576) (m : Nat) : k0 ≤ foldK stPc k0 qs m ∧ foldK stPc k0 qs m ≤ k0 + 7340038 * (m : Int) :=
 foldK_bound stPc k0 qs 7340038 (fun k a ha => by have h1 := hL a ha; unfold stPc; omega) (by omega) m
theorem rowPc {w : World} {g n cap B m : Nat} {l : List Pc.PcD} {q : Pc.PcD} (h : PcO w B l (.slice (some ⟨g, 0, none⟩) n cap)) (hq : l[m]? = some q) :
  g < w.heap.size ∧ (w.cell? ⟨g, m * 7, none⟩ = some (.int .i64 q.k) ∧ w.cell? ⟨g, m * 7 + 1, none⟩ = some (.string q.b) ∧ w.cell? ⟨g, m * 7 + 2, none⟩ = some (.int .i64 q.s) ∧ w.cell? ⟨g, m * 7 + 3, none⟩ = some (.slice q.a q.ws.length q.c) ∧ w.cell? ⟨g, m * 7 + 4, none⟩ = some (.string q.h) ∧ w.cell? ⟨g, m * 7 + 5, none⟩ = some (.string q.p) ∧ w.cell? ⟨g, m * 7 + 6, none⟩ = some (.int .i64 q.t)) ∧ (w.frozen? ⟨g, m * 7, none⟩ = false ∧ w.frozen? ⟨g, m * 7 + 1, none⟩ = false ∧ w.frozen? ⟨g, m * 7 + 2, none⟩ = false ∧ w.frozen? ⟨g, m * 7 + 3, none⟩ = false ∧ w.frozen? ⟨g, m * 7 + 4, none⟩ = false ∧ w.frozen? ⟨g, m * 7 + 5, none⟩ = false ∧ w.frozen? ⟨g, m * 7 + 6, none⟩ = false) := by
 obtain ⟨g', cap', hv, h1, h2, h3⟩ := h.o.row (show (l.map Pc.raw)[m]? = some (Pc.raw q) by rw [List.getElem?_map, hq]; rfl)
 injection hv with e1 e2 e3
 injection e1 with e1
 injection e1 with e1
 subst e1
 have hc := h2 m _ (show (l.map Pc.raw)[m]? = some (Pc.raw q) by rw [List.getElem?_map, hq]; rfl)
 have c0 := hc 0 _ rfl
 have f0 := h3 0 (by omega)
 have c1 := hc 1 _ rfl
 have f1 := h3 1 (by omega)
 have c2 := hc 2 _ rfl
 have f2 := h3 2 (by omega)
 have c3 := hc 3 _ rfl
 have f3 := h3 3 (by omega)
 have c4 := hc 4 _ rfl
 have f4 := h3 4 (by omega)
 have c5 := hc 5 _ rfl
 have f5 := h3 5 (by omega)
 have c6 := hc 6 _ rfl
 have f6 := h3 6 (by omega)
 simp only [Nat.zero_add, Nat.add_zero] at c0 c1 c2 c3 c4 c5 c6 f0 f1 f2 f3 f4 f5 f6
 exact ⟨h1, ⟨c0, c1, c2, c3, c4, c5, c6⟩, ⟨f0, f1, f2, f3, f4, f5, f6⟩⟩
theorem markPc_zero (a : Option Addr) (c : Nat) (k : Int) (w : World) : Calls Tryz.prog 15 #[.slice a 0 c, .int .i64 k] w fun e w' => e = .returned (.int .i64 k) ∧ w' = w := by
 go_enter Tryz.func15, Tryz.ntmps15
 go_wp2
 refine wp_loop_rounds 1 ?_
 rw [rounds_succ]
 go_wp2
 go_ret
 exact ⟨rfl, rfl⟩
theorem heldPc_zero (a : Option Addr) (c : Nat) (k : Int) (w : World) : Calls Tryz.prog 17 #[.slice a 0 c, .int .i64 k] w fun e w' => e = .returned (.int .i64 k) ∧ w' = w := by
 go_enter Tryz.func17, Tryz.ntmps17
 go_wp2
 refine wp_loop_rounds 1 ?_
 rw [rounds_succ]
 go_wp2
 go_ret
 exact ⟨rfl, rfl⟩
set_option maxRecDepth 4000 in
set_option maxHeartbeats 4000000 in
theorem markPc_at (qs : List Pc.PcD) (g cap B : Nat) (k0 : Int) (w : World) (h : PcO w B (qs) (.slice (some ⟨g, 0, none⟩) qs.length cap)) (hl : qs.length ≤ 1048576) (hL : ∀ q ∈ qs, q.ws.length ≤ 1048576) (h0 : 0 ≤ k0) (h1 : k0 ≤ 1000000000000) :
  Calls Tryz.prog 15 #[.slice (some ⟨g, 0, none⟩) qs.length cap, .int .i64 k0] w fun e w' => e = .returned (.int .i64 (foldK stPc k0 qs qs.length)) ∧ PcO w' B (markL stPc mkPc k0 qs qs.length) (.slice (some ⟨g, 0, none⟩) qs.length cap) ∧ Off (PcO.bs qs (.slice (some ⟨g, 0, none⟩) qs.length cap)) w w' := by
 have HH : Hid (PcO w B (qs) (.slice (some ⟨g, 0, none⟩) qs.length cap)) := h
 have HL : Hid (∀ q ∈ qs, q.ws.length ≤ 1048576) := hL
 have FB : Hid (∀ m, k0 ≤ foldK stPc k0 qs m ∧ foldK stPc k0 qs m ≤ k0 + 7340038 * (m : Int)) := fun m => foldPc_bound k0 qs hL m
 clear h hL
 go_enter Tryz.func15, Tryz.ntmps15
 go_wp2
 go_loopw [1, 5] (fun q i wx => ∃ (m : Nat) (kk : Int), m ≤ qs.length ∧ i = .int .i64 m ∧ q = .int .i64 kk ∧ Hid (kk = foldK stPc k0 qs m) ∧ 0 ≤ kk ∧ kk ≤ 9000000000000 ∧ Hid (PcO wx B (markL stPc mkPc k0 qs m) (.slice (some ⟨g, 0, none⟩) qs.length cap)) ∧ Hid (Off (PcO.bs qs (.slice (some ⟨g, 0, none⟩) qs.length cap)) w wx)) (fun _ i _ => qs.length - (intOf i).toNat)
 case atStart => exact ⟨0, k0, Nat.zero_le _, rfl, rfl, rfl, h0, by omega, HH.out, Off.refl _ _⟩
 case round =>
  obtain ⟨m, kk, hm, rfl, rfl, Hk, k1, k2, HP, HO⟩ := hrel
  by_cases hlt : m < qs.length
  ·
   obtain ⟨q, hq⟩ : ∃ q, qs[m]? = some q := ⟨qs[m], List.getElem?_eq_getElem hlt⟩
   have HQ : Hid (qs[m]? = some q) := hq
   have HM : Hid ((markL stPc mkPc k0 qs m)[m]? = some q) := (markL_old _ _ _ _ m m (Nat.le_refl _)).trans hq
   have Hml : Hid (m < (markL stPc mkPc k0 qs m).length) := by show _ < _; rw [markL_len]; exact hlt
   have FN : Hid (stPc kk q = foldK stPc k0 qs (m + 1)) := by rw [Hk.out]; exact (foldK_succ hq).symm
   have hbd : stPc kk q ≤ 9000000000000 := by
    have h2 := (FB.out (m + 1)).2
    rw [FN.out]
    omega
   have hlq : q.ws.length ≤ 1048576 := HL.out q (List.mem_of_getElem? hq)
   unfold stPc at hbd
   clear hq
   obtain ⟨gz, ⟨c0, c1, c2, c3, c4, c5, c6⟩, ⟨f0, f1, f2, f3, f4, f5, f6⟩⟩ := rowPc (q := q) HP.out HM.out
   go_wp2_with fail
   clear gz c0 f0 c1 f1 c2 f2 c3 f3 c4 f4 c5 f5 c6 f6
   have A1 : Hid (PcO (wr.setCell ⟨g, m * 7, none⟩ (.int .i64 kk)) B ((markL stPc mkPc k0 qs m).set m (⟨kk, q.b, q.s, q.a, q.c, q.ws, q.h, q.p, q.t⟩ : Pc.PcD)) (.slice (some ⟨g, 0, none⟩) qs.length cap)) := by
    have hh := HP.out.setc (j := 0) (u := .int .i64 kk) (q := q) (q' := (⟨kk, q.b, q.s, q.a, q.c, q.ws, q.h, q.p, q.t⟩ : Pc.PcD)) (HM.out) (by omega) rfl rfl rfl rfl
    rw [Nat.add_zero] at hh
    exact hh
   have C1 : Hid (Off (PcO.bs qs (.slice (some ⟨g, 0, none⟩) qs.length cap)) w (wr.setCell ⟨g, m * 7, none⟩ (.int .i64 kk))) := HO.out.trans (Off.of_grown (W.ex_grown ((Ex.refl _ _).set _ _)) (fun j e => Or.inl (by cases e; rfl)))
   refine (markText_any (kk + 1) (by omega) _).mono ?_
   rintro e w2 ⟨rfl, b2⟩
   have A2 : Hid (PcO w2 B ((markL stPc mkPc k0 qs m).set m (⟨kk, q.b, q.s, q.a, q.c, q.ws, q.h, q.p, q.t⟩ : Pc.PcD)) (.slice (some ⟨g, 0, none⟩) qs.length cap)) := A1.out.keep b2
   have C2 : Hid (Off (PcO.bs qs (.slice (some ⟨g, 0, none⟩) qs.length cap)) w w2) := C1.out.trans (Off.of_below b2)
   clear b2
   obtain ⟨gz, ⟨c0, c1, c2, c3, c4, c5, c6⟩, ⟨f0, f1, f2, f3, f4, f5, f6⟩⟩ := rowPc (q := (⟨kk, q.b, q.s, q.a, q.c, q.ws, q.h, q.p, q.t⟩ : Pc.PcD)) A2.out (by rw [List.getElem?_set_self Hml.out])
   go_wp2_with fail
   clear gz c0 f0 c1 f1 c2 f2 c3 f3 c4 f4 c5 f5 c6 f6
   have A3 : Hid (PcO (w2.setCell ⟨g, m * 7 + 1, none⟩ (.string (markB (kk + 1)))) B ((markL stPc mkPc k0 qs m).set m (⟨kk, markB (kk + 1), q.s, q.a, q.c, q.ws, q.h, q.p, q.t⟩ : Pc.PcD)) (.slice (some ⟨g, 0, none⟩) qs.length cap)) := by
    have hh := A2.out.setc (j := 1) (u := .string (markB (kk + 1))) (q := (⟨kk, q.b, q.s, q.a, q.c, q.ws, q.h, q.p, q.t⟩ : Pc.PcD)) (q' := (⟨kk, markB (kk + 1), q.s, q.a, q.c, q.ws, q.h, q.p, q.t⟩ : Pc.PcD)) (by rw [List.getElem?_set_self Hml.out]) (by omega) rfl rfl rfl rfl
    rw [List.set_set] at hh
    exact hh
   have C3 : Hid (Off (PcO.bs qs (.slice (some ⟨g, 0, none⟩) qs.length cap)) w (w2.setCell ⟨g, m * 7 + 1, none⟩ (.string (markB (kk + 1))))) := C2.out.trans (Off.of_grown (W.ex_grown ((Ex.refl _ _).set _ _)) (fun j e => Or.inl (by cases e; rfl)))
   have A4 : Hid (PcO ((w2.setCell ⟨g, m * 7 + 1, none⟩ (.string (markB (kk + 1)))).setCell ⟨g, m * 7 + 2, none⟩ (.int .i64 (kk + 1 + 1))) B ((markL stPc mkPc k0 qs m).set m (⟨kk, markB (kk + 1), kk + 1 + 1, q.a, q.c, q.ws, q.h, q.p, q.t⟩ : Pc.PcD)) (.slice (some ⟨g, 0, none⟩) qs.length cap)) := by
    have hh := A3.out.setc (j := 2) (u := .int .i64 (kk + 1 + 1)) (q := (⟨kk, markB (kk + 1), q.s, q.a, q.c, q.ws, q.h, q.p, q.t⟩ : Pc.PcD)) (q' := (⟨kk, markB (kk + 1), kk + 1 + 1, q.a, q.c, q.ws, q.h, q.p, q.t⟩ : Pc.PcD)) (by rw [List.getElem?_set_self Hml.out]) (by omega) rfl rfl rfl rfl
    rw [List.set_set] at hh
    exact hh
   have C4 : Hid (Off (PcO.bs qs (.slice (some ⟨g, 0, none⟩) qs.length cap)) w ((w2.setCell ⟨g, m * 7 + 1, none⟩ (.string (markB (kk + 1)))).setCell ⟨g, m * 7 + 2, none⟩ (.int .i64 (kk + 1 + 1)))) := C3.out.trans (Off.of_grown (W.ex_grown ((Ex.refl _ _).set _ _)) (fun j e => Or.inl (by cases e; rfl)))
   refine (W.mark_sl (A4.out.k m (⟨kk, markB (kk + 1), kk + 1 + 1, q.a, q.c, q.ws, q.h, q.p, q.t⟩ : Pc.PcD) (by rw [List.getElem?_set_self Hml.out])) (kk + 1 + 1 + 1) hlq (by omega) (by omega)).mono ?_
   rintro e w5 ⟨rfl, r5, g5⟩
   have A5 : Hid (PcO w5 B ((markL stPc mkPc k0 qs m).set m (⟨kk, markB (kk + 1), kk + 1 + 1, q.a, q.c, W.marks (kk + 1 + 1 + 1) q.ws.length, q.h, q.p, q.t⟩ : Pc.PcD)) (.slice (some ⟨g, 0, none⟩) qs.length cap)) := by
    have hh := A4.out.wants (m := m) (q := (⟨kk, markB (kk + 1), kk + 1 + 1, q.a, q.c, q.ws, q.h, q.p, q.t⟩ : Pc.PcD)) (q' := (⟨kk, markB (kk + 1), kk + 1 + 1, q.a, q.c, W.marks (kk + 1 + 1 + 1) q.ws.length, q.h, q.p, q.t⟩ : Pc.PcD)) (by rw [List.getElem?_set_self Hml.out]) rfl (W.len_marks _ _) rfl (by show Pc.raw _ = Pc.raw _; unfold Pc.raw; rw [W.len_marks]) r5 g5
    rw [List.set_set] at hh
    exact hh
   have C5 : Hid (Off (PcO.bs qs (.slice (some ⟨g, 0, none⟩) qs.length cap)) w w5) := C4.out.trans (Off.of_grown g5 (fun j e => Or.inr ⟨m, q, HQ.out, e⟩))
   clear r5 g5
   obtain ⟨gz, ⟨c0, c1, c2, c3, c4, c5, c6⟩, ⟨f0, f1, f2, f3, f4, f5, f6⟩⟩ := rowPc (q := (⟨kk, markB (kk + 1), kk + 1 + 1, q.a, q.c, W.marks (kk + 1 + 1 + 1) q.ws.length, q.h, q.p, q.t⟩ : Pc.PcD)) A5.out (by rw [List.getElem?_set_self Hml.out])
   go_wp2_with fail
   clear gz c0 f0 c1 f1 c2 f2 c3 f3 c4 f4 c5 f5 c6 f6
   refine (markText_any (kk + 1 + 1 + 1 + 7 * (q.ws.length : Int)) (by omega) _).mono ?_
   rintro e w6 ⟨rfl, b6⟩
   have A6 : Hid (PcO w6 B ((markL stPc mkPc k0 qs m).set m (⟨kk, markB (kk + 1), kk + 1 + 1, q.a, q.c, W.marks (kk + 1 + 1 + 1) q.ws.length, q.h, q.p, q.t⟩ : Pc.PcD)) (.slice (some ⟨g, 0, none⟩) qs.length cap)) := A5.out.keep b6
   have C6 : Hid (Off (PcO.bs qs (.slice (some ⟨g, 0, none⟩) qs.length cap)) w w6) := C5.out.trans (Off.of_below b6)
   clear b6
   obtain ⟨gz, ⟨c0, c1, c2, c3, c4, c5, c6⟩, ⟨f0, f1, f2, f3, f4, f5, f6⟩⟩ := rowPc (q := (⟨kk, markB (kk + 1), kk + 1 + 1, q.a, q.c, W.marks (kk + 1 + 1 + 1) q.ws.length, q.h, q.p, q.t⟩ : Pc.PcD)) A6.out (by rw [List.getElem?_set_self Hml.out])
   go_wp2_with fail
   clear gz c0 f0 c1 f1 c2 f2 c3 f3 c4 f4 c5 f5 c6 f6
   have A7 : Hid (PcO (w6.setCell ⟨g, m * 7 + 4, none⟩ (.string (markB (kk + 1 + 1 + 1 + 7 * (q.ws.length : Int))))) B ((markL stPc mkPc k0 qs m).set m (⟨kk, markB (kk + 1), kk + 1 + 1, q.a, q.c, W.marks (kk + 1 + 1 + 1) q.ws.length, markB (kk + 1 + 1 + 1 + 7 * (q.ws.length : Int)), q.p, q.t⟩ : Pc.PcD)) (.slice (some ⟨g, 0, none⟩) qs.length cap)) := by
    have hh := A6.out.setc (j := 4) (u := .string (markB (kk + 1 + 1 + 1 + 7 * (q.ws.length : Int)))) (q := (⟨kk, markB (kk + 1), kk + 1 + 1, q.a, q.c, W.marks (kk + 1 + 1 + 1) q.ws.length, q.h, q.p, q.t⟩ : Pc.PcD)) (q' := (⟨kk, markB (kk + 1), kk + 1 + 1, q.a, q.c, W.marks (kk + 1 + 1 + 1) q.ws.length, markB (kk + 1 + 1 + 1 + 7 * (q.ws.length : Int)), q.p, q.t⟩ : Pc.PcD)) (by rw [List.getElem?_set_self Hml.out]) (by omega) rfl rfl rfl rfl
    rw [List.set_set] at hh
    exact hh
   have C7 : Hid (Off (PcO.bs qs (.slice (some ⟨g, 0, none⟩) qs.length cap)) w (w6.setCell ⟨g, m * 7 + 4, none⟩ (.string (markB (kk + 1 + 1 + 1 + 7 * (q.ws.length : Int)))))) := C6.out.trans (Off.of_grown (W.ex_grown ((Ex.refl _ _).set _ _)) (fun j e => Or.inl (by cases e; rfl)))
   refine (markText_any (kk + 1 + 1 + 1 + 7 * (q.ws.length : Int) + 1) (by omega) _).mono ?_
   rintro e w8 ⟨rfl, b8⟩
   have A8 : Hid (PcO w8 B ((markL stPc mkPc k0 qs m).set m (⟨kk, markB (kk + 1), kk + 1 + 1, q.a, q.c, W.marks (kk + 1 + 1 + 1) q.ws.length, markB (kk + 1 + 1 + 1 + 7 * (q.ws.length : Int)), q.p, q.t⟩ : Pc.PcD)) (.slice (some ⟨g, 0, none⟩) qs.length cap)) := A7.out.keep b8
   have C8 : Hid (Off (PcO.bs qs (.slice (some ⟨g, 0, none⟩) qs.length cap)) w w8) := C7.out.trans (Off.of_below b8)
   clear b8
   obtain ⟨gz, ⟨c0, c1, c2, c3, c4, c5, c6⟩, ⟨f0, f1, f2, f3, f4, f5, f6⟩⟩ := rowPc (q := (⟨kk, markB (kk + 1), kk + 1 + 1, q.a, q.c, W.marks (kk + 1 + 1 + 1) q.ws.length, markB (kk + 1 + 1 + 1 + 7 * (q.ws.length : Int)), q.p, q.t⟩ : Pc.PcD)) A8.out (by rw [List.getElem?_set_self Hml.out])
   go_wp2
   clear gz c0 f0 c1 f1 c2 f2 c3 f3 c4 f4 c5 f5 c6 f6
   have A9 : Hid (PcO (w8.setCell ⟨g, m * 7 + 5, none⟩ (.string (markB (kk + 1 + 1 + 1 + 7 * (q.ws.length : Int) + 1)))) B ((markL stPc mkPc k0 qs m).set m (⟨kk, markB (kk + 1), kk + 1 + 1, q.a, q.c, W.marks (kk + 1 + 1 + 1) q.ws.length, markB (kk + 1 + 1 + 1 + 7 * (q.ws.length : Int)), markB (kk + 1 + 1 + 1 + 7 * (q.ws.length : Int) + 1), q.t⟩ : Pc.PcD)) (.slice (some ⟨g, 0, none⟩) qs.length cap)) := by
    have hh := A8.out.setc (j := 5) (u := .string (markB (kk + 1 + 1 + 1 + 7 * (q.ws.length : Int) + 1))) (q := (⟨kk, markB (kk + 1), kk + 1 + 1, q.a, q.c, W.marks (kk + 1 + 1 + 1) q.ws.length, markB (kk + 1 + 1 + 1 + 7 * (q.ws.length : Int)), q.p, q.t⟩ : Pc.PcD)) (q' := (⟨kk, markB (kk + 1), kk + 1 + 1, q.a, q.c, W.marks (kk + 1 + 1 + 1) q.ws.length, markB (kk + 1 + 1 + 1 + 7 * (q.ws.length : Int)), markB (kk + 1 + 1 + 1 + 7 * (q.ws.length : Int) + 1), q.t⟩ : Pc.PcD)) (by rw [List.getElem?_set_self Hml.out]) (by omega) rfl rfl rfl rfl
    rw [List.set_set] at hh
    exact hh
   have C9 : Hid (Off (PcO.bs qs (.slice (some ⟨g, 0, none⟩) qs.length cap)) w (w8.setCell ⟨g, m * 7 + 5, none⟩ (.string (markB (kk + 1 + 1 + 1 + 7 * (q.ws.length : Int) + 1))))) := C8.out.trans (Off.of_grown (W.ex_grown ((Ex.refl _ _).set _ _)) (fun j e => Or.inl (by cases e; rfl)))
   have A10 : Hid (PcO ((w8.setCell ⟨g, m * 7 + 5, none⟩ (.string (markB (kk + 1 + 1 + 1 + 7 * (q.ws.length : Int) + 1)))).setCell ⟨g, m * 7 + 6, none⟩ (.int .i64 (kk + 1 + 1 + 1 + 7 * (q.ws.length : Int) + 1 + 1))) B ((markL stPc mkPc k0 qs m).set m (⟨kk, markB (kk + 1), kk + 1 + 1, q.a, q.c, W.marks (kk + 1 + 1 + 1) q.ws.length, markB (kk + 1 + 1 + 1 + 7 * (q.ws.length : Int)), markB (kk + 1 + 1 + 1 + 7 * (q.ws.length : Int) + 1), kk + 1 + 1 + 1 + 7 * (q.ws.length : Int) + 1 + 1⟩ : Pc.PcD)) (.slice (some ⟨g, 0, none⟩) qs.length cap)) := by
    have hh := A9.out.setc (j := 6) (u := .int .i64 (kk + 1 + 1 + 1 + 7 * (q.ws.length : Int) + 1 + 1)) (q := (⟨kk, markB (kk + 1), kk + 1 + 1, q.a, q.c, W.marks (kk + 1 + 1 + 1) q.ws.length, markB (kk + 1 + 1 + 1 + 7 * (q.ws.length : Int)), markB (kk + 1 + 1 + 1 + 7 * (q.ws.length : Int) + 1), q.t⟩ : Pc.PcD)) (q' := (⟨kk, markB (kk + 1), kk + 1 + 1, q.a, q.c, W.marks (kk + 1 + 1 + 1) q.ws.length, markB (kk + 1 + 1 + 1 + 7 * (q.ws.length : Int)), markB (kk + 1 + 1 + 1 + 7 * (q.ws.length : Int) + 1), kk + 1 + 1 + 1 + 7 * (q.ws.length : Int) + 1 + 1⟩ : Pc.PcD)) (by rw [List.getElem?_set_self Hml.out]) (by omega) rfl rfl rfl rfl
    rw [List.set_set] at hh
    exact hh
   have C10 : Hid (Off (PcO.bs qs (.slice (some ⟨g, 0, none⟩) qs.length cap)) w ((w8.setCell ⟨g, m * 7 + 5, none⟩ (.string (markB (kk + 1 + 1 + 1 + 7 * (q.ws.length : Int) + 1)))).setCell ⟨g, m * 7 + 6, none⟩ (.int .i64 (kk + 1 + 1 + 1 + 7 * (q.ws.length : Int) + 1 + 1)))) := C9.out.trans (Off.of_grown (W.ex_grown ((Ex.refl _ _).set _ _)) (fun j e => Or.inl (by cases e; rfl)))
   exact ⟨⟨m + 1, _, by omega, by go_num, rfl, by rw [← FN.out]; rfl, by omega, by omega, by rw [markL_succ HQ.out, ← Hk.out]; exact A10.out, C10.out⟩, by simp [intOf]; omega⟩
  ·
   go_wp2
   go_ret
   have hmn : m = qs.length := by omega
   subst hmn
   exact ⟨by rw [← Hk.out]; rfl, HP.out, HO.out⟩
theorem markPc_sl (qs : List Pc.PcD) (v : Value) (B : Nat) (k0 : Int) (w : World) (h : PcO w B (qs) v) (hl : qs.length ≤ 1048576) (hL : ∀ q ∈ qs, q.ws.length ≤ 1048576) (h0 : 0 ≤ k0) (h1 : k0 ≤ 1000000000000) :
  Calls Tryz.prog 15 #[v, .int .i64 k0] w fun e w' => e = .returned (.int .i64 (foldK stPc k0 qs qs.length)) ∧ PcO w' B (markL stPc mkPc k0 qs qs.length) v ∧ Off (PcO.bs qs v) w w' := by
 have h' := h.o
 rcases h' with ⟨rfl, hn⟩ | ⟨g, cap, hv, -⟩
 ·
  have hn2 : qs = [] := List.map_eq_nil_iff.1 hn
  subst hn2
  refine (markPc_zero none 0 k0 w).mono ?_
  rintro e w' ⟨rfl, rfl⟩
  exact ⟨rfl, h, Off.refl _ _⟩
 ·
  rw [List.length_map] at hv; subst hv
  exact markPc_at qs g cap B k0 w h hl hL h0 h1
theorem cellsPcm {x x' : World} {g n cap B m : Nat} {l : List Pc.PcD} {q : Pc.PcD} {kk : Int} (h : PcO x B l (.slice (some ⟨g, 0, none⟩) n cap)) (hq : l[m]? = some (mkPc kk q)) (hb : Below x.heap.size x x') :
  Below x.heap.size x x' ∧ (x'.cell? ⟨g, m * 7, none⟩ = some (.int .i64 kk) ∧ x'.cell? ⟨g, m * 7 + 1, none⟩ = some (.string (markB (kk + 1))) ∧ x'.cell? ⟨g, m * 7 + 2, none⟩ = some (.int .i64 (kk + 1 + 1)) ∧ x'.cell? ⟨g, m * 7 + 3, none⟩ = some (.slice q.a q.ws.length q.c) ∧ x'.cell? ⟨g, m * 7 + 4, none⟩ = some (.string (markB (kk + 1 + 1 + 1 + 7 * (q.ws.length : Int)))) ∧ x'.cell? ⟨g, m * 7 + 5, none⟩ = some (.string (markB (kk + 1 + 1 + 1 + 7 * (q.ws.length : Int) + 1))) ∧ x'.cell? ⟨g, m * 7 + 6, none⟩ = some (.int .i64 (kk + 1 + 1 + 1 + 7 * (q.ws.length : Int) + 1 + 1))) := by
 obtain ⟨-, hc, -⟩ := rowPc (h.keep hb) hq
 simp only [mkPc, W.len_marks] at hc
 exact ⟨hb, hc⟩
set_option maxRecDepth 4000 in
set_option maxHeartbeats 4000000 in
theorem heldPc_at (qs : List Pc.PcD) (g cap B : Nat) (k0 : Int) (w : World) (h : PcO w B (markL stPc mkPc k0 qs qs.length) (.slice (some ⟨g, 0, none⟩) qs.length cap)) (hl : qs.length ≤ 1048576) (hL : ∀ q ∈ qs, q.ws.length ≤ 1048576) (h0 : 0 ≤ k0) (h1 : k0 ≤ 1000000000000) :
  Calls Tryz.prog 17 #[.slice (some ⟨g, 0, none⟩) qs.length cap, .int .i64 k0] w fun e w' => e = .returned (.int .i64 (foldK stPc k0 qs qs.length)) ∧ Below w.heap.size w w' := by
 have HH : Hid (PcO w B (markL stPc mkPc k0 qs qs.length) (.slice (some ⟨g, 0, none⟩) qs.length cap)) := h
 have HL : Hid (∀ q ∈ qs, q.ws.length ≤ 1048576) := hL
 have FB : Hid (∀ m, k0 ≤ foldK stPc k0 qs m ∧ foldK stPc k0 qs m ≤ k0 + 7340038 * (m : Int)) := fun m => foldPc_bound k0 qs hL m
 clear h hL
 go_enter Tryz.func17, Tryz.ntmps17
 go_wp2
 go_loopw [1, 5] (fun q i wx => ∃ (m : Nat) (kk : Int), m ≤ qs.length ∧ i = .int .i64 m ∧ q = .int .i64 kk ∧ Hid (kk = foldK stPc k0 qs m) ∧ 0 ≤ kk ∧ kk ≤ 9000000000000 ∧ Hid (Below w.heap.size w wx)) (fun _ i _ => qs.length - (intOf i).toNat)
 case atStart => exact ⟨0, k0, Nat.zero_le _, rfl, rfl, rfl, h0, by omega, Below.refl _ _⟩
 case round =>
  obtain ⟨m, kk, hm, rfl, rfl, Hk, k1, k2, HB0⟩ := hrel
  by_cases hlt : m < qs.length
  ·
   obtain ⟨q, hq⟩ : ∃ q, qs[m]? = some q := ⟨qs[m], List.getElem?_eq_getElem hlt⟩
   have HM : Hid ((markL stPc mkPc k0 qs qs.length)[m]? = some (mkPc kk q)) := by rw [Hk.out]; exact markL_new _ _ _ _ _ m q hlt hq
   have FN : Hid (stPc kk q = foldK stPc k0 qs (m + 1)) := by rw [Hk.out]; exact (foldK_succ hq).symm
   have hbd : stPc kk q ≤ 9000000000000 := by
    have h2 := (FB.out (m + 1)).2
    rw [FN.out]
    omega
   have hlq : q.ws.length ≤ 1048576 := HL.out q (List.mem_of_getElem? hq)
   unfold stPc at hbd
   clear hq
   have i0 : (0 : Int) ≤ (m : Int) := by omega
   have i1 : (m : Int) < (qs.length : Int) := by omega
   have P0 : Hid (PcO wr B (markL stPc mkPc k0 qs qs.length) (.slice (some ⟨g, 0, none⟩) qs.length cap)) := HH.out.keep HB0.out
   obtain ⟨-, c0, c1, c2, c3, c4, c5, c6⟩ := cellsPcm P0.out HM.out (Below.refl _ _)
   go_wp2_with fail
   clear c0 c1 c2 c3 c4 c5 c6
   go_region_held3 (fun w' => Below wr.heap.size wr w' ∧ (w'.cell? ⟨g, m * 7, none⟩ = some (.int .i64 kk) ∧ w'.cell? ⟨g, m * 7 + 1, none⟩ = some (.string (markB (kk + 1))) ∧ w'.cell? ⟨g, m * 7 + 2, none⟩ = some (.int .i64 (kk + 1 + 1)) ∧ w'.cell? ⟨g, m * 7 + 3, none⟩ = some (.slice q.a q.ws.length q.c) ∧ w'.cell? ⟨g, m * 7 + 4, none⟩ = some (.string (markB (kk + 1 + 1 + 1 + 7 * (q.ws.length : Int)))) ∧ w'.cell? ⟨g, m * 7 + 5, none⟩ = some (.string (markB (kk + 1 + 1 + 1 + 7 * (q.ws.length : Int) + 1))) ∧ w'.cell? ⟨g, m * 7 + 6, none⟩ = some (.int .i64 (kk + 1 + 1 + 1 + 7 * (q.ws.length : Int) + 1 + 1))))
    (first | exact cellsPcm P0.out HM.out (bl_drew (Below.refl _ _)) | exact cellsPcm P0.out HM.out (bl_trans (bl_drew (Below.refl _ _)) hx))
    (first | (go_at_call 40; refine (markText_any _ (by omega) _).mono ?_; rintro e w' ⟨rfl, hx⟩))
   have y1 : Below wr.heap.size wr w' := bl_trans (bl_drew (Below.refl _ _)) hx
   have P1 : Hid (PcO w' B (markL stPc mkPc k0 qs qs.length) (.slice (some ⟨g, 0, none⟩) qs.length cap)) := P0.out.keep y1
   have HB1 : Hid (Below w.heap.size w w') := bl_trans HB0.out y1
   clear y1 hx
   obtain ⟨w1, rfl⟩ : ∃ wz : World, wz = w' := ⟨_, rfl⟩
   obtain ⟨-, c0, c1, c2, c3, c4, c5, c6⟩ := cellsPcm P1.out HM.out (Below.refl _ _)
   go_wp2_with fail
   clear c0 c1 c2 c3 c4 c5 c6
   have hw : W.Sl w1 (.slice q.a q.ws.length q.c) (W.marks (kk + 1 + 1 + 1) q.ws.length) B := by
    have hh := P1.out.k m _ HM.out
    simp only [mkPc, W.len_marks] at hh
    exact hh
   refine (W.held_sl (kk + 1 + 1 + 1) hw hlq (by omega) (by omega)).mono ?_
   rintro e w2 ⟨rfl, y1⟩
   have P2 : Hid (PcO w2 B (markL stPc mkPc k0 qs qs.length) (.slice (some ⟨g, 0, none⟩) qs.length cap)) := P1.out.keep y1
   have HB2 : Hid (Below w.heap.size w w2) := bl_trans HB1.out y1
   clear y1 hw
   go_wp2_with fail
   go_region_held3 (fun w' => Below w2.heap.size w2 w' ∧ (w'.cell? ⟨g, m * 7, none⟩ = some (.int .i64 kk) ∧ w'.cell? ⟨g, m * 7 + 1, none⟩ = some (.string (markB (kk + 1))) ∧ w'.cell? ⟨g, m * 7 + 2, none⟩ = some (.int .i64 (kk + 1 + 1)) ∧ w'.cell? ⟨g, m * 7 + 3, none⟩ = some (.slice q.a q.ws.length q.c) ∧ w'.cell? ⟨g, m * 7 + 4, none⟩ = some (.string (markB (kk + 1 + 1 + 1 + 7 * (q.ws.length : Int)))) ∧ w'.cell? ⟨g, m * 7 + 5, none⟩ = some (.string (markB (kk + 1 + 1 + 1 + 7 * (q.ws.length : Int) + 1))) ∧ w'.cell? ⟨g, m * 7 + 6, none⟩ = some (.int .i64 (kk + 1 + 1 + 1 + 7 * (q.ws.length : Int) + 1 + 1))))
    (first | exact cellsPcm P2.out HM.out (bl_drew (Below.refl _ _)) | exact cellsPcm P2.out HM.out (bl_trans (bl_drew (Below.refl _ _)) hx))
    (first | (go_at_call 40; refine (markText_any _ (by omega) _).mono ?_; rintro e w' ⟨rfl, hx⟩))
   have y1 : Below w2.heap.size w2 w' := bl_trans (bl_drew (Below.refl _ _)) hx
   have P3 : Hid (PcO w' B (markL stPc mkPc k0 qs qs.length) (.slice (some ⟨g, 0, none⟩) qs.length cap)) := P2.out.keep y1
   have HB3 : Hid (Below w.heap.size w w') := bl_trans HB2.out y1
   clear y1 hx
   obtain ⟨w3, rfl⟩ : ∃ wz : World, wz = w' := ⟨_, rfl⟩
   obtain ⟨-, c0, c1, c2, c3, c4, c5, c6⟩ := cellsPcm P3.out HM.out (Below.refl _ _)
   go_wp2_with fail
   clear c0 c1 c2 c3 c4 c5 c6
   go_region_held3 (fun w' => Below w3.heap.size w3 w' ∧ (w'.cell? ⟨g, m * 7, none⟩ = some (.int .i64 kk) ∧ w'.cell? ⟨g, m * 7 + 1, none⟩ = some (.string (markB (kk + 1))) ∧ w'.cell? ⟨g, m * 7 + 2, none⟩ = some (.int .i64 (kk + 1 + 1)) ∧ w'.cell? ⟨g, m * 7 + 3, none⟩ = some (.slice q.a q.ws.length q.c) ∧ w'.cell? ⟨g, m * 7 + 4, none⟩ = some (.string (markB (kk + 1 + 1 + 1 + 7 * (q.ws.length : Int)))) ∧ w'.cell? ⟨g, m * 7 + 5, none⟩ = some (.string (markB (kk + 1 + 1 + 1 + 7 * (q.ws.length : Int) + 1))) ∧ w'.cell? ⟨g, m * 7 + 6, none⟩ = some (.int .i64 (kk + 1 + 1 + 1 + 7 * (q.ws.length : Int) + 1 + 1))))
    (first | exact cellsPcm P3.out HM.out (bl_drew (Below.refl _ _)) | exact cellsPcm P3.out HM.out (bl_trans (bl_drew (Below.refl _ _)) hx))
    (first | (go_at_call 40; refine (markText_any _ (by omega) _).mono ?_; rintro e w' ⟨rfl, hx⟩))
   have y1 : Below w3.heap.size w3 w' := bl_trans (bl_drew (Below.refl _ _)) hx
   have P4 : Hid (PcO w' B (markL stPc mkPc k0 qs qs.length) (.slice (some ⟨g, 0, none⟩) qs.length cap)) := P3.out.keep y1
   have HB4 : Hid (Below w.heap.size w w') := bl_trans HB3.out y1
   clear y1 hx
   obtain ⟨w4, rfl⟩ : ∃ wz : World, wz = w' := ⟨_, rfl⟩
   obtain ⟨-, c0, c1, c2, c3, c4, c5, c6⟩ := cellsPcm P4.out HM.out (Below.refl _ _)
   go_wp2
   exact ⟨⟨m + 1, _, by omega, by go_num, rfl, by rw [← FN.out]; rfl, by omega, by omega, HB4.out⟩, by simp [intOf]; omega⟩
  ·
   go_wp2
   go_ret
   have hmn : m = qs.length := by omega
   subst hmn
   exact ⟨by rw [← Hk.out]; rfl, HB0.out⟩
theorem heldPc_sl (qs : List Pc.PcD) (v : Value) (B : Nat) (k0 : Int) (w : World) (h : PcO w B (markL stPc mkPc k0 qs qs.length) v) (hl : qs.length ≤ 1048576) (hL : ∀ q ∈ qs, q.ws.length ≤ 1048576) (h0 : 0 ≤ k0) (h1 : k0 ≤ 1000000000000) :
  Calls Tryz.prog 17 #[v, .int .i64 k0] w fun e w' => e = .returned (.int .i64 (foldK stPc k0 qs qs.length)) ∧ Below w.heap.size w w' := by
 have h' := h.o
 rcases h' with ⟨rfl, hn⟩ | ⟨g, cap, hv, -⟩
 ·
  have hn2 : (markL stPc mkPc k0 qs qs.length) = [] := List.map_eq_nil_iff.1 hn
  have hn3 : qs.length = 0 := by rw [← markL_len stPc mkPc k0 qs qs.length, hn2]; rfl
  have hn4 : qs = [] := List.length_eq_zero_iff.1 hn3
  subst hn4
  refine (heldPc_zero none 0 k0 w).mono ?_
  rintro e w' ⟨rfl, rfl⟩
  exact ⟨rfl, Below.refl _ _⟩
 ·
  rw [List.length_map, markL_len] at hv; subst hv
  exact heldPc_at qs g cap B k0 w h hl hL h0 h1
end Go.Proofs.YtefkdohkjdopeaaGreatDoor
