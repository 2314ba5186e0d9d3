import Derived.Test.YtefkdohkjdopeaaGreatDoorJ18
import Derived.Test.YtefkdohkjdopeaaGreatDoorJ10
import Derived.Deep.RegionHeld3
import Derived.Laws.Pointers
import Derived.StillTactics
namespace Go.Proofs.YtefkdohkjdopeaaGreatDoor
open Go.RowKit
set_option linter.unusedVariables false
def stG (k : Int) (q : G.GrantD) : Int := k + 1 + 1 + 1 + 1 + 1
def mkG (k : Int) (q : G.GrantD) : G.GrantD := ⟨markB (k), markB (k + 1), markB (k + 1 + 1), k + 1 + 1 + 1, k + 1 + 1 + 1 + 1⟩
theorem foldG_bound (k0 : Int) (qs : List G.GrantD) (m : Nat) : k0 ≤ foldK stG k0 qs m ∧ foldK stG k0 qs m ≤ k0 + 5 * (m : Int) :=
 foldK_bound stG k0 qs 5 (fun k a ha => by unfold stG; omega) (by omega) m
theorem rowG {w : World} {g n cap B m : Nat} {l : List G.GrantD} {q : G.GrantD} (h : G.Sl w (.slice (some ⟨g, 0, none⟩) n cap) l B) (hq : l[m]? = some q) :
  g < w.heap.size ∧ (w.cell? ⟨g, m * 5, none⟩ = some (.string q.h) ∧ w.cell? ⟨g, m * 5 + 1, none⟩ = some (.string q.b) ∧ w.cell? ⟨g, m * 5 + 2, none⟩ = some (.string q.c) ∧ w.cell? ⟨g, m * 5 + 3, none⟩ = some (.int .i64 q.t) ∧ w.cell? ⟨g, m * 5 + 4, none⟩ = some (.int .i64 q.u)) ∧ (w.frozen? ⟨g, m * 5, none⟩ = false ∧ w.frozen? ⟨g, m * 5 + 1, none⟩ = false ∧ w.frozen? ⟨g, m * 5 + 2, none⟩ = false ∧ w.frozen? ⟨g, m * 5 + 3, none⟩ = false ∧ w.frozen? ⟨g, m * 5 + 4, none⟩ = false) := by
 obtain ⟨g', cap', hv, h1, h2, h3⟩ := h.row hq
 injection hv with e1 e2 e3
 injection e1 with e1
 injection e1 with e1
 subst e1
 have hc := h2 m _ hq
 have c0 := hc 0 _ rfl
 have f0 := h3 0 (by omega)
 have c1 := hc 1 _ rfl
 have f1 := h3 1 (by omega)
 have c2 := hc 2 _ rfl
 have f2 := h3 2 (by omega)
 have c3 := hc 3 _ rfl
 have f3 := h3 3 (by omega)
 have c4 := hc 4 _ rfl
 have f4 := h3 4 (by omega)
 simp only [Nat.zero_add, Nat.add_zero] at c0 c1 c2 c3 c4 f0 f1 f2 f3 f4
 exact ⟨h1, ⟨c0, c1, c2, c3, c4⟩, ⟨f0, f1, f2, f3, f4⟩⟩
theorem markG_zero (a : Option Addr) (c : Nat) (k : Int) (w : World) : Calls Tryz.prog 37 #[.slice a 0 c, .int .i64 k] w fun e w' => e = .returned (.int .i64 k) ∧ w' = w := by
 go_enter Tryz.func37, Tryz.ntmps37
 go_wp2
 refine wp_loop_rounds 1 ?_
 rw [rounds_succ]
 go_wp2
 go_ret
 exact ⟨rfl, rfl⟩
theorem heldG_zero (a : Option Addr) (c : Nat) (k : Int) (w : World) : Calls Tryz.prog 41 #[.slice a 0 c, .int .i64 k] w fun e w' => e = .returned (.int .i64 k) ∧ w' = w := by
 go_enter Tryz.func41, Tryz.ntmps41
 go_wp2
 refine wp_loop_rounds 1 ?_
 rw [rounds_succ]
 go_wp2
 go_ret
 exact ⟨rfl, rfl⟩
set_option maxRecDepth 4000 in
set_option maxHeartbeats 4000000 in
theorem markG_at (qs : List G.GrantD) (g cap B : Nat) (k0 : Int) (w : World) (h : G.Sl w (.slice (some ⟨g, 0, none⟩) qs.length cap) (qs) B) (hl : qs.length ≤ 1048576) (h0 : 0 ≤ k0) (h1 : k0 ≤ 1000000000000) :
  Calls Tryz.prog 37 #[.slice (some ⟨g, 0, none⟩) qs.length cap, .int .i64 k0] w fun e w' => e = .returned (.int .i64 (foldK stG k0 qs qs.length)) ∧ G.Sl w' (.slice (some ⟨g, 0, none⟩) qs.length cap) (markL stG mkG k0 qs qs.length) B ∧ Off (fun j => (Value.slice (some ⟨g, 0, none⟩) qs.length cap).ownBlock = some j) w w' := by
 have HH : Hid (G.Sl w (.slice (some ⟨g, 0, none⟩) qs.length cap) (qs) B) := h
 have FB : Hid (∀ m, k0 ≤ foldK stG k0 qs m ∧ foldK stG k0 qs m ≤ k0 + 5 * (m : Int)) := fun m => foldG_bound k0 qs m
 clear h
 go_enter Tryz.func37, Tryz.ntmps37
 go_wp2
 go_loopw [1, 5] (fun q i wx => ∃ (m : Nat) (kk : Int), m ≤ qs.length ∧ i = .int .i64 m ∧ q = .int .i64 kk ∧ Hid (kk = foldK stG k0 qs m) ∧ 0 ≤ kk ∧ kk ≤ 9000000000000 ∧ Hid (G.Sl wx (.slice (some ⟨g, 0, none⟩) qs.length cap) (markL stG mkG k0 qs m) B) ∧ Hid (Off (fun j => (Value.slice (some ⟨g, 0, none⟩) qs.length cap).ownBlock = some j) w wx)) (fun _ i _ => qs.length - (intOf i).toNat)
 case atStart => exact ⟨0, k0, Nat.zero_le _, rfl, rfl, rfl, h0, by omega, HH.out, Off.refl _ _⟩
 case round =>
  obtain ⟨m, kk, hm, rfl, rfl, Hk, k1, k2, HP, HO⟩ := hrel
  by_cases hlt : m < qs.length
  ·
   obtain ⟨q, hq⟩ : ∃ q, qs[m]? = some q := ⟨qs[m], List.getElem?_eq_getElem hlt⟩
   have HQ : Hid (qs[m]? = some q) := hq
   have HM : Hid ((markL stG mkG k0 qs m)[m]? = some q) := (markL_old _ _ _ _ m m (Nat.le_refl _)).trans hq
   have Hml : Hid (m < (markL stG mkG k0 qs m).length) := by show _ < _; rw [markL_len]; exact hlt
   have FN : Hid (stG kk q = foldK stG k0 qs (m + 1)) := by rw [Hk.out]; exact (foldK_succ hq).symm
   have hbd : stG kk q ≤ 9000000000000 := by
    have h2 := (FB.out (m + 1)).2
    rw [FN.out]
    omega
   unfold stG at hbd
   clear hq
   obtain ⟨gz, ⟨c0, c1, c2, c3, c4⟩, ⟨f0, f1, f2, f3, f4⟩⟩ := rowG (q := q) HP.out HM.out
   go_wp2_with fail
   clear gz c0 f0 c1 f1 c2 f2 c3 f3 c4 f4
   refine (markText_any (kk) (by omega) _).mono ?_
   rintro e w1 ⟨rfl, b1⟩
   have A1 : Hid (G.Sl w1 (.slice (some ⟨g, 0, none⟩) qs.length cap) (markL stG mkG k0 qs m) B) := HP.out.keep b1
   have C1 : Hid (Off (fun j => (Value.slice (some ⟨g, 0, none⟩) qs.length cap).ownBlock = some j) w w1) := HO.out.trans (Off.of_below b1)
   clear b1
   obtain ⟨gz, ⟨c0, c1, c2, c3, c4⟩, ⟨f0, f1, f2, f3, f4⟩⟩ := rowG (q := q) A1.out HM.out
   go_wp2_with fail
   clear gz c0 f0 c1 f1 c2 f2 c3 f3 c4 f4
   have A2 : Hid (G.Sl (w1.setCell ⟨g, m * 5, none⟩ (.string (markB (kk)))) (.slice (some ⟨g, 0, none⟩) qs.length cap) ((markL stG mkG k0 qs m).set m (⟨markB (kk), q.b, q.c, q.t, q.u⟩ : G.GrantD)) B) := by
    have hh := A1.out.setc (j := 0) (u := .string (markB (kk))) (r := q) (r' := (⟨markB (kk), q.b, q.c, q.t, q.u⟩ : G.GrantD)) (HM.out) (by omega) rfl
    rw [Nat.add_zero] at hh
    exact hh
   have C2 : Hid (Off (fun j => (Value.slice (some ⟨g, 0, none⟩) qs.length cap).ownBlock = some j) w (w1.setCell ⟨g, m * 5, none⟩ (.string (markB (kk))))) := C1.out.trans (Off.of_grown (W.ex_grown ((Ex.refl _ _).set _ _)) (fun j e => by cases e; rfl))
   refine (markText_any (kk + 1) (by omega) _).mono ?_
   rintro e w3 ⟨rfl, b3⟩
   have A3 : Hid (G.Sl w3 (.slice (some ⟨g, 0, none⟩) qs.length cap) ((markL stG mkG k0 qs m).set m (⟨markB (kk), q.b, q.c, q.t, q.u⟩ : G.GrantD)) B) := A2.out.keep b3
   have C3 : Hid (Off (fun j => (Value.slice (some ⟨g, 0, none⟩) qs.length cap).ownBlock = some j) w w3) := C2.out.trans (Off.of_below b3)
   clear b3
   obtain ⟨gz, ⟨c0, c1, c2, c3, c4⟩, ⟨f0, f1, f2, f3, f4⟩⟩ := rowG (q := (⟨markB (kk), q.b, q.c, q.t, q.u⟩ : G.GrantD)) A3.out (by rw [List.getElem?_set_self Hml.out])
   go_wp2_with fail
   clear gz c0 f0 c1 f1 c2 f2 c3 f3 c4 f4
   have A4 : Hid (G.Sl (w3.setCell ⟨g, m * 5 + 1, none⟩ (.string (markB (kk + 1)))) (.slice (some ⟨g, 0, none⟩) qs.length cap) ((markL stG mkG k0 qs m).set m (⟨markB (kk), markB (kk + 1), q.c, q.t, q.u⟩ : G.GrantD)) B) := by
    have hh := A3.out.setc (j := 1) (u := .string (markB (kk + 1))) (r := (⟨markB (kk), q.b, q.c, q.t, q.u⟩ : G.GrantD)) (r' := (⟨markB (kk), markB (kk + 1), q.c, q.t, q.u⟩ : G.GrantD)) (by rw [List.getElem?_set_self Hml.out]) (by omega) rfl
    rw [List.set_set] at hh
    exact hh
   have C4 : Hid (Off (fun j => (Value.slice (some ⟨g, 0, none⟩) qs.length cap).ownBlock = some j) w (w3.setCell ⟨g, m * 5 + 1, none⟩ (.string (markB (kk + 1))))) := C3.out.trans (Off.of_grown (W.ex_grown ((Ex.refl _ _).set _ _)) (fun j e => by cases e; rfl))
   refine (markText_any (kk + 1 + 1) (by omega) _).mono ?_
   rintro e w5 ⟨rfl, b5⟩
   have A5 : Hid (G.Sl w5 (.slice (some ⟨g, 0, none⟩) qs.length cap) ((markL stG mkG k0 qs m).set m (⟨markB (kk), markB (kk + 1), q.c, q.t, q.u⟩ : G.GrantD)) B) := A4.out.keep b5
   have C5 : Hid (Off (fun j => (Value.slice (some ⟨g, 0, none⟩) qs.length cap).ownBlock = some j) w w5) := C4.out.trans (Off.of_below b5)
   clear b5
   obtain ⟨gz, ⟨c0, c1, c2, c3, c4⟩, ⟨f0, f1, f2, f3, f4⟩⟩ := rowG (q := (⟨markB (kk), markB (kk + 1), q.c, q.t, q.u⟩ : G.GrantD)) A5.out (by rw [List.getElem?_set_self Hml.out])
   go_wp2
   clear gz c0 f0 c1 f1 c2 f2 c3 f3 c4 f4
   have A6 : Hid (G.Sl (w5.setCell ⟨g, m * 5 + 2, none⟩ (.string (markB (kk + 1 + 1)))) (.slice (some ⟨g, 0, none⟩) qs.length cap) ((markL stG mkG k0 qs m).set m (⟨markB (kk), markB (kk + 1), markB (kk + 1 + 1), q.t, q.u⟩ : G.GrantD)) B) := by
    have hh := A5.out.setc (j := 2) (u := .string (markB (kk + 1 + 1))) (r := (⟨markB (kk), markB (kk + 1), q.c, q.t, q.u⟩ : G.GrantD)) (r' := (⟨markB (kk), markB (kk + 1), markB (kk + 1 + 1), q.t, q.u⟩ : G.GrantD)) (by rw [List.getElem?_set_self Hml.out]) (by omega) rfl
    rw [List.set_set] at hh
    exact hh
   have C6 : Hid (Off (fun j => (Value.slice (some ⟨g, 0, none⟩) qs.length cap).ownBlock = some j) w (w5.setCell ⟨g, m * 5 + 2, none⟩ (.string (markB (kk + 1 + 1))))) := C5.out.trans (Off.of_grown (W.ex_grown ((Ex.refl _ _).set _ _)) (fun j e => by cases e; rfl))
   have A7 : Hid (G.Sl ((w5.setCell ⟨g, m * 5 + 2, none⟩ (.string (markB (kk + 1 + 1)))).setCell ⟨g, m * 5 + 3, none⟩ (.int .i64 (kk + 1 + 1 + 1))) (.slice (some ⟨g, 0, none⟩) qs.length cap) ((markL stG mkG k0 qs m).set m (⟨markB (kk), markB (kk + 1), markB (kk + 1 + 1), kk + 1 + 1 + 1, q.u⟩ : G.GrantD)) B) := by
    have hh := A6.out.setc (j := 3) (u := .int .i64 (kk + 1 + 1 + 1)) (r := (⟨markB (kk), markB (kk + 1), markB (kk + 1 + 1), q.t, q.u⟩ : G.GrantD)) (r' := (⟨markB (kk), markB (kk + 1), markB (kk + 1 + 1), kk + 1 + 1 + 1, q.u⟩ : G.GrantD)) (by rw [List.getElem?_set_self Hml.out]) (by omega) rfl
    rw [List.set_set] at hh
    exact hh
   have C7 : Hid (Off (fun j => (Value.slice (some ⟨g, 0, none⟩) qs.length cap).ownBlock = some j) w ((w5.setCell ⟨g, m * 5 + 2, none⟩ (.string (markB (kk + 1 + 1)))).setCell ⟨g, m * 5 + 3, none⟩ (.int .i64 (kk + 1 + 1 + 1)))) := C6.out.trans (Off.of_grown (W.ex_grown ((Ex.refl _ _).set _ _)) (fun j e => by cases e; rfl))
   have A8 : Hid (G.Sl (((w5.setCell ⟨g, m * 5 + 2, none⟩ (.string (markB (kk + 1 + 1)))).setCell ⟨g, m * 5 + 3, none⟩ (.int .i64 (kk + 1 + 1 + 1))).setCell ⟨g, m * 5 + 4, none⟩ (.int .i64 (kk + 1 + 1 + 1 + 1))) (.slice (some ⟨g, 0, none⟩) qs.length cap) ((markL stG mkG k0 qs m).set m (⟨markB (kk), markB (kk + 1), markB (kk + 1 + 1), kk + 1 + 1 + 1, kk + 1 + 1 + 1 + 1⟩ : G.GrantD)) B) := by
    have hh := A7.out.setc (j := 4) (u := .int .i64 (kk + 1 + 1 + 1 + 1)) (r := (⟨markB (kk), markB (kk + 1), markB (kk + 1 + 1), kk + 1 + 1 + 1, q.u⟩ : G.GrantD)) (r' := (⟨markB (kk), markB (kk + 1), markB (kk + 1 + 1), kk + 1 + 1 + 1, kk + 1 + 1 + 1 + 1⟩ : G.GrantD)) (by rw [List.getElem?_set_self Hml.out]) (by omega) rfl
    rw [List.set_set] at hh
    exact hh
   have C8 : Hid (Off (fun j => (Value.slice (some ⟨g, 0, none⟩) qs.length cap).ownBlock = some j) w (((w5.setCell ⟨g, m * 5 + 2, none⟩ (.string (markB (kk + 1 + 1)))).setCell ⟨g, m * 5 + 3, none⟩ (.int .i64 (kk + 1 + 1 + 1))).setCell ⟨g, m * 5 + 4, none⟩ (.int .i64 (kk + 1 + 1 + 1 + 1)))) := C7.out.trans (Off.of_grown (W.ex_grown ((Ex.refl _ _).set _ _)) (fun j e => by cases e; rfl))
   exact ⟨⟨m + 1, _, by omega, by go_num, rfl, by rw [← FN.out]; rfl, by omega, by omega, by rw [markL_succ HQ.out, ← Hk.out]; exact A8.out, C8.out⟩, by simp [intOf]; omega⟩
  ·
   go_wp2
   go_ret
   have hmn : m = qs.length := by omega
   subst hmn
   exact ⟨by rw [← Hk.out]; rfl, HP.out, HO.out⟩
theorem markG_sl (qs : List G.GrantD) (v : Value) (B : Nat) (k0 : Int) (w : World) (h : G.Sl w v (qs) B) (hl : qs.length ≤ 1048576) (h0 : 0 ≤ k0) (h1 : k0 ≤ 1000000000000) :
  Calls Tryz.prog 37 #[v, .int .i64 k0] w fun e w' => e = .returned (.int .i64 (foldK stG k0 qs qs.length)) ∧ G.Sl w' v (markL stG mkG k0 qs qs.length) B ∧ Off (fun j => v.ownBlock = some j) w w' := by
 have h' := h
 rcases h' with ⟨rfl, hn⟩ | ⟨g, cap, hv, -⟩
 ·
  have hn2 : qs = [] := hn
  subst hn2
  refine (markG_zero none 0 k0 w).mono ?_
  rintro e w' ⟨rfl, rfl⟩
  exact ⟨rfl, h, Off.refl _ _⟩
 ·
  subst hv
  exact markG_at qs g cap B k0 w h hl h0 h1
theorem cellsGm {x x' : World} {g n cap B m : Nat} {l : List G.GrantD} {q : G.GrantD} {kk : Int} (h : G.Sl x (.slice (some ⟨g, 0, none⟩) n cap) l B) (hq : l[m]? = some (mkG kk q)) (hb : Below x.heap.size x x') :
  Below x.heap.size x x' ∧ (x'.cell? ⟨g, m * 5, none⟩ = some (.string (markB kk)) ∧ x'.cell? ⟨g, m * 5 + 1, none⟩ = some (.string (markB (kk + 1))) ∧ x'.cell? ⟨g, m * 5 + 2, none⟩ = some (.string (markB (kk + 1 + 1))) ∧ x'.cell? ⟨g, m * 5 + 3, none⟩ = some (.int .i64 (kk + 1 + 1 + 1)) ∧ x'.cell? ⟨g, m * 5 + 4, none⟩ = some (.int .i64 (kk + 1 + 1 + 1 + 1))) := by
 obtain ⟨-, hc, -⟩ := rowG (h.keep hb) hq
 simp only [mkG] at hc
 exact ⟨hb, hc⟩
set_option maxRecDepth 4000 in
set_option maxHeartbeats 4000000 in
theorem heldG_at (qs : List G.GrantD) (g cap B : Nat) (k0 : Int) (w : World) (h : G.Sl w (.slice (some ⟨g, 0, none⟩) qs.length cap) (markL stG mkG k0 qs qs.length) B) (hl : qs.length ≤ 1048576) (h0 : 0 ≤ k0) (h1 : k0 ≤ 1000000000000) :
  Calls Tryz.prog 41 #[.slice (some ⟨g, 0, none⟩) qs.length cap, .int .i64 k0] w fun e w' => e = .returned (.int .i64 (foldK stG k0 qs qs.length)) ∧ Below w.heap.size w w' := by
 have HH : Hid (G.Sl w (.slice (some ⟨g, 0, none⟩) qs.length cap) (markL stG mkG k0 qs qs.length) B) := h
 have FB : Hid (∀ m, k0 ≤ foldK stG k0 qs m ∧ foldK stG k0 qs m ≤ k0 + 5 * (m : Int)) := fun m => foldG_bound k0 qs m
 clear h
 go_enter Tryz.func41, Tryz.ntmps41
 go_wp2
 go_loopw [1, 5] (fun q i wx => ∃ (m : Nat) (kk : Int), m ≤ qs.length ∧ i = .int .i64 m ∧ q = .int .i64 kk ∧ Hid (kk = foldK stG k0 qs m) ∧ 0 ≤ kk ∧ kk ≤ 9000000000000 ∧ Hid (Below w.heap.size w wx)) (fun _ i _ => qs.length - (intOf i).toNat)
 case atStart => exact ⟨0, k0, Nat.zero_le _, rfl, rfl, rfl, h0, by omega, Below.refl _ _⟩
 case round =>
  obtain ⟨m, kk, hm, rfl, rfl, Hk, k1, k2, HB0⟩ := hrel
  by_cases hlt : m < qs.length
  ·
   obtain ⟨q, hq⟩ : ∃ q, qs[m]? = some q := ⟨qs[m], List.getElem?_eq_getElem hlt⟩
   have HM : Hid ((markL stG mkG k0 qs qs.length)[m]? = some (mkG kk q)) := by rw [Hk.out]; exact markL_new _ _ _ _ _ m q hlt hq
   have FN : Hid (stG kk q = foldK stG k0 qs (m + 1)) := by rw [Hk.out]; exact (foldK_succ hq).symm
   have hbd : stG kk q ≤ 9000000000000 := by
    have h2 := (FB.out (m + 1)).2
    rw [FN.out]
    omega
   unfold stG at hbd
   clear hq
   have i0 : (0 : Int) ≤ (m : Int) := by omega
   have i1 : (m : Int) < (qs.length : Int) := by omega
   have P0 : Hid (G.Sl wr (.slice (some ⟨g, 0, none⟩) qs.length cap) (markL stG mkG k0 qs qs.length) B) := HH.out.keep HB0.out
   go_wp2_with fail
   go_region_held3 (fun w' => Below wr.heap.size wr w' ∧ (w'.cell? ⟨g, m * 5, none⟩ = some (.string (markB kk)) ∧ w'.cell? ⟨g, m * 5 + 1, none⟩ = some (.string (markB (kk + 1))) ∧ w'.cell? ⟨g, m * 5 + 2, none⟩ = some (.string (markB (kk + 1 + 1))) ∧ w'.cell? ⟨g, m * 5 + 3, none⟩ = some (.int .i64 (kk + 1 + 1 + 1)) ∧ w'.cell? ⟨g, m * 5 + 4, none⟩ = some (.int .i64 (kk + 1 + 1 + 1 + 1))))
    (first | exact cellsGm P0.out HM.out (bl_drew (Below.refl _ _)) | exact cellsGm P0.out HM.out (bl_trans (bl_drew (Below.refl _ _)) hx))
    (first | (go_at_call 40; refine (markText_any _ (by omega) _).mono ?_; rintro e w' ⟨rfl, hx⟩))
   have y1 : Below wr.heap.size wr w' := bl_trans (bl_drew (Below.refl _ _)) hx
   have P1 : Hid (G.Sl w' (.slice (some ⟨g, 0, none⟩) qs.length cap) (markL stG mkG k0 qs qs.length) B) := P0.out.keep y1
   have HB1 : Hid (Below w.heap.size w w') := bl_trans HB0.out y1
   clear y1 hx
   obtain ⟨w1, rfl⟩ : ∃ wz : World, wz = w' := ⟨_, rfl⟩
   obtain ⟨-, c0, c1, c2, c3, c4⟩ := cellsGm P1.out HM.out (Below.refl _ _)
   go_wp2_with fail
   clear c0 c1 c2 c3 c4
   go_region_held3 (fun w' => Below w1.heap.size w1 w' ∧ (w'.cell? ⟨g, m * 5, none⟩ = some (.string (markB kk)) ∧ w'.cell? ⟨g, m * 5 + 1, none⟩ = some (.string (markB (kk + 1))) ∧ w'.cell? ⟨g, m * 5 + 2, none⟩ = some (.string (markB (kk + 1 + 1))) ∧ w'.cell? ⟨g, m * 5 + 3, none⟩ = some (.int .i64 (kk + 1 + 1 + 1)) ∧ w'.cell? ⟨g, m * 5 + 4, none⟩ = some (.int .i64 (kk + 1 + 1 + 1 + 1))))
    (first | exact cellsGm P1.out HM.out (bl_drew (Below.refl _ _)) | exact cellsGm P1.out HM.out (bl_trans (bl_drew (Below.refl _ _)) hx))
    (first | (go_at_call 40; refine (markText_any _ (by omega) _).mono ?_; rintro e w' ⟨rfl, hx⟩))
   have y1 : Below w1.heap.size w1 w' := bl_trans (bl_drew (Below.refl _ _)) hx
   have P2 : Hid (G.Sl w' (.slice (some ⟨g, 0, none⟩) qs.length cap) (markL stG mkG k0 qs qs.length) B) := P1.out.keep y1
   have HB2 : Hid (Below w.heap.size w w') := bl_trans HB1.out y1
   clear y1 hx
   obtain ⟨w2, rfl⟩ : ∃ wz : World, wz = w' := ⟨_, rfl⟩
   obtain ⟨-, c0, c1, c2, c3, c4⟩ := cellsGm P2.out HM.out (Below.refl _ _)
   go_wp2_with fail
   clear c0 c1 c2 c3 c4
   go_region_held3 (fun w' => Below w2.heap.size w2 w' ∧ (w'.cell? ⟨g, m * 5, none⟩ = some (.string (markB kk)) ∧ w'.cell? ⟨g, m * 5 + 1, none⟩ = some (.string (markB (kk + 1))) ∧ w'.cell? ⟨g, m * 5 + 2, none⟩ = some (.string (markB (kk + 1 + 1))) ∧ w'.cell? ⟨g, m * 5 + 3, none⟩ = some (.int .i64 (kk + 1 + 1 + 1)) ∧ w'.cell? ⟨g, m * 5 + 4, none⟩ = some (.int .i64 (kk + 1 + 1 + 1 + 1))))
    (first | exact cellsGm P2.out HM.out (bl_drew (Below.refl _ _)) | exact cellsGm P2.out HM.out (bl_trans (bl_drew (Below.refl _ _)) hx))
    (first | (go_at_call 40; refine (markText_any _ (by omega) _).mono ?_; rintro e w' ⟨rfl, hx⟩))
   have y1 : Below w2.heap.size w2 w' := bl_trans (bl_drew (Below.refl _ _)) hx
   have P3 : Hid (G.Sl w' (.slice (some ⟨g, 0, none⟩) qs.length cap) (markL stG mkG k0 qs qs.length) B) := P2.out.keep y1
   have HB3 : Hid (Below w.heap.size w w') := bl_trans HB2.out y1
   clear y1 hx
   obtain ⟨w3, rfl⟩ : ∃ wz : World, wz = w' := ⟨_, rfl⟩
   obtain ⟨-, c0, c1, c2, c3, c4⟩ := cellsGm P3.out HM.out (Below.refl _ _)
   go_wp2
   exact ⟨⟨m + 1, _, by omega, by go_num, rfl, by rw [← FN.out]; rfl, by omega, by omega, HB3.out⟩, by simp [intOf]; omega⟩
  ·
   go_wp2
   go_ret
   have hmn : m = qs.length := by omega
   subst hmn
   exact ⟨by rw [← Hk.out]; rfl, HB0.out⟩
theorem heldG_sl (qs : List G.GrantD) (v : Value) (B : Nat) (k0 : Int) (w : World) (h : G.Sl w v (markL stG mkG k0 qs qs.length) B) (hl : qs.length ≤ 1048576) (h0 : 0 ≤ k0) (h1 : k0 ≤ 1000000000000) :
  Calls Tryz.prog 41 #[v, .int .i64 k0] w fun e w' => e = .returned (.int .i64 (foldK stG k0 qs qs.length)) ∧ Below w.heap.size w w' := by
 have h' := h
 rcases h' with ⟨rfl, hn⟩ | ⟨g, cap, hv, -⟩
 ·
  have hn2 : (markL stG mkG k0 qs qs.length) = [] := hn
  have hn3 : qs.length = 0 := by rw [← markL_len stG mkG k0 qs qs.length, hn2]; rfl
  have hn4 : qs = [] := List.length_eq_zero_iff.1 hn3
  subst hn4
  refine (heldG_zero none 0 k0 w).mono ?_
  rintro e w' ⟨rfl, rfl⟩
  exact ⟨rfl, Below.refl _ _⟩
 ·
  rw [markL_len] at hv; subst hv
  exact heldG_at qs g cap B k0 w h hl h0 h1
end Go.Proofs.YtefkdohkjdopeaaGreatDoor
