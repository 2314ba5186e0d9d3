import Derived.Test.YtefkdohkjdopeaaGreatDoorJ32
import Derived.Test.YtefkdohkjdopeaaGreatDoorJ18
import Derived.Test.YtefkdohkjdopeaaGreatDoorJ10
import Derived.Deep.RegionHeld3
import Derived.Laws.Pointers
import Derived.StillTactics
namespace Go.Proofs.YtefkdohkjdopeaaGreatDoor.P
open Go.RowKit
set_option linter.unusedVariables false
theorem saysL_no2 {t : Int} {gs : List G.GrantD} {ps : List PlaceD} (h : LandSay t gs ps → False) : SaysL false t gs ps := ⟨fun h' => (by cases h'), fun h' => (h h').elim⟩
def EachG (t : Int) (gs : List G.GrantD) (k : Nat) : Prop := ∀ j r, j < k → gs[j]? = some r → grantB t r = true
theorem EachG.step {t : Int} {gs : List G.GrantD} {k : Nat} {r : G.GrantD} (h : EachG t gs k) (hr : gs[k]? = some r) (hs : grantB t r = true) : EachG t gs (k + 1) := by
 intro j q hj hq
 by_cases e : j = k
 ·
  subst e; rw [hr] at hq; cases hq; exact hs
 ·
  exact h j q (by omega) hq
theorem ml_box2 {w w' : World} {t : Int} {gs : List G.GrantD} {ps : List PlaceD} {b1 b2 : Nat} (hb : Below (w.alloc (.cells #[.int .i64 t, .slice (some ⟨b1, 0, none⟩) gs.length gs.length, .slice (some ⟨b2, 0, none⟩) ps.length ps.length] 34)).heap.size (w.alloc (.cells #[.int .i64 t, .slice (some ⟨b1, 0, none⟩) gs.length gs.length, .slice (some ⟨b2, 0, none⟩) ps.length ps.length] 34)) w') : (∀ k, w'.cell? ⟨w.heap.size, k, none⟩ = (#[.int .i64 t, .slice (some ⟨b1, 0, none⟩) gs.length gs.length, .slice (some ⟨b2, 0, none⟩) ps.length ps.length] : Array Value)[k]?) ∧ w.heap.size < w'.heap.size := by
 constructor
 ·
  intro k
  rw [hb.cell (p := ⟨w.heap.size, k, none⟩) (by simp)]
  simp [go_sem]
 ·
  have := hb.size; simp at this; omega
set_option maxRecDepth 4000 in
set_option maxHeartbeats 4000000 in
theorem specLandOk (t : Int) (gs : List G.GrantD) (ps : List PlaceD) (b1 b2 : Nat) (w : World) (hA : LandAt w gs ps b1 b2) (hF : Fit gs ps) :
  Calls Tryz.prog 21 #[.agg #[.int .i64 t, .slice (some ⟨b1, 0, none⟩) gs.length gs.length, .slice (some ⟨b2, 0, none⟩) ps.length ps.length]] w fun e w' => (∃ q : Bool, e = .returned (.bool q) ∧ SaysL q t gs ps) ∧ Below w.heap.size w w' := by
 have Hb0 : Hid (Below w.heap.size w (w.alloc (.cells #[.int .i64 t, .slice (some ⟨b1, 0, none⟩) gs.length gs.length, .slice (some ⟨b2, 0, none⟩) ps.length ps.length] 34))) := bl_alloc (Below.refl _ _) _
 have HA : Hid (LandAt (w.alloc (.cells #[.int .i64 t, .slice (some ⟨b1, 0, none⟩) gs.length gs.length, .slice (some ⟨b2, 0, none⟩) ps.length ps.length] 34)) gs ps b1 b2) := hA.keep Hb0.out
 have HF : Hid (Fit gs ps) := hF
 have hgl := hF.gl
 clear hA hF
 cases p1 : inB t 0 2000000
 ·
  go_enter Tryz.func21, Tryz.ntmps21
  go_wp2_with (go_at_call 25; refine (specIn_any _ _ _ _).mono ?_; rintro e w' ⟨rfl, rfl⟩)
  go_ret
  exact ⟨⟨false, rfl, saysL_no2 (fun h => by have := h.1; simp [timeB, p1] at this)⟩, Hb0.out⟩
 have ht0 : 0 ≤ t := by simp [inB] at p1; omega
 have ht1 : t ≤ 2000000 := by simp [inB] at p1; omega
 have iw5 : IntKind.i64.wrap (t + 32) = t + 32 := by rw [IntKind.wrap_i64]; omega
 by_cases p2 : t % 2 = 0
 ·
  by_cases h40 : gs.length ≤ 40
  ·
   have hi40 : (gs.length : Int) ≤ 40 := by omega
   have HT : Hid (timeB t = true) := by show timeB t = true; simp [timeB, p1, p2]
   go_enter Tryz.func21, Tryz.ntmps21
   go_wp2_with (go_at_call 25; refine (specIn_any _ _ _ _).mono ?_; rintro e w' ⟨rfl, rfl⟩)
   go_loopw [3] (fun i wx => ∃ (k : Nat), k ≤ gs.length ∧ i = .int .i64 k ∧ Hid (G.AscN gs k) ∧ Hid (EachG t gs k) ∧ Hid (Below (w.alloc (.cells #[.int .i64 t, .slice (some ⟨b1, 0, none⟩) gs.length gs.length, .slice (some ⟨b2, 0, none⟩) ps.length ps.length] 34)).heap.size (w.alloc (.cells #[.int .i64 t, .slice (some ⟨b1, 0, none⟩) gs.length gs.length, .slice (some ⟨b2, 0, none⟩) ps.length ps.length] 34)) wx)) (fun i _ => gs.length - (intOf i).toNat)
   case atStart => exact ⟨0, Nat.zero_le _, rfl, (fun j q r hj _ _ => by omega), (fun j r hj _ => by omega), Below.refl _ _⟩
   case round =>
    obtain ⟨k, hk, rfl, Ha, He, HB⟩ := hrel
    obtain ⟨kb, kz⟩ := ml_box2 HB.out
    by_cases hlt : k < gs.length
    ·
     obtain ⟨r, hr⟩ : ∃ r, gs[k]? = some r := ⟨gs[k], List.getElem?_eq_getElem hlt⟩
     obtain ⟨hf1, hf2, hf3⟩ := HF.out.g r (List.mem_of_getElem? hr)
     have Hr : Hid _ := hr
     have hA1 := HA.out.keep HB.out
     obtain ⟨c0, c1, c2, c3, c4⟩ := hA1.g.at hr
     have bz : b1 < wr.heap.size := hA1.g1
     have i0' : (0 : Int) ≤ (k : Int) := by omega
     have i1' : (k : Int) < (gs.length : Int) := by omega
     clear hr
     cases k with
     | zero =>
      simp only [Nat.zero_mul, Nat.add_zero, Nat.zero_add] at c0 c1 c2 c3 c4
      have i00 : (0 : Int) < (gs.length : Int) := by omega
      cases q1 : holdB r.h
      ·
       go_wp2_with fail
       go_quiet (first | (go_at_call 24; refine Calls.quiet_of_same (specHold_any r.h _ hf1)) | (go_at_call 23; refine Calls.quiet_of_same (specName_any _ _ (by first | exact hf2 | exact hf3))) | (go_at_call 25; refine Calls.quiet_of_same (specIn_any _ _ _ _)))
       go_wp2
       go_ret
       exact ⟨⟨false, rfl, saysL_no2 (fun h => by have h' := h.2.1.2.2 r (List.mem_of_getElem? Hr.out); simp [grantB, *] at h')⟩, bl_trans Hb0.out (bl_dn (bl_alloc HB.out _))⟩
      cases q2 : nameB r.b
      ·
       go_wp2_with fail
       go_quiet (first | (go_at_call 24; refine Calls.quiet_of_same (specHold_any r.h _ hf1)) | (go_at_call 23; refine Calls.quiet_of_same (specName_any _ _ (by first | exact hf2 | exact hf3))) | (go_at_call 25; refine Calls.quiet_of_same (specIn_any _ _ _ _)))
       go_wp2
       go_ret
       exact ⟨⟨false, rfl, saysL_no2 (fun h => by have h' := h.2.1.2.2 r (List.mem_of_getElem? Hr.out); simp [grantB, *] at h')⟩, bl_trans Hb0.out (bl_dn (bl_alloc HB.out _))⟩
      cases q3 : nameB r.c
      ·
       go_wp2_with fail
       go_quiet (first | (go_at_call 24; refine Calls.quiet_of_same (specHold_any r.h _ hf1)) | (go_at_call 23; refine Calls.quiet_of_same (specName_any _ _ (by first | exact hf2 | exact hf3))) | (go_at_call 25; refine Calls.quiet_of_same (specIn_any _ _ _ _)))
       go_wp2
       go_ret
       exact ⟨⟨false, rfl, saysL_no2 (fun h => by have h' := h.2.1.2.2 r (List.mem_of_getElem? Hr.out); simp [grantB, *] at h')⟩, bl_trans Hb0.out (bl_dn (bl_alloc HB.out _))⟩
      cases q4 : inB r.t 0 1000000
      ·
       go_wp2_with fail
       go_quiet (first | (go_at_call 24; refine Calls.quiet_of_same (specHold_any r.h _ hf1)) | (go_at_call 23; refine Calls.quiet_of_same (specName_any _ _ (by first | exact hf2 | exact hf3))) | (go_at_call 25; refine Calls.quiet_of_same (specIn_any _ _ _ _)))
       go_wp2
       go_ret
       exact ⟨⟨false, rfl, saysL_no2 (fun h => by have h' := h.2.1.2.2 r (List.mem_of_getElem? Hr.out); simp [grantB, *] at h')⟩, bl_trans Hb0.out (bl_dn (bl_alloc HB.out _))⟩
      cases q5 : inB r.u 0 (t + 32)
      ·
       go_wp2_with fail
       go_quiet (first | (go_at_call 24; refine Calls.quiet_of_same (specHold_any r.h _ hf1)) | (go_at_call 23; refine Calls.quiet_of_same (specName_any _ _ (by first | exact hf2 | exact hf3))) | (go_at_call 25; refine Calls.quiet_of_same (specIn_any _ _ _ _)))
       go_wp2
       go_ret
       exact ⟨⟨false, rfl, saysL_no2 (fun h => by have h' := h.2.1.2.2 r (List.mem_of_getElem? Hr.out); simp [grantB, *] at h')⟩, bl_trans Hb0.out (bl_dn (bl_alloc HB.out _))⟩
      go_wp2_with fail
      go_quiet (first | (go_at_call 24; refine Calls.quiet_of_same (specHold_any r.h _ hf1)) | (go_at_call 23; refine Calls.quiet_of_same (specName_any _ _ (by first | exact hf2 | exact hf3))) | (go_at_call 25; refine Calls.quiet_of_same (specIn_any _ _ _ _)))
      go_wp2
      exact ⟨⟨0 + 1, by omega, by go_num, (fun j q r hj _ _ => by omega), He.out.step Hr.out (by simp [grantB, *]), bl_dn (bl_alloc HB.out _)⟩, by simp [intOf]; omega⟩
     | succ m =>
      simp only [Nat.zero_add] at c0 c1 c2 c3 c4
      obtain ⟨q, hq⟩ : ∃ q, gs[m]? = some q := ⟨gs[m], List.getElem?_eq_getElem (by omega)⟩
      have Hq : Hid _ := hq
      obtain ⟨e0, -⟩ := hA1.g.at hq
      simp only [Nat.zero_add] at e0
      clear hq
      have i0 : (0 : Int) ≤ (m : Int) := by omega
      have i1 : (m : Int) + 1 < (gs.length : Int) := by omega
      have i2 : (m : Int) < (gs.length : Int) := by omega
      have iw : IntKind.i64.wrap (m : Int) = (m : Int) := by rw [IntKind.wrap_i64]; omega
      clear hA1
      cases q1 : holdB r.h
      ·
       go_wp2_with fail
       go_quiet (first | (go_at_call 24; refine Calls.quiet_of_same (specHold_any r.h _ hf1)) | (go_at_call 23; refine Calls.quiet_of_same (specName_any _ _ (by first | exact hf2 | exact hf3))) | (go_at_call 25; refine Calls.quiet_of_same (specIn_any _ _ _ _)))
       go_wp2
       go_ret
       exact ⟨⟨false, rfl, saysL_no2 (fun h => by have h' := h.2.1.2.2 r (List.mem_of_getElem? Hr.out); simp [grantB, *] at h')⟩, bl_trans Hb0.out (bl_dn (bl_alloc HB.out _))⟩
      cases q2 : nameB r.b
      ·
       go_wp2_with fail
       go_quiet (first | (go_at_call 24; refine Calls.quiet_of_same (specHold_any r.h _ hf1)) | (go_at_call 23; refine Calls.quiet_of_same (specName_any _ _ (by first | exact hf2 | exact hf3))) | (go_at_call 25; refine Calls.quiet_of_same (specIn_any _ _ _ _)))
       go_wp2
       go_ret
       exact ⟨⟨false, rfl, saysL_no2 (fun h => by have h' := h.2.1.2.2 r (List.mem_of_getElem? Hr.out); simp [grantB, *] at h')⟩, bl_trans Hb0.out (bl_dn (bl_alloc HB.out _))⟩
      cases q3 : nameB r.c
      ·
       go_wp2_with fail
       go_quiet (first | (go_at_call 24; refine Calls.quiet_of_same (specHold_any r.h _ hf1)) | (go_at_call 23; refine Calls.quiet_of_same (specName_any _ _ (by first | exact hf2 | exact hf3))) | (go_at_call 25; refine Calls.quiet_of_same (specIn_any _ _ _ _)))
       go_wp2
       go_ret
       exact ⟨⟨false, rfl, saysL_no2 (fun h => by have h' := h.2.1.2.2 r (List.mem_of_getElem? Hr.out); simp [grantB, *] at h')⟩, bl_trans Hb0.out (bl_dn (bl_alloc HB.out _))⟩
      cases q4 : inB r.t 0 1000000
      ·
       go_wp2_with fail
       go_quiet (first | (go_at_call 24; refine Calls.quiet_of_same (specHold_any r.h _ hf1)) | (go_at_call 23; refine Calls.quiet_of_same (specName_any _ _ (by first | exact hf2 | exact hf3))) | (go_at_call 25; refine Calls.quiet_of_same (specIn_any _ _ _ _)))
       go_wp2
       go_ret
       exact ⟨⟨false, rfl, saysL_no2 (fun h => by have h' := h.2.1.2.2 r (List.mem_of_getElem? Hr.out); simp [grantB, *] at h')⟩, bl_trans Hb0.out (bl_dn (bl_alloc HB.out _))⟩
      cases q5 : inB r.u 0 (t + 32)
      ·
       go_wp2_with fail
       go_quiet (first | (go_at_call 24; refine Calls.quiet_of_same (specHold_any r.h _ hf1)) | (go_at_call 23; refine Calls.quiet_of_same (specName_any _ _ (by first | exact hf2 | exact hf3))) | (go_at_call 25; refine Calls.quiet_of_same (specIn_any _ _ _ _)))
       go_wp2
       go_ret
       exact ⟨⟨false, rfl, saysL_no2 (fun h => by have h' := h.2.1.2.2 r (List.mem_of_getElem? Hr.out); simp [grantB, *] at h')⟩, bl_trans Hb0.out (bl_dn (bl_alloc HB.out _))⟩
      cases hasc : Op.bytesLess q.h.toList r.h.toList
      ·
       go_wp2_with fail
       go_quiet (first | (go_at_call 24; refine Calls.quiet_of_same (specHold_any r.h _ hf1)) | (go_at_call 23; refine Calls.quiet_of_same (specName_any _ _ (by first | exact hf2 | exact hf3))) | (go_at_call 25; refine Calls.quiet_of_same (specIn_any _ _ _ _)))
       go_wp2
       go_ret
       exact ⟨⟨false, rfl, saysL_no2 (fun h => by have h' := h.2.1.2.1 m q r (by omega) Hq.out Hr.out; rw [hasc] at h'; cases h')⟩, bl_trans Hb0.out (bl_dn (bl_alloc HB.out _))⟩
      ·
       go_wp2_with fail
       go_quiet (first | (go_at_call 24; refine Calls.quiet_of_same (specHold_any r.h _ hf1)) | (go_at_call 23; refine Calls.quiet_of_same (specName_any _ _ (by first | exact hf2 | exact hf3))) | (go_at_call 25; refine Calls.quiet_of_same (specIn_any _ _ _ _)))
       go_wp2
       exact ⟨⟨m + 1 + 1, by omega, by go_num, Ha.out.step Hq.out Hr.out hasc, He.out.step Hr.out (by simp [grantB, *]), bl_dn (bl_alloc HB.out _)⟩, by simp [intOf]; omega⟩
    ·
     have HG : Hid (GrantsSay t gs) := ⟨h40, (fun j q r hj hq hr => Ha.out j q r (by omega) hq hr), fun r hr => by
      obtain ⟨j, hj⟩ := List.getElem?_of_mem hr
      have := (List.getElem?_eq_some_iff.1 hj).1
      exact He.out j r (by omega) hj⟩
     have hA1 := HA.out.keep HB.out
     go_wp2_with fail
     refine (specPlaces gs ps b1 b2 _ hA1 HF.out).mono ?_
     rintro e w2 ⟨⟨q, rfl, kq⟩, c2⟩
     have K : Hid (SaysQ q ps) := kq
     have B2 : Hid (Below w.heap.size w w2) := bl_trans Hb0.out (bl_trans HB.out c2)
     clear kq c2 hA1 kb
     go_wp2
     go_ret
     exact ⟨⟨q, rfl, ⟨fun h => ⟨HT.out, HG.out, (K.out.1 h).1, (K.out.1 h).2⟩, fun h => K.out.2 ⟨h.2.2.1, h.2.2.2⟩⟩⟩, B2.out⟩
  ·
   have hi40 : (40 : Int) < (gs.length : Int) := by omega
   have H40 : Hid _ := h40
   clear h40
   go_enter Tryz.func21, Tryz.ntmps21
   go_wp2_with (go_at_call 25; refine (specIn_any _ _ _ _).mono ?_; rintro e w' ⟨rfl, rfl⟩)
   go_ret
   first
   | exact ⟨Or.inl ⟨rfl, saysL_no2 (fun h => absurd h.2.1.1 H40.out)⟩, Hb0.out⟩
   | exact ⟨⟨false, rfl, saysL_no2 (fun h => absurd h.2.1.1 H40.out)⟩, Hb0.out⟩
 ·
  have HP2 : Hid _ := p2
  have p3 : (t % 2 == 0) = false := by simpa using p2
  clear p2
  go_enter Tryz.func21, Tryz.ntmps21
  go_wp2_with (go_at_call 25; refine (specIn_any _ _ _ _).mono ?_; rintro e w' ⟨rfl, rfl⟩)
  go_ret
  first
  | exact ⟨Or.inl ⟨rfl, saysL_no2 (fun h => HP2.out (by have := h.1; simp [timeB] at this; exact this.2))⟩, Hb0.out⟩
  | exact ⟨⟨false, rfl, saysL_no2 (fun h => HP2.out (by have := h.1; simp [timeB] at this; exact this.2))⟩, Hb0.out⟩
end Go.Proofs.YtefkdohkjdopeaaGreatDoor.P
namespace Go.Proofs.YtefkdohkjdopeaaGreatDoor
open Go.RowKit
set_option linter.unusedVariables false
def stPl (k : Int) (q : P.PlaceD) : Int := k + 1 + 1 + 7 * (q.ws.length : Int)
def mkPl (k : Int) (q : P.PlaceD) : P.PlaceD := ⟨markB (k), k + 1, q.a, q.c, W.marks (k + 1 + 1) q.ws.length⟩
theorem foldPl_bound (k0 : Int) (qs : List P.PlaceD) (hL : ∀ q ∈ qs, q.ws.length ≤ 1048576) (m : Nat) : k0 ≤ foldK stPl k0 qs m ∧ foldK stPl k0 qs m ≤ k0 + 7340034 * (m : Int) :=
 foldK_bound stPl k0 qs 7340034 (fun k a ha => by have h1 := hL a ha; unfold stPl; omega) (by omega) m
theorem rowPl {w : World} {g n cap B m : Nat} {l : List P.PlaceD} {q : P.PlaceD} (h : PlO w B l (.slice (some ⟨g, 0, none⟩) n cap)) (hq : l[m]? = some q) :
  g < w.heap.size ∧ (w.cell? ⟨g, m * 3, none⟩ = some (.string q.b) ∧ w.cell? ⟨g, m * 3 + 1, none⟩ = some (.int .i64 q.s) ∧ w.cell? ⟨g, m * 3 + 2, none⟩ = some (.slice q.a q.ws.length q.c)) ∧ (w.frozen? ⟨g, m * 3, none⟩ = false ∧ w.frozen? ⟨g, m * 3 + 1, none⟩ = false ∧ w.frozen? ⟨g, m * 3 + 2, none⟩ = false) := by
 obtain ⟨g', cap', hv, h1, h2, h3⟩ := h.o.row (show (l.map Pr.raw)[m]? = some (Pr.raw q) by rw [List.getElem?_map, hq]; rfl)
 injection hv with e1 e2 e3
 injection e1 with e1
 injection e1 with e1
 subst e1
 have hc := h2 m _ (show (l.map Pr.raw)[m]? = some (Pr.raw q) by rw [List.getElem?_map, hq]; rfl)
 have c0 := hc 0 _ rfl
 have f0 := h3 0 (by omega)
 have c1 := hc 1 _ rfl
 have f1 := h3 1 (by omega)
 have c2 := hc 2 _ rfl
 have f2 := h3 2 (by omega)
 simp only [Nat.zero_add, Nat.add_zero] at c0 c1 c2 f0 f1 f2
 exact ⟨h1, ⟨c0, c1, c2⟩, ⟨f0, f1, f2⟩⟩
theorem markPl_zero (a : Option Addr) (c : Nat) (k : Int) (w : World) : Calls Tryz.prog 38 #[.slice a 0 c, .int .i64 k] w fun e w' => e = .returned (.int .i64 k) ∧ w' = w := by
 go_enter Tryz.func38, Tryz.ntmps38
 go_wp2
 refine wp_loop_rounds 1 ?_
 rw [rounds_succ]
 go_wp2
 go_ret
 exact ⟨rfl, rfl⟩
theorem heldPl_zero (a : Option Addr) (c : Nat) (k : Int) (w : World) : Calls Tryz.prog 42 #[.slice a 0 c, .int .i64 k] w fun e w' => e = .returned (.int .i64 k) ∧ w' = w := by
 go_enter Tryz.func42, Tryz.ntmps42
 go_wp2
 refine wp_loop_rounds 1 ?_
 rw [rounds_succ]
 go_wp2
 go_ret
 exact ⟨rfl, rfl⟩
set_option maxRecDepth 4000 in
set_option maxHeartbeats 4000000 in
theorem markPl_at (qs : List P.PlaceD) (g cap B : Nat) (k0 : Int) (w : World) (h : PlO w B (qs) (.slice (some ⟨g, 0, none⟩) qs.length cap)) (hl : qs.length ≤ 1048576) (hL : ∀ q ∈ qs, q.ws.length ≤ 1048576) (h0 : 0 ≤ k0) (h1 : k0 ≤ 1000000000000) :
  Calls Tryz.prog 38 #[.slice (some ⟨g, 0, none⟩) qs.length cap, .int .i64 k0] w fun e w' => e = .returned (.int .i64 (foldK stPl k0 qs qs.length)) ∧ PlO w' B (markL stPl mkPl k0 qs qs.length) (.slice (some ⟨g, 0, none⟩) qs.length cap) ∧ Off (PlO.bs qs (.slice (some ⟨g, 0, none⟩) qs.length cap)) w w' := by
 have HH : Hid (PlO w B (qs) (.slice (some ⟨g, 0, none⟩) qs.length cap)) := h
 have HL : Hid (∀ q ∈ qs, q.ws.length ≤ 1048576) := hL
 have FB : Hid (∀ m, k0 ≤ foldK stPl k0 qs m ∧ foldK stPl k0 qs m ≤ k0 + 7340034 * (m : Int)) := fun m => foldPl_bound k0 qs hL m
 clear h hL
 go_enter Tryz.func38, Tryz.ntmps38
 go_wp2
 go_loopw [1, 5] (fun q i wx => ∃ (m : Nat) (kk : Int), m ≤ qs.length ∧ i = .int .i64 m ∧ q = .int .i64 kk ∧ Hid (kk = foldK stPl k0 qs m) ∧ 0 ≤ kk ∧ kk ≤ 9000000000000 ∧ Hid (PlO wx B (markL stPl mkPl k0 qs m) (.slice (some ⟨g, 0, none⟩) qs.length cap)) ∧ Hid (Off (PlO.bs qs (.slice (some ⟨g, 0, none⟩) qs.length cap)) w wx)) (fun _ i _ => qs.length - (intOf i).toNat)
 case atStart => exact ⟨0, k0, Nat.zero_le _, rfl, rfl, rfl, h0, by omega, HH.out, Off.refl _ _⟩
 case round =>
  obtain ⟨m, kk, hm, rfl, rfl, Hk, k1, k2, HP, HO⟩ := hrel
  by_cases hlt : m < qs.length
  ·
   obtain ⟨q, hq⟩ : ∃ q, qs[m]? = some q := ⟨qs[m], List.getElem?_eq_getElem hlt⟩
   have HQ : Hid (qs[m]? = some q) := hq
   have HM : Hid ((markL stPl mkPl k0 qs m)[m]? = some q) := (markL_old _ _ _ _ m m (Nat.le_refl _)).trans hq
   have Hml : Hid (m < (markL stPl mkPl k0 qs m).length) := by show _ < _; rw [markL_len]; exact hlt
   have FN : Hid (stPl kk q = foldK stPl k0 qs (m + 1)) := by rw [Hk.out]; exact (foldK_succ hq).symm
   have hbd : stPl kk q ≤ 9000000000000 := by
    have h2 := (FB.out (m + 1)).2
    rw [FN.out]
    omega
   have hlq : q.ws.length ≤ 1048576 := HL.out q (List.mem_of_getElem? hq)
   unfold stPl at hbd
   clear hq
   obtain ⟨gz, ⟨c0, c1, c2⟩, ⟨f0, f1, f2⟩⟩ := rowPl (q := q) HP.out HM.out
   go_wp2_with fail
   clear gz c0 f0 c1 f1 c2 f2
   refine (markText_any (kk) (by omega) _).mono ?_
   rintro e w1 ⟨rfl, b1⟩
   have A1 : Hid (PlO w1 B (markL stPl mkPl k0 qs m) (.slice (some ⟨g, 0, none⟩) qs.length cap)) := HP.out.keep b1
   have C1 : Hid (Off (PlO.bs qs (.slice (some ⟨g, 0, none⟩) qs.length cap)) w w1) := HO.out.trans (Off.of_below b1)
   clear b1
   obtain ⟨gz, ⟨c0, c1, c2⟩, ⟨f0, f1, f2⟩⟩ := rowPl (q := q) A1.out HM.out
   go_wp2_with fail
   clear gz c0 f0 c1 f1 c2 f2
   have A2 : Hid (PlO (w1.setCell ⟨g, m * 3, none⟩ (.string (markB (kk)))) B ((markL stPl mkPl k0 qs m).set m (⟨markB (kk), q.s, q.a, q.c, q.ws⟩ : P.PlaceD)) (.slice (some ⟨g, 0, none⟩) qs.length cap)) := by
    have hh := A1.out.setc (j := 0) (u := .string (markB (kk))) (q := q) (q' := (⟨markB (kk), q.s, q.a, q.c, q.ws⟩ : P.PlaceD)) (HM.out) (by omega) rfl rfl rfl rfl
    rw [Nat.add_zero] at hh
    exact hh
   have C2 : Hid (Off (PlO.bs qs (.slice (some ⟨g, 0, none⟩) qs.length cap)) w (w1.setCell ⟨g, m * 3, none⟩ (.string (markB (kk))))) := C1.out.trans (Off.of_grown (W.ex_grown ((Ex.refl _ _).set _ _)) (fun j e => Or.inl (by cases e; rfl)))
   have A3 : Hid (PlO ((w1.setCell ⟨g, m * 3, none⟩ (.string (markB (kk)))).setCell ⟨g, m * 3 + 1, none⟩ (.int .i64 (kk + 1))) B ((markL stPl mkPl k0 qs m).set m (⟨markB (kk), kk + 1, q.a, q.c, q.ws⟩ : P.PlaceD)) (.slice (some ⟨g, 0, none⟩) qs.length cap)) := by
    have hh := A2.out.setc (j := 1) (u := .int .i64 (kk + 1)) (q := (⟨markB (kk), q.s, q.a, q.c, q.ws⟩ : P.PlaceD)) (q' := (⟨markB (kk), kk + 1, q.a, q.c, q.ws⟩ : P.PlaceD)) (by rw [List.getElem?_set_self Hml.out]) (by omega) rfl rfl rfl rfl
    rw [List.set_set] at hh
    exact hh
   have C3 : Hid (Off (PlO.bs qs (.slice (some ⟨g, 0, none⟩) qs.length cap)) w ((w1.setCell ⟨g, m * 3, none⟩ (.string (markB (kk)))).setCell ⟨g, m * 3 + 1, none⟩ (.int .i64 (kk + 1)))) := C2.out.trans (Off.of_grown (W.ex_grown ((Ex.refl _ _).set _ _)) (fun j e => Or.inl (by cases e; rfl)))
   refine (W.mark_sl (A3.out.k m (⟨markB (kk), kk + 1, q.a, q.c, q.ws⟩ : P.PlaceD) (by rw [List.getElem?_set_self Hml.out])) (kk + 1 + 1) hlq (by omega) (by omega)).mono ?_
   rintro e w4 ⟨rfl, r4, g4⟩
   have A4 : Hid (PlO w4 B ((markL stPl mkPl k0 qs m).set m (⟨markB (kk), kk + 1, q.a, q.c, W.marks (kk + 1 + 1) q.ws.length⟩ : P.PlaceD)) (.slice (some ⟨g, 0, none⟩) qs.length cap)) := by
    have hh := A3.out.wants (m := m) (q := (⟨markB (kk), kk + 1, q.a, q.c, q.ws⟩ : P.PlaceD)) (q' := (⟨markB (kk), kk + 1, q.a, q.c, W.marks (kk + 1 + 1) q.ws.length⟩ : P.PlaceD)) (by rw [List.getElem?_set_self Hml.out]) rfl (W.len_marks _ _) rfl (by show Pr.raw _ = Pr.raw _; unfold Pr.raw; rw [W.len_marks]) r4 g4
    rw [List.set_set] at hh
    exact hh
   have C4 : Hid (Off (PlO.bs qs (.slice (some ⟨g, 0, none⟩) qs.length cap)) w w4) := C3.out.trans (Off.of_grown g4 (fun j e => Or.inr ⟨m, q, HQ.out, e⟩))
   clear r4 g4
   go_wp2
   exact ⟨⟨m + 1, _, by omega, by go_num, rfl, by rw [← FN.out]; rfl, by omega, by omega, by rw [markL_succ HQ.out, ← Hk.out]; exact A4.out, C4.out⟩, by simp [intOf]; omega⟩
  ·
   go_wp2
   go_ret
   have hmn : m = qs.length := by omega
   subst hmn
   exact ⟨by rw [← Hk.out]; rfl, HP.out, HO.out⟩
theorem markPl_sl (qs : List P.PlaceD) (v : Value) (B : Nat) (k0 : Int) (w : World) (h : PlO w B (qs) v) (hl : qs.length ≤ 1048576) (hL : ∀ q ∈ qs, q.ws.length ≤ 1048576) (h0 : 0 ≤ k0) (h1 : k0 ≤ 1000000000000) :
  Calls Tryz.prog 38 #[v, .int .i64 k0] w fun e w' => e = .returned (.int .i64 (foldK stPl k0 qs qs.length)) ∧ PlO w' B (markL stPl mkPl k0 qs qs.length) v ∧ Off (PlO.bs qs v) w w' := by
 have h' := h.o
 rcases h' with ⟨rfl, hn⟩ | ⟨g, cap, hv, -⟩
 ·
  have hn2 : qs = [] := List.map_eq_nil_iff.1 hn
  subst hn2
  refine (markPl_zero none 0 k0 w).mono ?_
  rintro e w' ⟨rfl, rfl⟩
  exact ⟨rfl, h, Off.refl _ _⟩
 ·
  rw [List.length_map] at hv; subst hv
  exact markPl_at qs g cap B k0 w h hl hL h0 h1
theorem cellsPlm {x x' : World} {g n cap B m : Nat} {l : List P.PlaceD} {q : P.PlaceD} {kk : Int} (h : PlO x B l (.slice (some ⟨g, 0, none⟩) n cap)) (hq : l[m]? = some (mkPl kk q)) (hb : Below x.heap.size x x') :
  Below x.heap.size x x' ∧ (x'.cell? ⟨g, m * 3, none⟩ = some (.string (markB kk)) ∧ x'.cell? ⟨g, m * 3 + 1, none⟩ = some (.int .i64 (kk + 1)) ∧ x'.cell? ⟨g, m * 3 + 2, none⟩ = some (.slice q.a q.ws.length q.c)) := by
 obtain ⟨-, hc, -⟩ := rowPl (h.keep hb) hq
 simp only [mkPl, W.len_marks] at hc
 exact ⟨hb, hc⟩
set_option maxRecDepth 4000 in
set_option maxHeartbeats 4000000 in
theorem heldPl_at (qs : List P.PlaceD) (g cap B : Nat) (k0 : Int) (w : World) (h : PlO w B (markL stPl mkPl k0 qs qs.length) (.slice (some ⟨g, 0, none⟩) qs.length cap)) (hl : qs.length ≤ 1048576) (hL : ∀ q ∈ qs, q.ws.length ≤ 1048576) (h0 : 0 ≤ k0) (h1 : k0 ≤ 1000000000000) :
  Calls Tryz.prog 42 #[.slice (some ⟨g, 0, none⟩) qs.length cap, .int .i64 k0] w fun e w' => e = .returned (.int .i64 (foldK stPl k0 qs qs.length)) ∧ Below w.heap.size w w' := by
 have HH : Hid (PlO w B (markL stPl mkPl k0 qs qs.length) (.slice (some ⟨g, 0, none⟩) qs.length cap)) := h
 have HL : Hid (∀ q ∈ qs, q.ws.length ≤ 1048576) := hL
 have FB : Hid (∀ m, k0 ≤ foldK stPl k0 qs m ∧ foldK stPl k0 qs m ≤ k0 + 7340034 * (m : Int)) := fun m => foldPl_bound k0 qs hL m
 clear h hL
 go_enter Tryz.func42, Tryz.ntmps42
 go_wp2
 go_loopw [1, 5] (fun q i wx => ∃ (m : Nat) (kk : Int), m ≤ qs.length ∧ i = .int .i64 m ∧ q = .int .i64 kk ∧ Hid (kk = foldK stPl k0 qs m) ∧ 0 ≤ kk ∧ kk ≤ 9000000000000 ∧ Hid (Below w.heap.size w wx)) (fun _ i _ => qs.length - (intOf i).toNat)
 case atStart => exact ⟨0, k0, Nat.zero_le _, rfl, rfl, rfl, h0, by omega, Below.refl _ _⟩
 case round =>
  obtain ⟨m, kk, hm, rfl, rfl, Hk, k1, k2, HB0⟩ := hrel
  by_cases hlt : m < qs.length
  ·
   obtain ⟨q, hq⟩ : ∃ q, qs[m]? = some q := ⟨qs[m], List.getElem?_eq_getElem hlt⟩
   have HM : Hid ((markL stPl mkPl k0 qs qs.length)[m]? = some (mkPl kk q)) := by rw [Hk.out]; exact markL_new _ _ _ _ _ m q hlt hq
   have FN : Hid (stPl kk q = foldK stPl k0 qs (m + 1)) := by rw [Hk.out]; exact (foldK_succ hq).symm
   have hbd : stPl kk q ≤ 9000000000000 := by
    have h2 := (FB.out (m + 1)).2
    rw [FN.out]
    omega
   have hlq : q.ws.length ≤ 1048576 := HL.out q (List.mem_of_getElem? hq)
   unfold stPl at hbd
   clear hq
   have i0 : (0 : Int) ≤ (m : Int) := by omega
   have i1 : (m : Int) < (qs.length : Int) := by omega
   have P0 : Hid (PlO wr B (markL stPl mkPl k0 qs qs.length) (.slice (some ⟨g, 0, none⟩) qs.length cap)) := HH.out.keep HB0.out
   go_wp2_with fail
   go_region_held3 (fun w' => Below wr.heap.size wr w' ∧ (w'.cell? ⟨g, m * 3, none⟩ = some (.string (markB kk)) ∧ w'.cell? ⟨g, m * 3 + 1, none⟩ = some (.int .i64 (kk + 1)) ∧ w'.cell? ⟨g, m * 3 + 2, none⟩ = some (.slice q.a q.ws.length q.c)))
    (first | exact cellsPlm P0.out HM.out (bl_drew (Below.refl _ _)) | exact cellsPlm P0.out HM.out (bl_trans (bl_drew (Below.refl _ _)) hx))
    (first | (go_at_call 40; refine (markText_any _ (by omega) _).mono ?_; rintro e w' ⟨rfl, hx⟩))
   have y1 : Below wr.heap.size wr w' := bl_trans (bl_drew (Below.refl _ _)) hx
   have P1 : Hid (PlO w' B (markL stPl mkPl k0 qs qs.length) (.slice (some ⟨g, 0, none⟩) qs.length cap)) := P0.out.keep y1
   have HB1 : Hid (Below w.heap.size w w') := bl_trans HB0.out y1
   clear y1 hx
   obtain ⟨w1, rfl⟩ : ∃ wz : World, wz = w' := ⟨_, rfl⟩
   obtain ⟨-, c0, c1, c2⟩ := cellsPlm P1.out HM.out (Below.refl _ _)
   go_wp2_with fail
   clear c0 c1 c2
   have hw : W.Sl w1 (.slice q.a q.ws.length q.c) (W.marks (kk + 1 + 1) q.ws.length) B := by
    have hh := P1.out.k m _ HM.out
    simp only [mkPl, W.len_marks] at hh
    exact hh
   refine (W.held_sl (kk + 1 + 1) hw hlq (by omega) (by omega)).mono ?_
   rintro e w2 ⟨rfl, y1⟩
   have P2 : Hid (PlO w2 B (markL stPl mkPl k0 qs qs.length) (.slice (some ⟨g, 0, none⟩) qs.length cap)) := P1.out.keep y1
   have HB2 : Hid (Below w.heap.size w w2) := bl_trans HB1.out y1
   clear y1 hw
   go_wp2
   exact ⟨⟨m + 1, _, by omega, by go_num, rfl, by rw [← FN.out]; rfl, by omega, by omega, HB2.out⟩, by simp [intOf]; omega⟩
  ·
   go_wp2
   go_ret
   have hmn : m = qs.length := by omega
   subst hmn
   exact ⟨by rw [← Hk.out]; rfl, HB0.out⟩
theorem heldPl_sl (qs : List P.PlaceD) (v : Value) (B : Nat) (k0 : Int) (w : World) (h : PlO w B (markL stPl mkPl k0 qs qs.length) v) (hl : qs.length ≤ 1048576) (hL : ∀ q ∈ qs, q.ws.length ≤ 1048576) (h0 : 0 ≤ k0) (h1 : k0 ≤ 1000000000000) :
  Calls Tryz.prog 42 #[v, .int .i64 k0] w fun e w' => e = .returned (.int .i64 (foldK stPl k0 qs qs.length)) ∧ Below w.heap.size w w' := by
 have h' := h.o
 rcases h' with ⟨rfl, hn⟩ | ⟨g, cap, hv, -⟩
 ·
  have hn2 : (markL stPl mkPl k0 qs qs.length) = [] := List.map_eq_nil_iff.1 hn
  have hn3 : qs.length = 0 := by rw [← markL_len stPl mkPl k0 qs qs.length, hn2]; rfl
  have hn4 : qs = [] := List.length_eq_zero_iff.1 hn3
  subst hn4
  refine (heldPl_zero none 0 k0 w).mono ?_
  rintro e w' ⟨rfl, rfl⟩
  exact ⟨rfl, Below.refl _ _⟩
 ·
  rw [List.length_map, markL_len] at hv; subst hv
  exact heldPl_at qs g cap B k0 w h hl hL h0 h1
end Go.Proofs.YtefkdohkjdopeaaGreatDoor
