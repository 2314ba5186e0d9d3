import Derived.Test.YtgakmkhbnjofhaaGreatDoorJ30
import Derived.Test.YtgakmkhbnjofhaaGreatDoorJ33
import Derived.Test.YtgakmkhbnjofhaaGreatDoorJ34
import Derived.Test.YtgakmkhbnjofhaaGreatDoorJ43
namespace Go.Proofs.YtgakmkhbnjofhaaGreatDoor
open Go.RowKit
set_option linter.unusedVariables false
set_option maxRecDepth 4000 in
set_option maxHeartbeats 2000000 in
theorem wParcel_same (p : ParD) (s1 t1 : Value) (B1 B2 : Nat) (w : World) (h1 : W.Sl w s1 p.ws B1) (h2 : W.Sl w t1 p.ws B2) (hl : p.ws.length ≤ 1048576) :
  Calls Tryz.prog 8 #[.agg #[.int .i64 p.k, .string p.b, .int .i64 p.se, s1, .string p.h, .string p.c, .int .i64 p.t], .agg #[.int .i64 p.k, .string p.b, .int .i64 p.se, t1, .string p.h, .string p.c, .int .i64 p.t]] w fun e w' => e = .returned (.bool true) ∧ Below w.heap.size w w' := by
 have Hb0 : Hid (Below w.heap.size w ((w.alloc (.cells #[.int .i64 p.k, .string p.b, .int .i64 p.se, s1, .string p.h, .string p.c, .int .i64 p.t] 25)).alloc (.cells #[.int .i64 p.k, .string p.b, .int .i64 p.se, t1, .string p.h, .string p.c, .int .i64 p.t] 25))) := bl_alloc (bl_alloc (Below.refl _ _) _) _
 have P0 : Hid _ := h1.keep Hb0.out
 have Q0 : Hid _ := h2.keep Hb0.out
 go_enter Tryz.func8, Tryz.ntmps8
 go_wp2_with fail
 refine (W.wEq P0.out Q0.out hl).mono ?_
 rintro e w1 ⟨rfl, c1⟩
 have D1 : Hid (Below ((w.alloc (.cells #[.int .i64 p.k, .string p.b, .int .i64 p.se, s1, .string p.h, .string p.c, .int .i64 p.t] 25)).alloc (.cells #[.int .i64 p.k, .string p.b, .int .i64 p.se, t1, .string p.h, .string p.c, .int .i64 p.t] 25)).heap.size ((w.alloc (.cells #[.int .i64 p.k, .string p.b, .int .i64 p.se, s1, .string p.h, .string p.c, .int .i64 p.t] 25)).alloc (.cells #[.int .i64 p.k, .string p.b, .int .i64 p.se, t1, .string p.h, .string p.c, .int .i64 p.t] 25)) w1) := c1
 clear c1
 have ka : ∀ k, w1.cell? ⟨w.heap.size, k, none⟩ = (#[.int .i64 p.k, .string p.b, .int .i64 p.se, s1, .string p.h, .string p.c, .int .i64 p.t] : Array Value)[k]? := by
  intro k
  rw [D1.out.cell (p := ⟨w.heap.size, k, none⟩) (by simp; omega)]
  simp [go_sem]
 have kb : ∀ k, w1.cell? ⟨w.heap.size + 1, k, none⟩ = (#[.int .i64 p.k, .string p.b, .int .i64 p.se, t1, .string p.h, .string p.c, .int .i64 p.t] : Array Value)[k]? := by
  intro k
  rw [D1.out.cell (p := ⟨w.heap.size + 1, k, none⟩) (by simp)]
  simp [go_sem]
 go_wp2
 go_ret
 exact ⟨rfl, bl_trans Hb0.out D1.out⟩
theorem implWantsG (v : Value) (l : List W.WantD) (w : World) (hv : WsIn w v l) (hf : ∀ x ∈ l, x.fits) (hl : l.length ≤ 1048576) :
  Calls Tryz.prog 13 #[v] w fun e w' => e = .returned (.bool (wantsB l)) ∧ Below w.heap.size w w' := by
 rcases hv with ⟨A, cp, rfl, rfl⟩ | ⟨g, cp, rfl, h1, h2, h3⟩
 ·
  refine (W.implWants0 A cp w).mono ?_
  rintro e w' ⟨rfl, hb⟩
  refine ⟨?_, hb⟩
  rw [show wantsB [] = true from (says_eq W.says_nil).symm]
 ·
  refine (W.implWantsOkC g 0 cp l w h2 h3 hf hl h1).mono ?_
  rintro e w' ⟨⟨q, rfl, hs⟩, hb⟩
  exact ⟨by rw [says_eq hs], hb⟩
theorem specWantsG (v : Value) (l : List W.WantD) (w : World) (hv : WsIn w v l) (hf : ∀ x ∈ l, x.fits) (hl : l.length ≤ 1048576) :
  Calls Tryz.prog 14 #[v] w fun e w' => e = .returned (.bool (wantsB l)) ∧ Below w.heap.size w w' := by
 rcases hv with ⟨A, cp, rfl, rfl⟩ | ⟨g, cp, rfl, h1, h2, h3⟩
 ·
  refine (W.specWants0 A cp w).mono ?_
  rintro e w' ⟨rfl, hb⟩
  refine ⟨?_, hb⟩
  rw [show wantsB [] = true from (says_eq W.says_nil).symm]
 ·
  refine (W.specWantsOk g 0 cp l w h2 h3 hf hl).mono ?_
  rintro e w' ⟨⟨q, rfl, hs⟩, hb⟩
  exact ⟨by rw [says_eq hs], hb⟩
open Classical in
noncomputable def runsB (rs : List RunD) (clock : Int) : Bool := decide (rs.length ≤ 20 ∧ AllOk clock rs rs.length)
open Classical in
theorem runs_eq {q : Bool} {rs : List RunD} {clock : Int} (h : q = true ↔ rs.length ≤ 20 ∧ AllOk clock rs rs.length) : q = runsB rs clock := by
 unfold runsB
 by_cases e : rs.length ≤ 20 ∧ AllOk clock rs rs.length
 ·
  exact (h.2 e).trans (decide_eq_true e).symm
 ·
  rw [decide_eq_false e]
  cases q with
  | false => rfl
  | true => exact (e (h.1 rfl)).elim
def RsIn (w : World) (v : Value) (rs : List RunD) : Prop := ∃ b c, v = .slice (some ⟨b, 0, none⟩) rs.length c ∧ RowsAt w b 0 rs ∧ b < w.heap.size
theorem RsIn.keep {w w' : World} {v : Value} {rs : List RunD} (h : RsIn w v rs) (hb : Below w.heap.size w w') : RsIn w' v rs := by
 obtain ⟨b, c, h1, h2, h3⟩ := h
 exact ⟨b, c, h1, h2.keep h3 hb, Nat.lt_of_lt_of_le h3 hb.size⟩
theorem rs_of {w : World} {a : Option Addr} {c B : Nat} {rs : List RunD} (h : Ow w (.slice a rs.length c) rs B) (hn : rs = [] → ∃ b c', Value.slice a rs.length c = .slice (some ⟨b, 0, none⟩) 0 c') : RsIn w (.slice a rs.length c) rs := by
 obtain ⟨hl, ⟨h1, h0⟩ | ⟨g, cap, cur, h1, hb, hg, hnc, hcm, hcs, htk⟩⟩ := id h
 ·
  obtain ⟨b, c', e⟩ := hn (List.length_eq_zero_iff.1 h0)
  rw [e] at h1
  cases h1
 ·
  rcases Ow.sl h with ⟨h2, h3⟩ | ⟨g', cap', h2, h3, h4, h5, h6⟩
  ·
   rw [h2] at h1; cases h1
  ·
   exact ⟨g', cap', h2, h5, h4⟩
theorem implRunsG (v : Value) (rs : List RunD) (clock : Int) (w : World) (hv : RsIn w v rs) (hf : ∀ x ∈ rs, x.fits) (hl : rs.length ≤ 1048576) :
  Calls Tryz.prog 15 #[v, .int .i64 clock] w fun e w' => e = .returned (.bool (runsB rs clock)) ∧ Below w.heap.size w w' := by
 obtain ⟨b, c, rfl, h1, h2⟩ := hv
 refine (implRunsOk b 0 c rs clock w h1 h2 hf hl).mono ?_
 rintro e w' ⟨⟨q, rfl, hs⟩, hb⟩
 exact ⟨by rw [runs_eq hs], hb⟩
theorem specRunsG (v : Value) (rs : List RunD) (clock : Int) (w : World) (hv : RsIn w v rs) (hf : ∀ x ∈ rs, x.fits) (hl : rs.length ≤ 1048576) :
  Calls Tryz.prog 16 #[v, .int .i64 clock] w fun e w' => e = .returned (.bool (runsB rs clock)) ∧ Below w.heap.size w w' := by
 obtain ⟨b, c, rfl, h1, h2⟩ := hv
 refine (specRunsOk b 0 c rs clock w h1 h2 hf hl).mono ?_
 rintro e w' ⟨⟨q, rfl, hs⟩, hb⟩
 exact ⟨by rw [runs_eq hs], hb⟩
theorem sl_shapeF {w : World} {v : Value} {l : List W.WantD} {B : Nat} (h : W.Sl w v l B) : ∃ a n c, v = .slice a n c := by
 rcases h with ⟨rfl, -⟩ | ⟨g, cap, rfl, -⟩
 ·
  exact ⟨_, _, _, rfl⟩
 ·
  exact ⟨_, _, _, rfl⟩
theorem empty_eT {s : ByteArray} (h : s.toList.isEmpty = false) : s ≠ eT := fun e => by
 rw [e, ByteArray.toList_eq] at h
 exact absurd h (by simp [eT])
theorem list_same (s : ByteArray) : (s.toList == s.toList) = true := by simp
set_option maxRecDepth 4000 in
set_option maxHeartbeats 16000000 in
theorem lawForms (sl : Option Addr) (n cap : Nat) (zs : List Int) (w : World) (hz : CodeIn w sl n zs) (hcap : n ≤ cap) (hE : Env w) :
  Calls Tryz.prog 3 #[.slice sl n cap] w fun e w' => e = .returned (.bool true) ∧ Below w.heap.size w w' := by
 by_cases hbig : (1048576 : Int) < (n : Int)
 ·
  clear hE hz
  go_enter Tryz.func3, Tryz.ntmps3
  go_wp2
  go_ret
  exact ⟨rfl, Below.refl _ _⟩
 have hn : n ≤ 1048576 := by omega
 have HE : Hid (Env w) := hE
 have HZ : Hid (CodeIn w sl n zs) := hz
 clear hE hz
 go_enter Tryz.func3, Tryz.ntmps3
 go_wp2_with fail
 refine (drawForm sl n cap zs w HZ.out hn hcap).mono ?_
 rintro e w1 ⟨P, sa, sn, rfl, o1, pq, b1⟩
 have O1 : Hid (W.Sl w1 (.slice sa P.ws.length sn) P.ws w.heap.size) := W.Ow.sl o1
 have ws1 := W.Ow.ws o1
 have B1 : Hid (Below w.heap.size w w1) := b1
 have HF : Hid (Pq P) := pq
 obtain ⟨w2, hw2⟩ : ∃ w2, w2 = w1.alloc (.cells #[.int .i64 P.k, .string P.b, .int .i64 P.se, .slice sa P.ws.length sn, .string P.h, .string P.c, .int .i64 P.t] 25) := ⟨_, rfl⟩
 have HW2 : Hid (w2 = w1.alloc (.cells #[.int .i64 P.k, .string P.b, .int .i64 P.se, .slice sa P.ws.length sn, .string P.h, .string P.c, .int .i64 P.t] 25)) := hw2
 have B12 : Hid (Below w1.heap.size w1 w2) := by rw [hw2]; exact bl_alloc (Below.refl _ _) _
 have B2 : Hid (Below w.heap.size w w2) := bl_trans B1.out B12.out
 have W2 : Hid (WsIn w2 (.slice sa P.ws.length sn) P.ws) := ws1.keep B12.out
 have K0 : Hid (∀ y, Below w2.heap.size w2 y → ∀ j, y.cell? ⟨w1.heap.size, j, none⟩ = (#[.int .i64 P.k, .string P.b, .int .i64 P.se, .slice sa P.ws.length sn, .string P.h, .string P.c, .int .i64 P.t] : Array Value)[j]?) := by
  intro y hb j
  rw [hw2] at hb
  rw [box_keep hb j]
  simp [go_sem]
 have Z12 : Hid (w1.heap.size < w2.heap.size) := by rw [hw2]; show _ < _; simp
 obtain ⟨TX, hTX⟩ : ∃ TX, formT P = TX := ⟨_, rfl⟩
 have hT : TX.size ≤ 4000 := by rw [← hTX]; exact formT_size P
 have HTX : Hid (formT P = TX) := hTX
 have FI : Hid (∀ y, WsIn y (.slice sa P.ws.length sn) P.ws → Env y → Calls Tryz.prog 5 #[.agg #[.int .i64 P.k, .string P.b, .int .i64 P.se, .slice sa P.ws.length sn, .string P.h, .string P.c, .int .i64 P.t]] y fun e y' => e = .returned (.string TX) ∧ Below y.heap.size y y') := fun y hy hEy => by
  have h := implFormG P.k P.b P.se P.ws P.h P.c P.t _ y HF.out.sz HF.out.f hy hEy.tab
  rw [show formT ⟨P.k, P.b, P.se, P.ws, P.h, P.c, P.t⟩ = TX from hTX] at h
  exact h
 have FS : Hid (∀ y, WsIn y (.slice sa P.ws.length sn) P.ws → Calls Tryz.prog 7 #[.agg #[.int .i64 P.k, .string P.b, .int .i64 P.se, .slice sa P.ws.length sn, .string P.h, .string P.c, .int .i64 P.t]] y fun e y' => e = .returned (.string TX) ∧ Below y.heap.size y y') := fun y hy => by
  have h := specFormG P.k P.b P.se P.ws P.h P.c P.t _ y HF.out.sz HF.out.f hy
  rw [show formT ⟨P.k, P.b, P.se, P.ws, P.h, P.c, P.t⟩ = TX from hTX] at h
  exact h
 have ka0 := K0.out w2 (Below.refl _ _) 0; have ka1 := K0.out w2 (Below.refl _ _) 1; have ka2 := K0.out w2 (Below.refl _ _) 2; have ka3 := K0.out w2 (Below.refl _ _) 3; have ka4 := K0.out w2 (Below.refl _ _) 4; have ka5 := K0.out w2 (Below.refl _ _) 5; have ka6 := K0.out w2 (Below.refl _ _) 6
 clear b1 pq ws1 o1 hw2 hTX
 go_wp2_with fail
 rw [← HW2.out]
 refine (FI.out w2 W2.out (HE.out.keep B2.out)).mono ?_
 rintro e w3 ⟨rfl, b3⟩
 have B23 : Hid (Below w2.heap.size w2 w3) := b3
 have B3 : Hid (Below w.heap.size w w3) := bl_trans B2.out B23.out
 have HE3 : Hid (Env w3) := HE.out.keep B3.out
 clear b3 ka0 ka1 ka2 ka3 ka4 ka5 ka6
 go_wp2_with fail
 refine (implReadC TX w3 (by omega) HE3.out).mono ?_
 rintro e w4 ⟨v4, rfl, sl4, hc4, b4⟩
 have B34 : Hid (Below w3.heap.size w3 w4) := b4
 have B24 : Hid (Below w2.heap.size w2 w4) := bl_trans B23.out B34.out
 have B4 : Hid (Below w.heap.size w w4) := bl_trans B3.out B34.out
 clear b4 hc4
 obtain ⟨p4, hp4⟩ : ∃ p4, ansP TX (implP TX) = p4 := ⟨_, rfl⟩
 obtain ⟨q4, hq4⟩ : ∃ q4, okP TX (implP TX) = q4 := ⟨_, rfl⟩
 rw [hp4, hq4]
 rw [hp4] at sl4
 simp only [pcells]
 obtain ⟨a4, n4, c4, rfl⟩ := sl_shapeF sl4
 have S4 : Hid (W.Sl w4 (.slice a4 n4 c4) p4.ws w3.heap.size) := sl4
 obtain ⟨EM, hEM⟩ : ∃ EM, TX.toList.isEmpty = EM := ⟨_, rfl⟩
 have HEM : Hid (EM = !q4 ∧ (q4 = true → p4 = P)) := by
  cases EM with
  | true =>
   have h1 : okP TX (implP TX) = false := okP_no hEM
   rw [hq4] at h1
   rw [h1]
   exact ⟨rfl, fun h => by cases h⟩
  | false =>
   have h1 : implP TX = P := (read_back HTX.out (empty_eT hEM)).2
   have h2 : okP TX (implP TX) = true := by rw [h1]; exact okP_yes hEM (by rw [HTX.out]; exact list_same TX)
   rw [hq4] at h2
   rw [h2]
   refine ⟨rfl, fun _ => ?_⟩
   rw [← hp4, show ansP TX (implP TX) = implP TX from if_pos (by rw [hq4]; exact h2), h1]
 have HEQ : Hid (TX.toList.isEmpty = EM) := hEM
 clear hp4 hq4 sl4 hEM
 obtain ⟨w5, hw5⟩ : ∃ w5, w5 = w4.alloc (.cells #[.int .i64 p4.k, .string p4.b, .int .i64 p4.se, .slice a4 n4 c4, .string p4.h, .string p4.c, .int .i64 p4.t] 25) := ⟨_, rfl⟩
 have HW5 : Hid (w5 = w4.alloc (.cells #[.int .i64 p4.k, .string p4.b, .int .i64 p4.se, .slice a4 n4 c4, .string p4.h, .string p4.c, .int .i64 p4.t] 25)) := hw5
 have B45 : Hid (Below w4.heap.size w4 w5) := by rw [hw5]; exact bl_alloc (Below.refl _ _) _
 have B25 : Hid (Below w2.heap.size w2 w5) := bl_trans B24.out B45.out
 have B5 : Hid (Below w.heap.size w w5) := bl_trans B4.out B45.out
 have W5 : Hid (WsIn w5 (.slice sa P.ws.length sn) P.ws) := W2.out.keep B25.out
 have S5 : Hid (W.Sl w5 (.slice a4 n4 c4) p4.ws w3.heap.size) := S4.out.keep B45.out
 have K5 : Hid (∀ y, Below w5.heap.size w5 y → ∀ j, y.cell? ⟨w4.heap.size, j, none⟩ = (#[.int .i64 p4.k, .string p4.b, .int .i64 p4.se, .slice a4 n4 c4, .string p4.h, .string p4.c, .int .i64 p4.t] : Array Value)[j]?) := by
  intro y hb j
  rw [hw5] at hb
  rw [box_keep hb j]
  simp [go_sem]
 have kb0 : (w4.alloc (.cells #[.int .i64 p4.k, .string p4.b, .int .i64 p4.se, .slice a4 n4 c4, .string p4.h, .string p4.c, .int .i64 p4.t] 25)).cell? ⟨w1.heap.size, 0, none⟩ = _ := K0.out _ (bl_alloc B24.out _) 0
 have kb1 : (w4.alloc (.cells #[.int .i64 p4.k, .string p4.b, .int .i64 p4.se, .slice a4 n4 c4, .string p4.h, .string p4.c, .int .i64 p4.t] 25)).cell? ⟨w1.heap.size, 1, none⟩ = _ := K0.out _ (bl_alloc B24.out _) 1
 have kb2 : (w4.alloc (.cells #[.int .i64 p4.k, .string p4.b, .int .i64 p4.se, .slice a4 n4 c4, .string p4.h, .string p4.c, .int .i64 p4.t] 25)).cell? ⟨w1.heap.size, 2, none⟩ = _ := K0.out _ (bl_alloc B24.out _) 2
 have kb3 : (w4.alloc (.cells #[.int .i64 p4.k, .string p4.b, .int .i64 p4.se, .slice a4 n4 c4, .string p4.h, .string p4.c, .int .i64 p4.t] 25)).cell? ⟨w1.heap.size, 3, none⟩ = _ := K0.out _ (bl_alloc B24.out _) 3
 have kb4 : (w4.alloc (.cells #[.int .i64 p4.k, .string p4.b, .int .i64 p4.se, .slice a4 n4 c4, .string p4.h, .string p4.c, .int .i64 p4.t] 25)).cell? ⟨w1.heap.size, 4, none⟩ = _ := K0.out _ (bl_alloc B24.out _) 4
 have kb5 : (w4.alloc (.cells #[.int .i64 p4.k, .string p4.b, .int .i64 p4.se, .slice a4 n4 c4, .string p4.h, .string p4.c, .int .i64 p4.t] 25)).cell? ⟨w1.heap.size, 5, none⟩ = _ := K0.out _ (bl_alloc B24.out _) 5
 have kb6 : (w4.alloc (.cells #[.int .i64 p4.k, .string p4.b, .int .i64 p4.se, .slice a4 n4 c4, .string p4.h, .string p4.c, .int .i64 p4.t] 25)).cell? ⟨w1.heap.size, 6, none⟩ = _ := K0.out _ (bl_alloc B24.out _) 6
 clear hw5
 go_wp2_with fail
 rw [← HW5.out]
 clear kb0 kb1 kb2 kb3 kb4 kb5 kb6
 refine (FS.out w5 W5.out).mono ?_
 rintro e w6 ⟨rfl, b6⟩
 have B56 : Hid (Below w5.heap.size w5 w6) := b6
 have B26 : Hid (Below w2.heap.size w2 w6) := bl_trans B25.out B56.out
 have B6 : Hid (Below w.heap.size w w6) := bl_trans B5.out B56.out
 have kp : ∀ j, w6.cell? ⟨w1.heap.size, j, none⟩ = _ := K0.out w6 B26.out
 have kq : ∀ j, w6.cell? ⟨w4.heap.size, j, none⟩ = _ := K5.out w6 B56.out
 have ka0 := kp 0; have ka1 := kp 1; have ka2 := kp 2; have ka3 := kp 3; have ka4 := kp 4; have ka5 := kp 5; have ka6 := kp 6
 have kb0 := kq 0; have kb1 := kq 1; have kb2 := kq 2; have kb3 := kq 3; have kb4 := kq 4; have kb5 := kq 5; have kb6 := kq 6
 clear b6 kp kq
 have hem : TX.toList.isEmpty = EM := HEQ.out
 have hls : (TX.toList == TX.toList) = true := list_same TX
 cases q4
 ·
  obtain rfl : EM = true := HEM.out.1
  go_wp2_with fail
  refine (drawRead sl n cap zs w6 (HZ.out.bel B6.out) hn hcap).mono ?_
  rintro e y1 ⟨u, rfl, hu, b⟩
  have C1 : Hid (Below w.heap.size w y1) := bl_trans B6.out b
  clear b
  go_wp2_with fail
  refine (implReadC u y1 (by omega) (HE.out.keep C1.out)).mono ?_
  rintro e y2 ⟨v2, rfl, sl2, hc2, b⟩
  have C2 : Hid (Below w.heap.size w y2) := bl_trans C1.out b
  clear b
  obtain ⟨p5, hp5⟩ : ∃ p5, ansP u (implP u) = p5 := ⟨_, rfl⟩
  obtain ⟨q5, hq5⟩ : ∃ q5, okP u (implP u) = q5 := ⟨_, rfl⟩
  rw [hp5, hq5]
  rw [hp5] at sl2
  simp only [pcells]
  have HA1 : Hid (ansP u (specP u) = p5) := by show _ = _; rw [(agree u).2, hp5]
  have HA2 : Hid (okP u (specP u) = q5) := by show _ = _; rw [(agree u).1, hq5]
  have V2 : Hid (WsIn y2 v2 p5.ws) := sl_ws sl2 hc2
  obtain ⟨a5, n5, c5, rfl⟩ := sl_shapeF sl2
  have FI5 : Hid (q5 = true → ∀ y, WsIn y (.slice a5 n5 c5) p5.ws → Env y → Calls Tryz.prog 5 #[.agg #[.int .i64 p5.k, .string p5.b, .int .i64 p5.se, .slice a5 n5 c5, .string p5.h, .string p5.c, .int .i64 p5.t]] y fun e y' => e = .returned (.string u) ∧ Below y.heap.size y y') := fun hq y hy hEy => by
   have e1 : ansP u (implP u) = implP u := if_pos (by rw [hq5]; exact hq)
   have e2 : p5 = implP u := by rw [← hp5, e1]
   have e3 : formT p5 = u := by
    rw [e2]
    have h : okP u (implP u) = true := by rw [hq5]; exact hq
    unfold okP at h
    simp only [Bool.and_eq_true] at h
    exact eq_list h.2
   have hz : ParSz p5 := by rw [e2]; exact implP_sz u (by omega)
   have hf : ∀ q ∈ p5.ws, q.fits := by rw [e2]; exact implP_fits u (by omega)
   have h := implFormG p5.k p5.b p5.se p5.ws p5.h p5.c p5.t _ y hz hf hy hEy.tab
   rw [show formT ⟨p5.k, p5.b, p5.se, p5.ws, p5.h, p5.c, p5.t⟩ = u from e3] at h
   exact h
  clear hp5 hq5 sl2 hc2
  obtain ⟨y3, hy3⟩ : ∃ y3, y3 = y2.alloc (.cells #[.int .i64 p5.k, .string p5.b, .int .i64 p5.se, .slice a5 n5 c5, .string p5.h, .string p5.c, .int .i64 p5.t] 25) := ⟨_, rfl⟩
  have HY3 : Hid (y3 = y2.alloc (.cells #[.int .i64 p5.k, .string p5.b, .int .i64 p5.se, .slice a5 n5 c5, .string p5.h, .string p5.c, .int .i64 p5.t] 25)) := hy3
  have C23 : Hid (Below y2.heap.size y2 y3) := by rw [hy3]; exact bl_alloc (Below.refl _ _) _
  have C3 : Hid (Below w.heap.size w y3) := bl_trans C2.out C23.out
  have V3 : Hid (WsIn y3 (.slice a5 n5 c5) p5.ws) := V2.out.keep C23.out
  have L3 : Hid (∀ y, Below y3.heap.size y3 y → ∀ j, y.cell? ⟨y2.heap.size, j, none⟩ = (#[.int .i64 p5.k, .string p5.b, .int .i64 p5.se, .slice a5 n5 c5, .string p5.h, .string p5.c, .int .i64 p5.t] : Array Value)[j]?) := by
   intro y hb j
   rw [hy3] at hb
   rw [box_keep hb j]
   simp [go_sem]
  clear hy3
  go_wp2_with fail
  rw [← HY3.out]
  refine (specRead u y3 (by omega)).mono ?_
  rintro e y4 ⟨v6, rfl, sl6, b⟩
  have C34 : Hid (Below y3.heap.size y3 y4) := b
  have C4 : Hid (Below w.heap.size w y4) := bl_trans C3.out C34.out
  rw [HA1.out, HA2.out]
  rw [HA1.out] at sl6
  simp only [pcells]
  obtain ⟨a6, n6, c6, rfl⟩ := sl_shapeF sl6
  clear sl6 b
  obtain ⟨y5, hy5⟩ : ∃ y5, y5 = y4.alloc (.cells #[.int .i64 p5.k, .string p5.b, .int .i64 p5.se, .slice a6 n6 c6, .string p5.h, .string p5.c, .int .i64 p5.t] 25) := ⟨_, rfl⟩
  have HY5 : Hid (y5 = y4.alloc (.cells #[.int .i64 p5.k, .string p5.b, .int .i64 p5.se, .slice a6 n6 c6, .string p5.h, .string p5.c, .int .i64 p5.t] 25)) := hy5
  have C45 : Hid (Below y4.heap.size y4 y5) := by rw [hy5]; exact bl_alloc (Below.refl _ _) _
  have C35 : Hid (Below y3.heap.size y3 y5) := bl_trans C34.out C45.out
  have C5 : Hid (Below w.heap.size w y5) := bl_trans C4.out C45.out
  clear hy5
  go_wp2_with fail
  rw [← HY5.out]
  refine (drawWants sl n cap zs y5 (HZ.out.bel C5.out) hn hcap).mono ?_
  rintro e y6 ⟨l, a7, c7, rfl, o7, l7, f7, b⟩
  have C56 : Hid (Below y5.heap.size y5 y6) := b
  have C36 : Hid (Below y3.heap.size y3 y6) := bl_trans C35.out C56.out
  have C6 : Hid (Below w.heap.size w y6) := bl_trans C5.out C56.out
  have V6 : Hid (WsIn y6 (.slice a7 l.length c7) l) := W.Ow.ws o7
  have F7 : Hid (∀ x ∈ l, x.fits) := f7
  clear o7 f7 b
  go_wp2_with fail
  refine (drawRuns sl n cap zs y6 (HZ.out.bel C6.out) hn hcap).mono ?_
  rintro e y7 ⟨rs, a8, c8, clock, rfl, o8, l8, f8, nn8, b⟩
  have C67 : Hid (Below y6.heap.size y6 y7) := b
  have C37 : Hid (Below y3.heap.size y3 y7) := bl_trans C36.out C67.out
  have C7 : Hid (Below w.heap.size w y7) := bl_trans C6.out C67.out
  have V7 : Hid (WsIn y7 (.slice a7 l.length c7) l) := V6.out.keep C67.out
  have R7 : Hid (RsIn y7 (.slice a8 rs.length c8) rs) := rs_of o8 nn8
  have F8 : Hid (∀ x ∈ rs, x.fits) := f8
  have U3 : Hid (WsIn y7 (.slice a5 n5 c5) p5.ws) := V3.out.keep C37.out
  obtain ⟨bw, hbw⟩ : ∃ bw, wantsB l = bw := ⟨_, rfl⟩
  obtain ⟨br, hbr⟩ : ∃ br, runsB rs clock = br := ⟨_, rfl⟩
  have HBW : Hid (wantsB l = bw) := hbw
  have HBR : Hid (runsB rs clock = br) := hbr
  clear o8 f8 nn8 b hbw hbr
  have kc0 := L3.out y7 C37.out 0; have kc1 := L3.out y7 C37.out 1; have kc2 := L3.out y7 C37.out 2; have kc3 := L3.out y7 C37.out 3; have kc4 := L3.out y7 C37.out 4; have kc5 := L3.out y7 C37.out 5; have kc6 := L3.out y7 C37.out 6
  have hlu : (u.toList == u.toList) = true := list_same u
  have hbb1 : (bw == bw) = true := by simp
  have hbb2 : (br == br) = true := by simp
  cases q5
  ·
   go_wp2_with fail
   refine (implWantsG _ l y7 (V7.out.keep (Below.refl _ _)) F7.out (by omega)).mono ?_
   rw [HBW.out]
   rintro e x1 ⟨rfl, b⟩
   have X71 : Hid (Below y7.heap.size y7 x1) := bl_trans ((Below.refl _ _)) b
   clear b
   go_wp2_with fail
   refine (specWantsG _ l x1 (V7.out.keep X71.out) F7.out (by omega)).mono ?_
   rw [HBW.out]
   rintro e x2 ⟨rfl, b⟩
   have X72 : Hid (Below y7.heap.size y7 x2) := bl_trans X71.out b
   clear b
   go_wp2_with fail
   refine (implRunsG _ rs clock x2 (R7.out.keep X72.out) F8.out (by omega)).mono ?_
   rw [HBR.out]
   rintro e x3 ⟨rfl, b⟩
   have X73 : Hid (Below y7.heap.size y7 x3) := bl_trans X72.out b
   clear b
   go_wp2_with fail
   refine (specRunsG _ rs clock x3 (R7.out.keep X73.out) F8.out (by omega)).mono ?_
   rw [HBR.out]
   rintro e x4 ⟨rfl, b⟩
   have X74 : Hid (Below y7.heap.size y7 x4) := bl_trans X73.out b
   clear b
   go_wp2_with fail
   go_ret
   exact ⟨rfl, bl_trans C7.out X74.out⟩
  ·
   go_wp2_with fail
   refine (FI5.out (by first | rfl | trivial) y7 U3.out (HE.out.keep C7.out)).mono ?_
   rintro e x0 ⟨rfl, b⟩
   have X70 : Hid (Below y7.heap.size y7 x0) := b
   clear b
   go_wp2_with fail
   refine (implWantsG _ l x0 (V7.out.keep X70.out) F7.out (by omega)).mono ?_
   rw [HBW.out]
   rintro e x1 ⟨rfl, b⟩
   have X71 : Hid (Below y7.heap.size y7 x1) := bl_trans (X70.out) b
   clear b
   go_wp2_with fail
   refine (specWantsG _ l x1 (V7.out.keep X71.out) F7.out (by omega)).mono ?_
   rw [HBW.out]
   rintro e x2 ⟨rfl, b⟩
   have X72 : Hid (Below y7.heap.size y7 x2) := bl_trans X71.out b
   clear b
   go_wp2_with fail
   refine (implRunsG _ rs clock x2 (R7.out.keep X72.out) F8.out (by omega)).mono ?_
   rw [HBR.out]
   rintro e x3 ⟨rfl, b⟩
   have X73 : Hid (Below y7.heap.size y7 x3) := bl_trans X72.out b
   clear b
   go_wp2_with fail
   refine (specRunsG _ rs clock x3 (R7.out.keep X73.out) F8.out (by omega)).mono ?_
   rw [HBR.out]
   rintro e x4 ⟨rfl, b⟩
   have X74 : Hid (Below y7.heap.size y7 x4) := bl_trans X73.out b
   clear b
   go_wp2_with fail
   go_ret
   exact ⟨rfl, bl_trans C7.out X74.out⟩
 ·
  obtain rfl : EM = false := HEM.out.1
  obtain rfl : p4 = P := HEM.out.2 rfl
  have S6 : Hid (W.Sl w6 (.slice a4 n4 c4) p4.ws w3.heap.size) := S5.out.keep B56.out
  have O6 : Hid (W.Sl w6 (.slice sa p4.ws.length sn) p4.ws w.heap.size) := (O1.out.keep B12.out).keep B26.out
  go_wp2_with fail
  refine (wParcel_same p4 _ _ _ _ w6 O6.out S6.out (by have := HF.out.l; omega)).mono ?_
  rintro e w7 ⟨rfl, b⟩
  have B7 : Hid (Below w.heap.size w w7) := bl_trans B6.out b
  clear b
  go_wp2_with fail
  refine (drawRead sl n cap zs w7 (HZ.out.bel B7.out) hn hcap).mono ?_
  rintro e y1 ⟨u, rfl, hu, b⟩
  have C1 : Hid (Below w.heap.size w y1) := bl_trans B7.out b
  clear b
  go_wp2_with fail
  refine (implReadC u y1 (by omega) (HE.out.keep C1.out)).mono ?_
  rintro e y2 ⟨v2, rfl, sl2, hc2, b⟩
  have C2 : Hid (Below w.heap.size w y2) := bl_trans C1.out b
  clear b
  obtain ⟨p5, hp5⟩ : ∃ p5, ansP u (implP u) = p5 := ⟨_, rfl⟩
  obtain ⟨q5, hq5⟩ : ∃ q5, okP u (implP u) = q5 := ⟨_, rfl⟩
  rw [hp5, hq5]
  rw [hp5] at sl2
  simp only [pcells]
  have HA1 : Hid (ansP u (specP u) = p5) := by show _ = _; rw [(agree u).2, hp5]
  have HA2 : Hid (okP u (specP u) = q5) := by show _ = _; rw [(agree u).1, hq5]
  have V2 : Hid (WsIn y2 v2 p5.ws) := sl_ws sl2 hc2
  obtain ⟨a5, n5, c5, rfl⟩ := sl_shapeF sl2
  have FI5 : Hid (q5 = true → ∀ y, WsIn y (.slice a5 n5 c5) p5.ws → Env y → Calls Tryz.prog 5 #[.agg #[.int .i64 p5.k, .string p5.b, .int .i64 p5.se, .slice a5 n5 c5, .string p5.h, .string p5.c, .int .i64 p5.t]] y fun e y' => e = .returned (.string u) ∧ Below y.heap.size y y') := fun hq y hy hEy => by
   have e1 : ansP u (implP u) = implP u := if_pos (by rw [hq5]; exact hq)
   have e2 : p5 = implP u := by rw [← hp5, e1]
   have e3 : formT p5 = u := by
    rw [e2]
    have h : okP u (implP u) = true := by rw [hq5]; exact hq
    unfold okP at h
    simp only [Bool.and_eq_true] at h
    exact eq_list h.2
   have hz : ParSz p5 := by rw [e2]; exact implP_sz u (by omega)
   have hf : ∀ q ∈ p5.ws, q.fits := by rw [e2]; exact implP_fits u (by omega)
   have h := implFormG p5.k p5.b p5.se p5.ws p5.h p5.c p5.t _ y hz hf hy hEy.tab
   rw [show formT ⟨p5.k, p5.b, p5.se, p5.ws, p5.h, p5.c, p5.t⟩ = u from e3] at h
   exact h
  clear hp5 hq5 sl2 hc2
  obtain ⟨y3, hy3⟩ : ∃ y3, y3 = y2.alloc (.cells #[.int .i64 p5.k, .string p5.b, .int .i64 p5.se, .slice a5 n5 c5, .string p5.h, .string p5.c, .int .i64 p5.t] 25) := ⟨_, rfl⟩
  have HY3 : Hid (y3 = y2.alloc (.cells #[.int .i64 p5.k, .string p5.b, .int .i64 p5.se, .slice a5 n5 c5, .string p5.h, .string p5.c, .int .i64 p5.t] 25)) := hy3
  have C23 : Hid (Below y2.heap.size y2 y3) := by rw [hy3]; exact bl_alloc (Below.refl _ _) _
  have C3 : Hid (Below w.heap.size w y3) := bl_trans C2.out C23.out
  have V3 : Hid (WsIn y3 (.slice a5 n5 c5) p5.ws) := V2.out.keep C23.out
  have L3 : Hid (∀ y, Below y3.heap.size y3 y → ∀ j, y.cell? ⟨y2.heap.size, j, none⟩ = (#[.int .i64 p5.k, .string p5.b, .int .i64 p5.se, .slice a5 n5 c5, .string p5.h, .string p5.c, .int .i64 p5.t] : Array Value)[j]?) := by
   intro y hb j
   rw [hy3] at hb
   rw [box_keep hb j]
   simp [go_sem]
  clear hy3
  go_wp2_with fail
  rw [← HY3.out]
  refine (specRead u y3 (by omega)).mono ?_
  rintro e y4 ⟨v6, rfl, sl6, b⟩
  have C34 : Hid (Below y3.heap.size y3 y4) := b
  have C4 : Hid (Below w.heap.size w y4) := bl_trans C3.out C34.out
  rw [HA1.out, HA2.out]
  rw [HA1.out] at sl6
  simp only [pcells]
  obtain ⟨a6, n6, c6, rfl⟩ := sl_shapeF sl6
  clear sl6 b
  obtain ⟨y5, hy5⟩ : ∃ y5, y5 = y4.alloc (.cells #[.int .i64 p5.k, .string p5.b, .int .i64 p5.se, .slice a6 n6 c6, .string p5.h, .string p5.c, .int .i64 p5.t] 25) := ⟨_, rfl⟩
  have HY5 : Hid (y5 = y4.alloc (.cells #[.int .i64 p5.k, .string p5.b, .int .i64 p5.se, .slice a6 n6 c6, .string p5.h, .string p5.c, .int .i64 p5.t] 25)) := hy5
  have C45 : Hid (Below y4.heap.size y4 y5) := by rw [hy5]; exact bl_alloc (Below.refl _ _) _
  have C35 : Hid (Below y3.heap.size y3 y5) := bl_trans C34.out C45.out
  have C5 : Hid (Below w.heap.size w y5) := bl_trans C4.out C45.out
  clear hy5
  go_wp2_with fail
  rw [← HY5.out]
  refine (drawWants sl n cap zs y5 (HZ.out.bel C5.out) hn hcap).mono ?_
  rintro e y6 ⟨l, a7, c7, rfl, o7, l7, f7, b⟩
  have C56 : Hid (Below y5.heap.size y5 y6) := b
  have C36 : Hid (Below y3.heap.size y3 y6) := bl_trans C35.out C56.out
  have C6 : Hid (Below w.heap.size w y6) := bl_trans C5.out C56.out
  have V6 : Hid (WsIn y6 (.slice a7 l.length c7) l) := W.Ow.ws o7
  have F7 : Hid (∀ x ∈ l, x.fits) := f7
  clear o7 f7 b
  go_wp2_with fail
  refine (drawRuns sl n cap zs y6 (HZ.out.bel C6.out) hn hcap).mono ?_
  rintro e y7 ⟨rs, a8, c8, clock, rfl, o8, l8, f8, nn8, b⟩
  have C67 : Hid (Below y6.heap.size y6 y7) := b
  have C37 : Hid (Below y3.heap.size y3 y7) := bl_trans C36.out C67.out
  have C7 : Hid (Below w.heap.size w y7) := bl_trans C6.out C67.out
  have V7 : Hid (WsIn y7 (.slice a7 l.length c7) l) := V6.out.keep C67.out
  have R7 : Hid (RsIn y7 (.slice a8 rs.length c8) rs) := rs_of o8 nn8
  have F8 : Hid (∀ x ∈ rs, x.fits) := f8
  have U3 : Hid (WsIn y7 (.slice a5 n5 c5) p5.ws) := V3.out.keep C37.out
  obtain ⟨bw, hbw⟩ : ∃ bw, wantsB l = bw := ⟨_, rfl⟩
  obtain ⟨br, hbr⟩ : ∃ br, runsB rs clock = br := ⟨_, rfl⟩
  have HBW : Hid (wantsB l = bw) := hbw
  have HBR : Hid (runsB rs clock = br) := hbr
  clear o8 f8 nn8 b hbw hbr
  have kc0 := L3.out y7 C37.out 0; have kc1 := L3.out y7 C37.out 1; have kc2 := L3.out y7 C37.out 2; have kc3 := L3.out y7 C37.out 3; have kc4 := L3.out y7 C37.out 4; have kc5 := L3.out y7 C37.out 5; have kc6 := L3.out y7 C37.out 6
  have hlu : (u.toList == u.toList) = true := list_same u
  have hbb1 : (bw == bw) = true := by simp
  have hbb2 : (br == br) = true := by simp
  cases q5
  ·
   go_wp2_with fail
   refine (implWantsG _ l y7 (V7.out.keep (Below.refl _ _)) F7.out (by omega)).mono ?_
   rw [HBW.out]
   rintro e x1 ⟨rfl, b⟩
   have X71 : Hid (Below y7.heap.size y7 x1) := bl_trans ((Below.refl _ _)) b
   clear b
   go_wp2_with fail
   refine (specWantsG _ l x1 (V7.out.keep X71.out) F7.out (by omega)).mono ?_
   rw [HBW.out]
   rintro e x2 ⟨rfl, b⟩
   have X72 : Hid (Below y7.heap.size y7 x2) := bl_trans X71.out b
   clear b
   go_wp2_with fail
   refine (implRunsG _ rs clock x2 (R7.out.keep X72.out) F8.out (by omega)).mono ?_
   rw [HBR.out]
   rintro e x3 ⟨rfl, b⟩
   have X73 : Hid (Below y7.heap.size y7 x3) := bl_trans X72.out b
   clear b
   go_wp2_with fail
   refine (specRunsG _ rs clock x3 (R7.out.keep X73.out) F8.out (by omega)).mono ?_
   rw [HBR.out]
   rintro e x4 ⟨rfl, b⟩
   have X74 : Hid (Below y7.heap.size y7 x4) := bl_trans X73.out b
   clear b
   go_wp2_with fail
   go_ret
   exact ⟨rfl, bl_trans C7.out X74.out⟩
  ·
   go_wp2_with fail
   refine (FI5.out (by first | rfl | trivial) y7 U3.out (HE.out.keep C7.out)).mono ?_
   rintro e x0 ⟨rfl, b⟩
   have X70 : Hid (Below y7.heap.size y7 x0) := b
   clear b
   go_wp2_with fail
   refine (implWantsG _ l x0 (V7.out.keep X70.out) F7.out (by omega)).mono ?_
   rw [HBW.out]
   rintro e x1 ⟨rfl, b⟩
   have X71 : Hid (Below y7.heap.size y7 x1) := bl_trans (X70.out) b
   clear b
   go_wp2_with fail
   refine (specWantsG _ l x1 (V7.out.keep X71.out) F7.out (by omega)).mono ?_
   rw [HBW.out]
   rintro e x2 ⟨rfl, b⟩
   have X72 : Hid (Below y7.heap.size y7 x2) := bl_trans X71.out b
   clear b
   go_wp2_with fail
   refine (implRunsG _ rs clock x2 (R7.out.keep X72.out) F8.out (by omega)).mono ?_
   rw [HBR.out]
   rintro e x3 ⟨rfl, b⟩
   have X73 : Hid (Below y7.heap.size y7 x3) := bl_trans X72.out b
   clear b
   go_wp2_with fail
   refine (specRunsG _ rs clock x3 (R7.out.keep X73.out) F8.out (by omega)).mono ?_
   rw [HBR.out]
   rintro e x4 ⟨rfl, b⟩
   have X74 : Hid (Below y7.heap.size y7 x4) := bl_trans X73.out b
   clear b
   go_wp2_with fail
   go_ret
   exact ⟨rfl, bl_trans C7.out X74.out⟩
end Go.Proofs.YtgakmkhbnjofhaaGreatDoor
