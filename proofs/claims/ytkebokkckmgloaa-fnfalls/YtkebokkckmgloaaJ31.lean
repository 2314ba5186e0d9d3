import Derived.Test.YtkebokkckmgloaaJ30
import Derived.Test.YtkebokkckmgloaaJ24
import Derived.Test.YtkebokkckmgloaaJ16
/- What a fall leaves of runs: the program's side. -/
namespace Go.Proofs.Ytkebokkckmgloaa
open Go.RowKit
set_option linter.unusedVariables false


/-- A run that is no more alive. -/
def killD (r : RunD) : RunD := { r with a := 2, b := 0 }
theorem killD_cells (r : RunD) : (killD r).cells = [.string r.c, .int .i64 r.v, .string r.h, .int .i64 r.p, .int .i64 r.s, .int .i64 r.d, .int .i64 r.g, .int .i64 2, .int .i64 0, .int .i64 r.i, .int .i64 r.u] := rfl

set_option maxRecDepth 4000 in
set_option maxHeartbeats 1000000 in
theorem killed_any (a : Option Addr) (cap : Nat) (rs : List RunD) (w : World) (hG : Gv w a rs) (hl : rs.length ≤ 1048576) :
    Calls Try.prog 124 #[.slice a rs.length cap] w fun e w' => (∃ v, e = .returned v ∧ Sl w' v (rs.map killD) w.heap.size) ∧ Below w.heap.size w w' := by
  obtain ⟨C, hC, hmk⟩ := make_runs rs.length hl
  have hinfo : (Try.prog.info? 38).map (·.size) = some 11 := by kernel_rfl
  go_enter Try.func124, Try.ntmps124
  go_wp2
  go_loopw [11] (fun i wx => ∃ (k : Nat), k ≤ rs.length ∧ i = .int .i64 k ∧ RowsAt wx w.heap.size 0 ((rs.map killD).take k) ∧ wx.there w.heap.size 0 (rs.length * 11) ∧ w.heap.size < wx.heap.size ∧ Below w.heap.size w wx) (fun i _ => rs.length - (intOf i).toNat)
  case atStart => exact ⟨0, Nat.zero_le _, rfl, fun k r h => by simp at h, there_new hC, by simp, bl_alloc (Below.refl _ _) _⟩
  case round =>
    obtain ⟨k, hk, rfl, hrows, hth, hgz, hB⟩ := hrel
    clear hmk
    by_cases hlt : k < rs.length
    · obtain ⟨b, rfl, l1, hR⟩ := hG.resolve_left (fun h => by rw [h] at hlt; simp at hlt)
      obtain ⟨r, hr⟩ : ∃ r, rs[k]? = some r := ⟨rs[k], List.getElem?_eq_getElem hlt⟩
      obtain ⟨c0, c1, c2, c3, c4, c5, c6, c7, c8, c9, c10⟩ := (hR.keep l1 hB).at hr
      simp only [Nat.zero_add] at c0 c1 c2 c3 c4 c5 c6 c7 c8 c9 c10
      have Hr : Hid ((rs.map killD)[k]? = some (killD r)) := by show _ = _; rw [List.getElem?_map, hr]; rfl
      clear hr hG
      go_wp2_with (first | (go_at_call 80; refine (runOf_any r.c r.h r.v r.p r.s r.d r.g r.a r.b r.i r.u _).mono ?_; rintro e w' ⟨rfl, rfl⟩) | (go_at_call 149; refine (waiting_any r.c r.h r.v r.p r.s r.d r.g r.a r.b r.i r.u _).mono ?_; rintro e w' ⟨rfl, rfl⟩))
      refine (told_any r.c r.h r.v r.p r.s r.d r.g 2 0 r.i r.u _).mono ?_
      rintro e w1 ⟨rfl, hw1⟩
      have hb2 : Below wr.heap.size wr w1 := by rw [hw1]; repeat (first | exact Below.refl _ _ | refine bl_alloc ?_ _)
      clear hw1 c0 c1 c2 c3 c4 c5 c6 c7 c8 c9 c10
      have hth1 := there_keep hth hgz hb2
      have hrows1 := hrows.keep hgz hb2
      have hB1 := bl_trans hB hb2
      have hgz1 : w.heap.size < w1.heap.size := Nat.lt_of_lt_of_le hgz hb2.size
      clear hth hrows hB hb2
      go_wp2_with (refine wpList_store_mid (by rfl) 38 _ _ (by rfl) w.heap.size (k * 11) #[.string r.c, .int .i64 r.v, .string r.h, .int .i64 r.p, .int .i64 r.s, .int .i64 r.d, .int .i64 r.g, .int .i64 2, .int .i64 0, .int .i64 r.i, .int .i64 r.u] (by rfl) (by rfl) (by exact there_part hth1 hlt) hinfo (by simp [Value.oneCell']) ?_)
      have hrs := rows_step Hr.out hrows1 (there_part hth1 hlt)
      rw [killD_cells] at hrs
      exact ⟨⟨k + 1, by omega, by go_num, hrs, World.there_setCells hth1 _ _ _, by rw [size_cells]; exact hgz1, bl_cells (Nat.le_refl _) _ _ _ hB1⟩, by simp [intOf]; omega⟩
    · go_wp2
      go_ret
      have e : (rs.map killD).take k = rs.map killD := List.take_of_length_le (by rw [List.length_map]; omega)
      rw [e] at hrows
      exact ⟨⟨.slice (some ⟨w.heap.size, 0, none⟩) rs.length rs.length, rfl, Or.inr ⟨w.heap.size, rs.length, by rw [List.length_map], Nat.le_refl _, hgz, hrows, by rw [List.length_map]; exact hth⟩⟩, hB⟩
end Go.Proofs.Ytkebokkckmgloaa
/- MateRise: what it answers. -/
namespace Go.Proofs.Ytkebokkckmgloaa
open Go.RowKit
set_option linter.unusedVariables false

/-- What a mate is that rose. -/
def Rises (m r : MateD) : Prop := (Valid m ∧ r = { m with up := m.up || decide (m.ck < 1000000) }) ∨ (¬ Valid m ∧ r = zeroD)
theorem Rises.one {m r r' : MateD} (h : Rises m r) (h' : Rises m r') : r = r' := by
  rcases h with ⟨h1, rfl⟩ | ⟨h1, rfl⟩ <;> rcases h' with ⟨h2, rfl⟩ | ⟨h2, rfl⟩
  · rfl
  · exact (h2 h1).elim
  · exact (h1 h2).elim
  · rfl
theorem SlM.rise {w : World} {m : MateD} {s1 s2 s3 s4 : Value} {B : Nat} {u : Bool} (h : SlM w m s1 s2 s3 s4 B) : SlM w { m with up := u } s1 s2 s3 s4 B :=
  ⟨h.a1, h.a2, h.a3, h.a4, h.d12, h.d13, h.d14, h.d23, h.d24, h.d34⟩
theorem rises_up {m : MateD} (hv : Valid m) (hc : m.ck < 1000000) : Rises m { m with up := true } := Or.inl ⟨hv, by simp [hc]⟩
theorem rises_stay {m : MateD} (hv : Valid m) (hc : ¬ m.ck < 1000000) : Rises m { m with up := m.up } := Or.inl ⟨hv, by simp [hc]⟩

set_option maxRecDepth 4000 in
set_option maxHeartbeats 4000000 in
theorem implRise (m : MateD) (b1 b2 b3 b4 : Nat) (w : World) (hL : Lists w m b1 b2 b3 b4) (hf : m.fits) :
    Calls Try.prog 16 #[.agg #[.string m.nm, .bool m.up, .int .i64 m.ck, .bool m.kn, .int .i64 m.se, .slice (some ⟨b1, 0, none⟩) m.ws.length m.ws.length, .slice (some ⟨b2, 0, none⟩) m.rs.length m.rs.length, .slice (some ⟨b3, 0, none⟩) m.qs.length m.qs.length, .slice (some ⟨b4, 0, none⟩) m.gs.length m.gs.length]] w fun e w' => (∃ r s1 s2 s3 s4, e = .returned (.agg #[.string r.nm, .bool r.up, .int .i64 r.ck, .bool r.kn, .int .i64 r.se, s1, s2, s3, s4]) ∧ Rises m r ∧ SlM w' r s1 s2 s3 s4 w.heap.size) ∧ Below w.heap.size w w' := by
  have S0 : Hid (Sc w #[.string m.nm, .bool m.up, .int .i64 m.ck, .bool m.kn, .int .i64 m.se, .slice (some ⟨b1, 0, none⟩) m.ws.length m.ws.length, .slice (some ⟨b2, 0, none⟩) m.rs.length m.rs.length, .slice (some ⟨b3, 0, none⟩) m.qs.length m.qs.length, .slice (some ⟨b4, 0, none⟩) m.gs.length m.gs.length] ((w.alloc (.cells #[.string m.nm, .bool m.up, .int .i64 m.ck, .bool m.kn, .int .i64 m.se, .slice (some ⟨b1, 0, none⟩) m.ws.length m.ws.length, .slice (some ⟨b2, 0, none⟩) m.rs.length m.rs.length, .slice (some ⟨b3, 0, none⟩) m.qs.length m.qs.length, .slice (some ⟨b4, 0, none⟩) m.gs.length m.gs.length] 27)).alloc (.cells #[.string { data := #[] }, .bool false, .int .i64 0, .bool false, .int .i64 0, .slice none 0 0, .slice none 0 0, .slice none 0 0, .slice none 0 0] 27))) := sc_new m b1 b2 b3 b4 w
  have hinfo : (Try.prog.info? 27).map (·.size) = some 9 := by kernel_rfl
  go_enter Try.func16, Try.ntmps16
  go_wp2_with fail
  refine (implValid m b1 b2 b3 b4 _ (hL.keep S0.out.e) hf).mono ?_
  rintro e w1 ⟨⟨q, rfl, hq⟩, c1⟩
  have S1 : Hid (Sc w #[.string m.nm, .bool m.up, .int .i64 m.ck, .bool m.kn, .int .i64 m.se, .slice (some ⟨b1, 0, none⟩) m.ws.length m.ws.length, .slice (some ⟨b2, 0, none⟩) m.rs.length m.rs.length, .slice (some ⟨b3, 0, none⟩) m.qs.length m.qs.length, .slice (some ⟨b4, 0, none⟩) m.gs.length m.gs.length] w1) := S0.out.below c1
  have Hq : Hid (SaysV q m) := hq
  clear hq c1
  have ka := S1.out.b
  have kf := S1.out.c
  cases q
  · go_wp2_with (refine wpList_store_mid (by rfl) 27 _ _ (by rfl) (w.heap.size + 1) 0 #[.string { data := #[] }, .bool false, .int .i64 0, .bool false, .int .i64 0, .slice none 0 0, .slice none 0 0, .slice none 0 0, .slice none 0 0] (by rfl) (by rfl) (by exact S1.out.d) hinfo (by exact all_oneCell_toArray zeros_one) ?_)
    have hrg := World.rangeAt_setCells_same w1 (w.heap.size + 1) 0 [.string { data := #[] }, .bool false, .int .i64 0, .bool false, .int .i64 0, .slice none 0 0, .slice none 0 0, .slice none 0 0, .slice none 0 0] S1.out.d
    have d0 := hrg 0 _ rfl
    have d1 := hrg 1 _ rfl
    have d2 := hrg 2 _ rfl
    have d3 := hrg 3 _ rfl
    have d4 := hrg 4 _ rfl
    have d5 := hrg 5 _ rfl
    have d6 := hrg 6 _ rfl
    have d7 := hrg 7 _ rfl
    have d8 := hrg 8 _ rfl
    simp only [Nat.zero_add] at d0 d1 d2 d3 d4 d5 d6 d7 d8
    exact bodyPost_ret (v := .agg #[.string { data := #[] }, .bool false, .int .i64 0, .bool false, .int .i64 0, .slice none 0 0, .slice none 0 0, .slice none 0 0, .slice none 0 0]) (by simp [results, Try.results16, go_sem, d0, d1, d2, d3, d4, d5, d6, d7, d8]) rfl ⟨⟨zeroD, _, _, _, _, rfl, Or.inr ⟨saysV_false Hq.out, rfl⟩, slm_zero _ _⟩, S1.out.put _⟩
  have hv : Hid (Valid m) := Hq.out.1 rfl
  have HC : Hid (m.ck < 1000000 ∨ ¬ m.ck < 1000000) := Decidable.em _
  go_wp2_with fail
  refine (freshMate_any m b1 b2 b3 b4 _ (hL.keep S1.out.e) hf).mono ?_
  rintro e w2 ⟨⟨s1, s2, s3, s4, rfl, r⟩, c2⟩
  have S2 : Hid (Sc w #[.string m.nm, .bool m.up, .int .i64 m.ck, .bool m.kn, .int .i64 m.se, .slice (some ⟨b1, 0, none⟩) m.ws.length m.ws.length, .slice (some ⟨b2, 0, none⟩) m.rs.length m.rs.length, .slice (some ⟨b3, 0, none⟩) m.qs.length m.qs.length, .slice (some ⟨b4, 0, none⟩) m.gs.length m.gs.length] w2) := S1.out.below c2
  have R2 : Hid (SlM w2 m s1 s2 s3 s4 w1.heap.size) := r
  obtain ⟨a1, p1, hs1⟩ := W.Sl.shape r.a1
  obtain ⟨a2, p2, hs2⟩ := Sl.shape r.a2
  obtain ⟨a3, p3, hs3⟩ := A.Sl.shape r.a3
  obtain ⟨a4, p4, hs4⟩ := A.Sl.shape r.a4
  subst hs1 hs2 hs3 hs4
  clear r c2 ka kf
  have S3 : Hid (Sc w #[.string m.nm, .bool m.up, .int .i64 m.ck, .bool m.kn, .int .i64 m.se, (.slice a1 m.ws.length p1), (.slice a2 m.rs.length p2), (.slice a3 m.qs.length p3), (.slice a4 m.gs.length p4)] (w2.setCells w.heap.size 0 [.string m.nm, .bool m.up, .int .i64 m.ck, .bool m.kn, .int .i64 m.se, (.slice a1 m.ws.length p1), (.slice a2 m.rs.length p2), (.slice a3 m.qs.length p3), (.slice a4 m.gs.length p4)])) := S2.out.all rfl _ rfl
  have S4 : Hid (Sc w #[.string m.nm, .bool true, .int .i64 m.ck, .bool m.kn, .int .i64 m.se, (.slice a1 m.ws.length p1), (.slice a2 m.rs.length p2), (.slice a3 m.qs.length p3), (.slice a4 m.gs.length p4)] ((w2.setCells w.heap.size 0 [.string m.nm, .bool m.up, .int .i64 m.ck, .bool m.kn, .int .i64 m.se, (.slice a1 m.ws.length p1), (.slice a2 m.rs.length p2), (.slice a3 m.qs.length p3), (.slice a4 m.gs.length p4)]).setCell ⟨w.heap.size, 1, none⟩ (.bool true))) := S3.out.set 1 (by simp) _
  have zb1 : w.heap.size + 1 < w1.heap.size := S1.out.f
  have zb : w.heap.size < w1.heap.size := by omega
  have ka := S3.out.b
  have kf := S3.out.c
  have kb := S4.out.b
  have kg := S4.out.c
  by_cases hc : m.ck < 1000000
  · go_wp2_with (first | (refine wpList_store_mid (by rfl) 27 _ _ (by rfl) w.heap.size 0 #[.string m.nm, .bool m.up, .int .i64 m.ck, .bool m.kn, .int .i64 m.se, (.slice a1 m.ws.length p1), (.slice a2 m.rs.length p2), (.slice a3 m.qs.length p3), (.slice a4 m.gs.length p4)] (by rfl) (by rfl) (by exact S2.out.box rfl) hinfo (by exact all_oneCell_toArray (ones m R2.out.a1 R2.out.a2 R2.out.a3 R2.out.a4)) ?_) | (refine wpList_store_mid (by rfl) 27 _ _ (by rfl) (w.heap.size + 1) 0 #[.string m.nm, .bool true, .int .i64 m.ck, .bool m.kn, .int .i64 m.se, (.slice a1 m.ws.length p1), (.slice a2 m.rs.length p2), (.slice a3 m.qs.length p3), (.slice a4 m.gs.length p4)] (by rfl) (by rfl) (by exact S4.out.d) hinfo (by exact all_oneCell_toArray (ones { m with up := true } R2.out.a1 R2.out.a2 R2.out.a3 R2.out.a4)) ?_))
    have hrg := World.rangeAt_setCells_same ((w2.setCells w.heap.size 0 [.string m.nm, .bool m.up, .int .i64 m.ck, .bool m.kn, .int .i64 m.se, (.slice a1 m.ws.length p1), (.slice a2 m.rs.length p2), (.slice a3 m.qs.length p3), (.slice a4 m.gs.length p4)]).setCell ⟨w.heap.size, 1, none⟩ (.bool true)) (w.heap.size + 1) 0 [.string m.nm, .bool true, .int .i64 m.ck, .bool m.kn, .int .i64 m.se, (.slice a1 m.ws.length p1), (.slice a2 m.rs.length p2), (.slice a3 m.qs.length p3), (.slice a4 m.gs.length p4)] S4.out.d
    have d0 := hrg 0 _ rfl
    have d1 := hrg 1 _ rfl
    have d2 := hrg 2 _ rfl
    have d3 := hrg 3 _ rfl
    have d4 := hrg 4 _ rfl
    have d5 := hrg 5 _ rfl
    have d6 := hrg 6 _ rfl
    have d7 := hrg 7 _ rfl
    have d8 := hrg 8 _ rfl
    simp only [Nat.zero_add] at d0 d1 d2 d3 d4 d5 d6 d7 d8
    exact bodyPost_ret (v := .agg #[.string m.nm, .bool true, .int .i64 m.ck, .bool m.kn, .int .i64 m.se, (.slice a1 m.ws.length p1), (.slice a2 m.rs.length p2), (.slice a3 m.qs.length p3), (.slice a4 m.gs.length p4)]) (by simp [results, Try.results16, go_sem, d0, d1, d2, d3, d4, d5, d6, d7, d8]) rfl ⟨⟨{ m with up := true }, _, _, _, _, rfl, rises_up hv.out hc, (((R2.out.ex ((Ex.refl _ _).cells _ _) zb).ex ((Ex.refl _ _).set 1 _) zb).ex ((Ex.refl _ _).cells _ _) zb1).low (Nat.le_of_lt zb) |>.rise⟩, S4.out.put _⟩
  · go_wp2_with (first | (refine wpList_store_mid (by rfl) 27 _ _ (by rfl) w.heap.size 0 #[.string m.nm, .bool m.up, .int .i64 m.ck, .bool m.kn, .int .i64 m.se, (.slice a1 m.ws.length p1), (.slice a2 m.rs.length p2), (.slice a3 m.qs.length p3), (.slice a4 m.gs.length p4)] (by rfl) (by rfl) (by exact S2.out.box rfl) hinfo (by exact all_oneCell_toArray (ones m R2.out.a1 R2.out.a2 R2.out.a3 R2.out.a4)) ?_) | (refine wpList_store_mid (by rfl) 27 _ _ (by rfl) (w.heap.size + 1) 0 #[.string m.nm, .bool m.up, .int .i64 m.ck, .bool m.kn, .int .i64 m.se, (.slice a1 m.ws.length p1), (.slice a2 m.rs.length p2), (.slice a3 m.qs.length p3), (.slice a4 m.gs.length p4)] (by rfl) (by rfl) (by exact S3.out.d) hinfo (by exact all_oneCell_toArray (ones m R2.out.a1 R2.out.a2 R2.out.a3 R2.out.a4)) ?_))
    have hrg := World.rangeAt_setCells_same (w2.setCells w.heap.size 0 [.string m.nm, .bool m.up, .int .i64 m.ck, .bool m.kn, .int .i64 m.se, (.slice a1 m.ws.length p1), (.slice a2 m.rs.length p2), (.slice a3 m.qs.length p3), (.slice a4 m.gs.length p4)]) (w.heap.size + 1) 0 [.string m.nm, .bool m.up, .int .i64 m.ck, .bool m.kn, .int .i64 m.se, (.slice a1 m.ws.length p1), (.slice a2 m.rs.length p2), (.slice a3 m.qs.length p3), (.slice a4 m.gs.length p4)] S3.out.d
    have d0 := hrg 0 _ rfl
    have d1 := hrg 1 _ rfl
    have d2 := hrg 2 _ rfl
    have d3 := hrg 3 _ rfl
    have d4 := hrg 4 _ rfl
    have d5 := hrg 5 _ rfl
    have d6 := hrg 6 _ rfl
    have d7 := hrg 7 _ rfl
    have d8 := hrg 8 _ rfl
    simp only [Nat.zero_add] at d0 d1 d2 d3 d4 d5 d6 d7 d8
    exact bodyPost_ret (v := .agg #[.string m.nm, .bool m.up, .int .i64 m.ck, .bool m.kn, .int .i64 m.se, (.slice a1 m.ws.length p1), (.slice a2 m.rs.length p2), (.slice a3 m.qs.length p3), (.slice a4 m.gs.length p4)]) (by simp [results, Try.results16, go_sem, d0, d1, d2, d3, d4, d5, d6, d7, d8]) rfl ⟨⟨{ m with up := m.up }, _, _, _, _, rfl, rises_stay hv.out (by omega), ((R2.out.ex ((Ex.refl _ _).cells _ _) zb).ex ((Ex.refl _ _).cells _ _) zb1).low (Nat.le_of_lt zb) |>.rise⟩, S3.out.put _⟩
end Go.Proofs.Ytkebokkckmgloaa
/- MateFall: the program's side. -/
namespace Go.Proofs.Ytkebokkckmgloaa
open Go.RowKit
set_option linter.unusedVariables false

/-- What a fall leaves of runs. -/
def fallR (mach : Bool) (rs : List RunD) : List RunD := if mach = true then ((rs.filter (fun r => aliveB r.a)).filter (fun r => !r.h.toList.isEmpty)).map killD else rs.filter (fun r => aliveB r.a)
theorem fallR_len (mach : Bool) (rs : List RunD) : (fallR mach rs).length ≤ rs.length := by
  unfold fallR
  split
  · rw [List.length_map]; exact Nat.le_trans (List.length_filter_le _ _) (List.length_filter_le _ _)
  · exact List.length_filter_le _ _
def fellD (mach : Bool) (m : MateD) : MateD := ⟨m.nm, false, m.ck, false, 0, [], fallR mach m.rs, [], []⟩
def Falls (mach : Bool) (m r : MateD) : Prop := (Valid m ∧ r = fellD mach m) ∨ (¬ Valid m ∧ r = zeroD)
theorem Falls.one {mach : Bool} {m r r' : MateD} (h : Falls mach m r) (h' : Falls mach m r') : r = r' := by
  rcases h with ⟨h1, rfl⟩ | ⟨h1, rfl⟩ <;> rcases h' with ⟨h2, rfl⟩ | ⟨h2, rfl⟩
  · rfl
  · exact (h2 h1).elim
  · exact (h1 h2).elim
  · rfl
theorem fell_one (m : MateD) (a : Option Addr) (n p : Nat) : ∀ u ∈ ([.string m.nm, .bool false, .int .i64 m.ck, .bool false, .int .i64 0, .slice none 0 0, .slice a n p, .slice none 0 0, .slice none 0 0] : List Value), u.oneCell' = true := by
  intro u hu
  simp only [List.mem_cons, List.not_mem_nil, or_false] at hu
  rcases hu with rfl | rfl | rfl | rfl | rfl | rfl | rfl | rfl | rfl <;> rfl
theorem dif_none (a : Value) : Dif a (.slice none 0 0) := by
  cases h : a.ownBlock with
  | none => exact Or.inl h
  | some g => exact Or.inr (by rw [h]; simp [Value.ownBlock])
theorem slm_fell {w : World} {mach : Bool} {m : MateD} {s : Value} {B : Nat} (h : Sl w s (fallR mach m.rs) B) : SlM w (fellD mach m) (.slice none 0 0) s (.slice none 0 0) (.slice none 0 0) B :=
  ⟨Or.inl ⟨rfl, rfl⟩, h, Or.inl ⟨rfl, rfl⟩, Or.inl ⟨rfl, rfl⟩, Or.inl rfl, Or.inl rfl, Or.inl rfl, dif_none _, dif_none _, Or.inl rfl⟩
theorem Sl.exb {w w' : World} {v : Value} {l : List RunD} {B k : Nat} (h : Sl w v l B) (he : Ex k w w') (hk : k < B) : Sl w' v l B :=
  h.grown (ex_grown he) (ob_ne (N := k) (fun g hg => Nat.lt_of_lt_of_le hk (h.lt g hg).1) (Nat.le_refl _))

set_option maxRecDepth 4000 in
set_option maxHeartbeats 4000000 in
theorem fallen_any (mach : Bool) (m : MateD) (b1 b2 b3 b4 : Nat) (w : World) (hL : Lists w m b1 b2 b3 b4) (hf : m.fits) :
    Calls Try.prog 60 #[.agg #[.string m.nm, .bool m.up, .int .i64 m.ck, .bool m.kn, .int .i64 m.se, .slice (some ⟨b1, 0, none⟩) m.ws.length m.ws.length, .slice (some ⟨b2, 0, none⟩) m.rs.length m.rs.length, .slice (some ⟨b3, 0, none⟩) m.qs.length m.qs.length, .slice (some ⟨b4, 0, none⟩) m.gs.length m.gs.length], .bool mach] w fun e w' => (∃ s, e = .returned (.agg #[.string m.nm, .bool false, .int .i64 m.ck, .bool false, .int .i64 0, .slice none 0 0, s, .slice none 0 0, .slice none 0 0]) ∧ Sl w' s (fallR mach m.rs) w.heap.size) ∧ Below w.heap.size w w' := by
  have S0 : Hid (Sc w #[.string m.nm, .bool m.up, .int .i64 m.ck, .bool m.kn, .int .i64 m.se, .slice (some ⟨b1, 0, none⟩) m.ws.length m.ws.length, .slice (some ⟨b2, 0, none⟩) m.rs.length m.rs.length, .slice (some ⟨b3, 0, none⟩) m.qs.length m.qs.length, .slice (some ⟨b4, 0, none⟩) m.gs.length m.gs.length] ((w.alloc (.cells #[.string m.nm, .bool m.up, .int .i64 m.ck, .bool m.kn, .int .i64 m.se, .slice (some ⟨b1, 0, none⟩) m.ws.length m.ws.length, .slice (some ⟨b2, 0, none⟩) m.rs.length m.rs.length, .slice (some ⟨b3, 0, none⟩) m.qs.length m.qs.length, .slice (some ⟨b4, 0, none⟩) m.gs.length m.gs.length] 27)).alloc (.cells #[.string { data := #[] }, .bool false, .int .i64 0, .bool false, .int .i64 0, .slice none 0 0, .slice none 0 0, .slice none 0 0, .slice none 0 0] 27))) := sc_new m b1 b2 b3 b4 w
  have hinfo : (Try.prog.info? 27).map (·.size) = some 9 := by kernel_rfl
  have hL0 := hL.keep S0.out.e
  have G0 : Hid (Gv ((w.alloc (.cells #[.string m.nm, .bool m.up, .int .i64 m.ck, .bool m.kn, .int .i64 m.se, .slice (some ⟨b1, 0, none⟩) m.ws.length m.ws.length, .slice (some ⟨b2, 0, none⟩) m.rs.length m.rs.length, .slice (some ⟨b3, 0, none⟩) m.qs.length m.qs.length, .slice (some ⟨b4, 0, none⟩) m.gs.length m.gs.length] 27)).alloc (.cells #[.string { data := #[] }, .bool false, .int .i64 0, .bool false, .int .i64 0, .slice none 0 0, .slice none 0 0, .slice none 0 0, .slice none 0 0] 27)) (some ⟨b2, 0, none⟩) m.rs) := Or.inr ⟨b2, rfl, hL0.l2, hL0.r2⟩
  clear hL0
  go_enter Try.func60, Try.ntmps60
  go_wp2_with fail
  refine (filterAlive (some ⟨b2, 0, none⟩) _ m.rs _ G0.out hf.k2).mono ?_
  rintro e w1 ⟨⟨v1, rfl, r⟩, c⟩
  obtain ⟨l1, hl1⟩ : ∃ l, l = m.rs.filter (fun r => aliveB r.a) := ⟨_, rfl⟩
  have Hl1 : Hid _ := hl1
  have l1k : l1.length ≤ 1048576 := by rw [hl1]; exact Nat.le_trans (List.length_filter_le _ _) hf.k2
  rw [← hl1] at r
  obtain ⟨a1, p1, hs1⟩ := Sl.shape r
  subst hs1
  have S1 : Hid (Sc w #[.string m.nm, .bool m.up, .int .i64 m.ck, .bool m.kn, .int .i64 m.se, .slice (some ⟨b1, 0, none⟩) m.ws.length m.ws.length, .slice (some ⟨b2, 0, none⟩) m.rs.length m.rs.length, .slice (some ⟨b3, 0, none⟩) m.qs.length m.qs.length, .slice (some ⟨b4, 0, none⟩) m.gs.length m.gs.length] w1) := S0.out.below c
  have Q1 : Hid (Sl w1 (.slice a1 l1.length p1) l1 ((w.alloc (.cells #[.string m.nm, .bool m.up, .int .i64 m.ck, .bool m.kn, .int .i64 m.se, .slice (some ⟨b1, 0, none⟩) m.ws.length m.ws.length, .slice (some ⟨b2, 0, none⟩) m.rs.length m.rs.length, .slice (some ⟨b3, 0, none⟩) m.qs.length m.qs.length, .slice (some ⟨b4, 0, none⟩) m.gs.length m.gs.length] 27)).alloc (.cells #[.string { data := #[] }, .bool false, .int .i64 0, .bool false, .int .i64 0, .slice none 0 0, .slice none 0 0, .slice none 0 0, .slice none 0 0] 27)).heap.size) := r
  clear r c hl1
  have ka := S1.out.b
  have kf := S1.out.c
  cases mach
  · go_wp2_with (refine wpList_store_mid (by rfl) 27 _ _ (by rfl) (w.heap.size + 1) 0 #[.string m.nm, .bool false, .int .i64 m.ck, .bool false, .int .i64 0, .slice none 0 0, .slice a1 l1.length p1, .slice none 0 0, .slice none 0 0] (by rfl) (by rfl) (by exact S1.out.d) hinfo (by exact all_oneCell_toArray (fell_one m a1 l1.length p1)) ?_)
    have hrg := World.rangeAt_setCells_same w1 (w.heap.size + 1) 0 [.string m.nm, .bool false, .int .i64 m.ck, .bool false, .int .i64 0, .slice none 0 0, .slice a1 l1.length p1, .slice none 0 0, .slice none 0 0] S1.out.d
    have d0 := hrg 0 _ rfl
    have d1 := hrg 1 _ rfl
    have d2 := hrg 2 _ rfl
    have d3 := hrg 3 _ rfl
    have d4 := hrg 4 _ rfl
    have d5 := hrg 5 _ rfl
    have d6 := hrg 6 _ rfl
    have d7 := hrg 7 _ rfl
    have d8 := hrg 8 _ rfl
    simp only [Nat.zero_add] at d0 d1 d2 d3 d4 d5 d6 d7 d8
    exact bodyPost_ret (v := .agg #[.string m.nm, .bool false, .int .i64 m.ck, .bool false, .int .i64 0, .slice none 0 0, .slice a1 l1.length p1, .slice none 0 0, .slice none 0 0]) (by simp [results, Try.results60, go_sem, d0, d1, d2, d3, d4, d5, d6, d7, d8]) rfl ⟨⟨_, rfl, by rw [show fallR false m.rs = l1 from Hl1.out.symm]; exact (Q1.out.exb ((Ex.refl _ _).cells _ _) (by have := S0.out.f; omega)).low (by have := S0.out.f; omega)⟩, S1.out.put _⟩
  · go_wp2_with fail
    refine (filterHolds a1 p1 l1 _ Q1.out.gv l1k).mono ?_
    rintro e w2 ⟨⟨v2, rfl, r⟩, c⟩
    obtain ⟨l2, hl2⟩ : ∃ l, l = l1.filter (fun r => !r.h.toList.isEmpty) := ⟨_, rfl⟩
    have Hl2 : Hid _ := hl2
    have l2k : l2.length ≤ 1048576 := by rw [hl2]; exact Nat.le_trans (List.length_filter_le _ _) l1k
    rw [← hl2] at r
    obtain ⟨a2, p2, hs2⟩ := Sl.shape r
    subst hs2
    have S2 : Hid (Sc w #[.string m.nm, .bool m.up, .int .i64 m.ck, .bool m.kn, .int .i64 m.se, .slice (some ⟨b1, 0, none⟩) m.ws.length m.ws.length, .slice (some ⟨b2, 0, none⟩) m.rs.length m.rs.length, .slice (some ⟨b3, 0, none⟩) m.qs.length m.qs.length, .slice (some ⟨b4, 0, none⟩) m.gs.length m.gs.length] w2) := S1.out.below c
    have Q2 : Hid (Sl w2 (.slice a2 l2.length p2) l2 w1.heap.size) := r
    clear r c hl2 ka kf Q1
    go_wp2_with fail
    refine (killed_any a2 p2 l2 _ Q2.out.gv l2k).mono ?_
    rintro e w3 ⟨⟨v3, rfl, r⟩, c⟩
    obtain ⟨l3, hl3⟩ : ∃ l, l = l2.map killD := ⟨_, rfl⟩
    have Hl3 : Hid _ := hl3
    rw [← hl3] at r
    obtain ⟨a3, p3, hs3⟩ := Sl.shape r
    subst hs3
    have S3 : Hid (Sc w #[.string m.nm, .bool m.up, .int .i64 m.ck, .bool m.kn, .int .i64 m.se, .slice (some ⟨b1, 0, none⟩) m.ws.length m.ws.length, .slice (some ⟨b2, 0, none⟩) m.rs.length m.rs.length, .slice (some ⟨b3, 0, none⟩) m.qs.length m.qs.length, .slice (some ⟨b4, 0, none⟩) m.gs.length m.gs.length] w3) := S2.out.below c
    have Q3 : Hid (Sl w3 (.slice a3 l3.length p3) l3 w2.heap.size) := r
    clear r c hl3 Q2
    have ka := S3.out.b
    have kf := S3.out.c
    go_wp2_with (refine wpList_store_mid (by rfl) 27 _ _ (by rfl) (w.heap.size + 1) 0 #[.string m.nm, .bool false, .int .i64 m.ck, .bool false, .int .i64 0, .slice none 0 0, .slice a3 l3.length p3, .slice none 0 0, .slice none 0 0] (by rfl) (by rfl) (by exact S3.out.d) hinfo (by exact all_oneCell_toArray (fell_one m a3 l3.length p3)) ?_)
    have hrg := World.rangeAt_setCells_same w3 (w.heap.size + 1) 0 [.string m.nm, .bool false, .int .i64 m.ck, .bool false, .int .i64 0, .slice none 0 0, .slice a3 l3.length p3, .slice none 0 0, .slice none 0 0] S3.out.d
    have d0 := hrg 0 _ rfl
    have d1 := hrg 1 _ rfl
    have d2 := hrg 2 _ rfl
    have d3 := hrg 3 _ rfl
    have d4 := hrg 4 _ rfl
    have d5 := hrg 5 _ rfl
    have d6 := hrg 6 _ rfl
    have d7 := hrg 7 _ rfl
    have d8 := hrg 8 _ rfl
    simp only [Nat.zero_add] at d0 d1 d2 d3 d4 d5 d6 d7 d8
    exact bodyPost_ret (v := .agg #[.string m.nm, .bool false, .int .i64 m.ck, .bool false, .int .i64 0, .slice none 0 0, .slice a3 l3.length p3, .slice none 0 0, .slice none 0 0]) (by simp [results, Try.results60, go_sem, d0, d1, d2, d3, d4, d5, d6, d7, d8]) rfl ⟨⟨_, rfl, by rw [show fallR true m.rs = l3 from by rw [Hl3.out, Hl2.out, Hl1.out]; rfl]; exact (Q3.out.exb ((Ex.refl _ _).cells _ _) (by have := S2.out.f; omega)).low (by have := S2.out.f; omega)⟩, S3.out.put _⟩

set_option maxRecDepth 4000 in
set_option maxHeartbeats 4000000 in
theorem implFall (mach : Bool) (m : MateD) (b1 b2 b3 b4 : Nat) (w : World) (hL : Lists w m b1 b2 b3 b4) (hf : m.fits) :
    Calls Try.prog 15 #[.agg #[.string m.nm, .bool m.up, .int .i64 m.ck, .bool m.kn, .int .i64 m.se, .slice (some ⟨b1, 0, none⟩) m.ws.length m.ws.length, .slice (some ⟨b2, 0, none⟩) m.rs.length m.rs.length, .slice (some ⟨b3, 0, none⟩) m.qs.length m.qs.length, .slice (some ⟨b4, 0, none⟩) m.gs.length m.gs.length], .bool mach] w fun e w' => (∃ r s1 s2 s3 s4, e = .returned (.agg #[.string r.nm, .bool r.up, .int .i64 r.ck, .bool r.kn, .int .i64 r.se, s1, s2, s3, s4]) ∧ Falls mach m r ∧ SlM w' r s1 s2 s3 s4 w.heap.size) ∧ Below w.heap.size w w' := by
  have S0 : Hid (Sc w #[.string m.nm, .bool m.up, .int .i64 m.ck, .bool m.kn, .int .i64 m.se, .slice (some ⟨b1, 0, none⟩) m.ws.length m.ws.length, .slice (some ⟨b2, 0, none⟩) m.rs.length m.rs.length, .slice (some ⟨b3, 0, none⟩) m.qs.length m.qs.length, .slice (some ⟨b4, 0, none⟩) m.gs.length m.gs.length] ((w.alloc (.cells #[.string m.nm, .bool m.up, .int .i64 m.ck, .bool m.kn, .int .i64 m.se, .slice (some ⟨b1, 0, none⟩) m.ws.length m.ws.length, .slice (some ⟨b2, 0, none⟩) m.rs.length m.rs.length, .slice (some ⟨b3, 0, none⟩) m.qs.length m.qs.length, .slice (some ⟨b4, 0, none⟩) m.gs.length m.gs.length] 27)).alloc (.cells #[.string { data := #[] }, .bool false, .int .i64 0, .bool false, .int .i64 0, .slice none 0 0, .slice none 0 0, .slice none 0 0, .slice none 0 0] 27))) := sc_new m b1 b2 b3 b4 w
  have hinfo : (Try.prog.info? 27).map (·.size) = some 9 := by kernel_rfl
  go_enter Try.func15, Try.ntmps15
  go_wp2_with fail
  refine (implValid m b1 b2 b3 b4 _ (hL.keep S0.out.e) hf).mono ?_
  rintro e w1 ⟨⟨q, rfl, hq⟩, c1⟩
  have S1 : Hid (Sc w #[.string m.nm, .bool m.up, .int .i64 m.ck, .bool m.kn, .int .i64 m.se, .slice (some ⟨b1, 0, none⟩) m.ws.length m.ws.length, .slice (some ⟨b2, 0, none⟩) m.rs.length m.rs.length, .slice (some ⟨b3, 0, none⟩) m.qs.length m.qs.length, .slice (some ⟨b4, 0, none⟩) m.gs.length m.gs.length] w1) := S0.out.below c1
  have Hq : Hid (SaysV q m) := hq
  clear hq c1
  have ka := S1.out.b
  have kf := S1.out.c
  cases q
  · go_wp2_with (refine wpList_store_mid (by rfl) 27 _ _ (by rfl) (w.heap.size + 1) 0 #[.string { data := #[] }, .bool false, .int .i64 0, .bool false, .int .i64 0, .slice none 0 0, .slice none 0 0, .slice none 0 0, .slice none 0 0] (by rfl) (by rfl) (by exact S1.out.d) hinfo (by exact all_oneCell_toArray zeros_one) ?_)
    have hrg := World.rangeAt_setCells_same w1 (w.heap.size + 1) 0 [.string { data := #[] }, .bool false, .int .i64 0, .bool false, .int .i64 0, .slice none 0 0, .slice none 0 0, .slice none 0 0, .slice none 0 0] S1.out.d
    have d0 := hrg 0 _ rfl
    have d1 := hrg 1 _ rfl
    have d2 := hrg 2 _ rfl
    have d3 := hrg 3 _ rfl
    have d4 := hrg 4 _ rfl
    have d5 := hrg 5 _ rfl
    have d6 := hrg 6 _ rfl
    have d7 := hrg 7 _ rfl
    have d8 := hrg 8 _ rfl
    simp only [Nat.zero_add] at d0 d1 d2 d3 d4 d5 d6 d7 d8
    exact bodyPost_ret (v := .agg #[.string { data := #[] }, .bool false, .int .i64 0, .bool false, .int .i64 0, .slice none 0 0, .slice none 0 0, .slice none 0 0, .slice none 0 0]) (by simp [results, Try.results15, go_sem, d0, d1, d2, d3, d4, d5, d6, d7, d8]) rfl ⟨⟨zeroD, _, _, _, _, rfl, Or.inr ⟨saysV_false Hq.out, rfl⟩, slm_zero _ _⟩, S1.out.put _⟩
  have hv : Hid (Valid m) := Hq.out.1 rfl
  go_wp2_with fail
  refine (fallen_any mach m b1 b2 b3 b4 _ (hL.keep S1.out.e) hf).mono ?_
  rintro e w2 ⟨⟨s2, rfl, r⟩, c2⟩
  obtain ⟨l2, hl2⟩ : ∃ l, l = fallR mach m.rs := ⟨_, rfl⟩
  have Hl2 : Hid _ := hl2
  rw [← hl2] at r
  have S2 : Hid (Sc w #[.string m.nm, .bool m.up, .int .i64 m.ck, .bool m.kn, .int .i64 m.se, .slice (some ⟨b1, 0, none⟩) m.ws.length m.ws.length, .slice (some ⟨b2, 0, none⟩) m.rs.length m.rs.length, .slice (some ⟨b3, 0, none⟩) m.qs.length m.qs.length, .slice (some ⟨b4, 0, none⟩) m.gs.length m.gs.length] w2) := S1.out.below c2
  obtain ⟨a2, p2, hs2⟩ := Sl.shape r
  subst hs2
  have Q2 : Hid (Sl w2 (.slice a2 l2.length p2) l2 w1.heap.size) := r
  clear r c2 ka kf hl2
  have zb1 : w.heap.size + 1 < w1.heap.size := S1.out.f
  go_wp2_with (refine wpList_store_mid (by rfl) 27 _ _ (by rfl) (w.heap.size + 1) 0 #[.string m.nm, .bool false, .int .i64 m.ck, .bool false, .int .i64 0, .slice none 0 0, .slice a2 l2.length p2, .slice none 0 0, .slice none 0 0] (by rfl) (by rfl) (by exact S2.out.d) hinfo (by exact all_oneCell_toArray (fell_one m a2 l2.length p2)) ?_)
  have Q3 : Sl (w2.setCells (w.heap.size + 1) 0 [.string m.nm, .bool false, .int .i64 m.ck, .bool false, .int .i64 0, .slice none 0 0, .slice a2 l2.length p2, .slice none 0 0, .slice none 0 0]) (.slice a2 l2.length p2) (fallR mach m.rs) w.heap.size := by rw [← Hl2.out]; exact (Q2.out.exb ((Ex.refl _ _).cells _ _) zb1).low (by omega)
  have hrg := World.rangeAt_setCells_same w2 (w.heap.size + 1) 0 [.string m.nm, .bool false, .int .i64 m.ck, .bool false, .int .i64 0, .slice none 0 0, .slice a2 l2.length p2, .slice none 0 0, .slice none 0 0] S2.out.d
  have d0 := hrg 0 _ rfl
  have d1 := hrg 1 _ rfl
  have d2 := hrg 2 _ rfl
  have d3 := hrg 3 _ rfl
  have d4 := hrg 4 _ rfl
  have d5 := hrg 5 _ rfl
  have d6 := hrg 6 _ rfl
  have d7 := hrg 7 _ rfl
  have d8 := hrg 8 _ rfl
  simp only [Nat.zero_add] at d0 d1 d2 d3 d4 d5 d6 d7 d8
  exact bodyPost_ret (v := .agg #[.string m.nm, .bool false, .int .i64 m.ck, .bool false, .int .i64 0, .slice none 0 0, .slice a2 l2.length p2, .slice none 0 0, .slice none 0 0]) (by simp [results, Try.results15, go_sem, d0, d1, d2, d3, d4, d5, d6, d7, d8]) rfl ⟨⟨fellD mach m, _, _, _, _, rfl, Or.inl ⟨hv.out, rfl⟩, slm_fell Q3⟩, S2.out.put _⟩
end Go.Proofs.Ytkebokkckmgloaa
