import Derived.Test.YtdkjhonaafadjaaGreatJ16
import Derived.Test.YtdkjhonaafadjaaGreatJ20
import Derived.Laws.EntriesVeiled
import Derived.Test.YtdkjhonaafadjaaGreatJ09
import Derived.Maps.AppendAt
/- MateWorldOk: the program's side. -/
namespace Go.Proofs.YtdkjhonaafadjaaGreat
open Go.RowKit
set_option linter.unusedVariables false

theorem landOk_any (t : Int) (gs : List G.GrantD) (ps : List P.PlaceD) (rs : List Mt.MRow) (fs : List ByteArray) (b1 b2 b3 b4 B : Nat) (w : World) (hA : WorldAt w gs ps rs fs b1 b2 b3 b4 B) (hF : WorldFit gs ps rs fs) :
    Calls Tryz.prog 40 #[.agg #[.int .i64 t, .slice (some ⟨b1, 0, none⟩) gs.length gs.length, .slice (some ⟨b2, 0, none⟩) ps.length ps.length, .slice (some ⟨b3, 0, none⟩) rs.length rs.length, .slice (some ⟨b4, 0, none⟩) fs.length fs.length]] w fun e w' => (∃ q : Bool, e = .returned (.bool q) ∧ (q = true ↔ P.LandSay t gs ps)) ∧ Below w.heap.size w w' := by
  have Hb0 : Hid (Below w.heap.size w (w.alloc (.cells #[.int .i64 t, .slice (some ⟨b1, 0, none⟩) gs.length gs.length, .slice (some ⟨b2, 0, none⟩) ps.length ps.length, .slice (some ⟨b3, 0, none⟩) rs.length rs.length, .slice (some ⟨b4, 0, none⟩) fs.length fs.length] 30))) := bl_alloc (Below.refl _ _) _
  have HA : Hid (WorldAt (w.alloc (.cells #[.int .i64 t, .slice (some ⟨b1, 0, none⟩) gs.length gs.length, .slice (some ⟨b2, 0, none⟩) ps.length ps.length, .slice (some ⟨b3, 0, none⟩) rs.length rs.length, .slice (some ⟨b4, 0, none⟩) fs.length fs.length] 30)) gs ps rs fs b1 b2 b3 b4 B) := hA.keep Hb0.out
  have HF : Hid (WorldFit gs ps rs fs) := hF
  clear hA hF
  go_enter Tryz.func40, Tryz.ntmps40
  go_wp2_with fail
  refine (P.implLandOk t gs ps b1 b2 _ HA.out.a.a HF.out.f).mono ?_
  rintro e w1 ⟨⟨q, rfl, h⟩, c1⟩
  have H1 : Hid (P.SaysL q t gs ps) := h
  have C1 : Hid (Below (w.alloc (.cells #[.int .i64 t, .slice (some ⟨b1, 0, none⟩) gs.length gs.length, .slice (some ⟨b2, 0, none⟩) ps.length ps.length, .slice (some ⟨b3, 0, none⟩) rs.length rs.length, .slice (some ⟨b4, 0, none⟩) fs.length fs.length] 30)).heap.size (w.alloc (.cells #[.int .i64 t, .slice (some ⟨b1, 0, none⟩) gs.length gs.length, .slice (some ⟨b2, 0, none⟩) ps.length ps.length, .slice (some ⟨b3, 0, none⟩) rs.length rs.length, .slice (some ⟨b4, 0, none⟩) fs.length fs.length] 30)) w1) := c1
  clear h c1
  go_wp2
  go_ret
  exact ⟨⟨q, rfl, H1.out⟩, bl_trans Hb0.out C1.out⟩
theorem flightOk_any (t : Int) (gs : List G.GrantD) (ps : List P.PlaceD) (rs : List Mt.MRow) (fs : List ByteArray) (b1 b2 b3 b4 B : Nat) (w : World) (hA : WorldAt w gs ps rs fs b1 b2 b3 b4 B) (hF : WorldFit gs ps rs fs) :
    Calls Tryz.prog 42 #[.agg #[.int .i64 t, .slice (some ⟨b1, 0, none⟩) gs.length gs.length, .slice (some ⟨b2, 0, none⟩) ps.length ps.length, .slice (some ⟨b3, 0, none⟩) rs.length rs.length, .slice (some ⟨b4, 0, none⟩) fs.length fs.length]] w fun e w' => (∃ q : Bool, e = .returned (.bool q) ∧ (q = true ↔ fs.length ≤ 300)) ∧ Below w.heap.size w w' := by
  have h4 := hF.l4
  clear hA hF
  by_cases h : fs.length ≤ 300
  · have h' : (fs.length : Int) ≤ 300 := by omega
    go_enter Tryz.func42, Tryz.ntmps42
    go_wp2
    go_ret
    exact ⟨⟨true, rfl, ⟨fun _ => h, fun _ => rfl⟩⟩, bl_alloc (Below.refl _ _) _⟩
  · have h' : ((fs.length : Int) ≤ 300) = False := by simp; omega
    go_enter Tryz.func42, Tryz.ntmps42
    go_wp2
    go_ret
    exact ⟨⟨false, rfl, ⟨fun h' => (by cases h'), fun h' => (h h').elim⟩⟩, bl_alloc (Below.refl _ _) _⟩
open Classical in
noncomputable def validB (r : Mt.MRow) : Bool := decide (Valid r.m)
theorem validB_iff {r : Mt.MRow} : validB r = true ↔ Valid r.m := by unfold validB; simp
theorem implValid_b {B : Nat} (r : Mt.MRow) (w : World) (hb : ∃ g1 g2 g3 g4, r.blk B w g1 g2 g3 g4) (hf : r.m.fits) :
    Calls Tryz.prog 84 #[.agg #[.string r.m.nm, .bool r.m.up, .int .i64 r.m.ck, .bool r.m.kn, .int .i64 r.m.se, .slice r.a1 r.m.ws.length r.c1, .slice r.a2 r.m.rs.length r.c2, .slice r.a3 r.m.qs.length r.c3, .slice r.a4 r.m.gs.length r.c4]] w fun e w' => e = .returned (.bool (validB r)) ∧ Below w.heap.size w w' := by
  obtain ⟨g1, g2, g3, g4, h⟩ := hb
  have x1 := h.e1; have x2 := h.e2; have x3 := h.e3; have x4 := h.e4
  have t1 := h.f1; have t2 := h.f2; have t3 := h.f3; have t4 := h.f4
  rw [x1, x2, x3, x4, t1, t2, t3, t4]
  refine (implValid r.m g1 g2 g3 g4 w h.l hf).mono ?_
  rintro e w' ⟨⟨q, rfl, hq⟩, hb⟩
  refine ⟨?_, hb⟩
  have : q = validB r := by
    cases q
    · cases hv : validB r
      · rfl
      · have := hq.2 (validB_iff.1 hv); cases this
    · exact (validB_iff.2 (hq.1 rfl)).symm
  rw [this]

set_option maxRecDepth 4000 in
set_option maxHeartbeats 2000000 in
theorem matesOk_any (t : Int) (gs : List G.GrantD) (ps : List P.PlaceD) (rs : List Mt.MRow) (fs : List ByteArray) (b1 b2 b3 b4 B : Nat) (w : World) (hA : WorldAt w gs ps rs fs b1 b2 b3 b4 B) (hF : WorldFit gs ps rs fs) :
    Calls Tryz.prog 41 #[.agg #[.int .i64 t, .slice (some ⟨b1, 0, none⟩) gs.length gs.length, .slice (some ⟨b2, 0, none⟩) ps.length ps.length, .slice (some ⟨b3, 0, none⟩) rs.length rs.length, .slice (some ⟨b4, 0, none⟩) fs.length fs.length]] w fun e w' => (∃ q : Bool, e = .returned (.bool q) ∧ (q = true ↔ (1 ≤ rs.length ∧ rs.length ≤ 4) ∧ MatesSay (rs.map Mt.MRow.m))) ∧ Below w.heap.size w w' := by
  have Hb0 : Hid (Below w.heap.size w (w.alloc (.cells #[.int .i64 t, .slice (some ⟨b1, 0, none⟩) gs.length gs.length, .slice (some ⟨b2, 0, none⟩) ps.length ps.length, .slice (some ⟨b3, 0, none⟩) rs.length rs.length, .slice (some ⟨b4, 0, none⟩) fs.length fs.length] 30))) := bl_alloc (Below.refl _ _) _
  have HA : Hid (WorldAt (w.alloc (.cells #[.int .i64 t, .slice (some ⟨b1, 0, none⟩) gs.length gs.length, .slice (some ⟨b2, 0, none⟩) ps.length ps.length, .slice (some ⟨b3, 0, none⟩) rs.length rs.length, .slice (some ⟨b4, 0, none⟩) fs.length fs.length] 30)) gs ps rs fs b1 b2 b3 b4 B) := hA.keep Hb0.out
  have HF : Hid (WorldFit gs ps rs fs) := hF
  have hl3 := hF.l3
  clear hA hF
  cases hin : inB (rs.length : Int) 1 4
  · go_enter Tryz.func41, Tryz.ntmps41
    go_wp2_with (go_at_call 81; refine (within_any _ _ _ _).mono ?_; rintro e w' ⟨rfl, hw⟩; have hw2 := hw.symm; subst hw2; clear hw)
    go_ret
    exact ⟨⟨false, rfl, ⟨fun h' => (by cases h'), fun h => by rw [inB_len.2 h.1] at hin; cases hin⟩⟩, Hb0.out⟩
  have G2 : Hid (1 ≤ rs.length ∧ rs.length ≤ 4) := inB_len.1 hin
  go_enter Tryz.func41, Tryz.ntmps41
  go_wp2_with (go_at_call 81; refine (within_any _ _ _ _).mono ?_; rintro e w' ⟨rfl, hw⟩; have hw2 := hw.symm; subst hw2; clear hw)
  refine (Mt.ascends b3 0 _ rs _ HA.out.m.r HA.out.m.l hl3).mono ?_
  rintro e w1 ⟨⟨q, rfl, h⟩, c1⟩
  have H1 : Hid (q = true ↔ Mt.AscN rs rs.length) := h
  have C1 : Hid (Below (w.alloc (.cells #[.int .i64 t, .slice (some ⟨b1, 0, none⟩) gs.length gs.length, .slice (some ⟨b2, 0, none⟩) ps.length ps.length, .slice (some ⟨b3, 0, none⟩) rs.length rs.length, .slice (some ⟨b4, 0, none⟩) fs.length fs.length] 30)).heap.size (w.alloc (.cells #[.int .i64 t, .slice (some ⟨b1, 0, none⟩) gs.length gs.length, .slice (some ⟨b2, 0, none⟩) ps.length ps.length, .slice (some ⟨b3, 0, none⟩) rs.length rs.length, .slice (some ⟨b4, 0, none⟩) fs.length fs.length] 30)) w1) := c1
  have kb := wd_box c1
  have HM : Hid (MatesOwn w1 rs b3 B) := HA.out.m.keep c1
  clear h c1
  cases q
  · go_wp2_with fail
    go_ret
    exact ⟨⟨false, rfl, ⟨fun h' => (by cases h'), fun h => by have := H1.out.2 (ascN_iff.2 h.2.1); cases this⟩⟩, bl_trans Hb0.out C1.out⟩
  have G1 : Hid (AscM (rs.map Mt.MRow.m)) := ascN_iff.1 (H1.out.1 rfl)
  clear H1
  go_wp2_with fail
  refine (Mt.allOk validB b3 0 _ rs _ HM.out.r HM.out.l hl3 (fun r hr x hx => implValid_b (B := B) r x ((HM.out.keep hx).k r hr) (HF.out.m r hr))).mono ?_
  rintro e w2 ⟨⟨q, rfl, h⟩, c2⟩
  have H2 : Hid (q = true ↔ ∀ r ∈ rs, validB r = true) := h
  have C2 : Hid (Below w.heap.size w w2) := bl_trans Hb0.out (bl_trans C1.out c2)
  clear h c2 kb
  have H3 : Hid (q = true ↔ (1 ≤ rs.length ∧ rs.length ≤ 4) ∧ MatesSay (rs.map Mt.MRow.m)) := by
    refine H2.out.trans ⟨fun h => ⟨G2.out, G1.out, fun m hm => ?_⟩, fun h r hr => validB_iff.2 (h.2.2 r.m (List.mem_map_of_mem hr))⟩
    obtain ⟨r, hr, rfl⟩ := List.mem_map.1 hm
    exact validB_iff.1 (h r hr)
  clear H2
  go_wp2
  go_ret
  exact ⟨⟨q, rfl, H3.out⟩, C2.out⟩

theorem build_world (w : World) : Sem.run Tryz.prog (Instr.buildSlice 66 3 #[(0, .func (.func 40) #[] #[]), (1, .func (.func 41) #[] #[]), (2, .func (.func 42) #[] #[])]) w = .ok (.slice (some ⟨w.heap.size, 0, none⟩) 3 3) (w.alloc (.cells #[.func (.func 40) #[] #[], .func (.func 41) #[] #[], .func (.func 42) #[] #[]] 45)) := by kernel_rfl
theorem three_world {w w' : World} {t : Int} {gs : List G.GrantD} {ps : List P.PlaceD} {rs : List Mt.MRow} {fs : List ByteArray} {b1 b2 b3 b4 : Nat} (hb : Below (((w.alloc (.cells #[.int .i64 t, .slice (some ⟨b1, 0, none⟩) gs.length gs.length, .slice (some ⟨b2, 0, none⟩) ps.length ps.length, .slice (some ⟨b3, 0, none⟩) rs.length rs.length, .slice (some ⟨b4, 0, none⟩) fs.length fs.length] 30)).alloc (.cells #[.func (.func 40) #[] #[], .func (.func 41) #[] #[], .func (.func 42) #[] #[]] 45)).alloc (.cells #[.int .i64 t, .slice (some ⟨b1, 0, none⟩) gs.length gs.length, .slice (some ⟨b2, 0, none⟩) ps.length ps.length, .slice (some ⟨b3, 0, none⟩) rs.length rs.length, .slice (some ⟨b4, 0, none⟩) fs.length fs.length] 30)).heap.size (((w.alloc (.cells #[.int .i64 t, .slice (some ⟨b1, 0, none⟩) gs.length gs.length, .slice (some ⟨b2, 0, none⟩) ps.length ps.length, .slice (some ⟨b3, 0, none⟩) rs.length rs.length, .slice (some ⟨b4, 0, none⟩) fs.length fs.length] 30)).alloc (.cells #[.func (.func 40) #[] #[], .func (.func 41) #[] #[], .func (.func 42) #[] #[]] 45)).alloc (.cells #[.int .i64 t, .slice (some ⟨b1, 0, none⟩) gs.length gs.length, .slice (some ⟨b2, 0, none⟩) ps.length ps.length, .slice (some ⟨b3, 0, none⟩) rs.length rs.length, .slice (some ⟨b4, 0, none⟩) fs.length fs.length] 30)) w') :
    (∀ k, w'.cell? ⟨w.heap.size + 1, k, none⟩ = (#[.func (.func 40) #[] #[], .func (.func 41) #[] #[], .func (.func 42) #[] #[]] : Array Value)[k]?) ∧ (∀ k, w'.cell? ⟨w.heap.size + 1 + 1, k, none⟩ = (#[.int .i64 t, .slice (some ⟨b1, 0, none⟩) gs.length gs.length, .slice (some ⟨b2, 0, none⟩) ps.length ps.length, .slice (some ⟨b3, 0, none⟩) rs.length rs.length, .slice (some ⟨b4, 0, none⟩) fs.length fs.length] : Array Value)[k]?) := by
  constructor
  · intro k
    rw [hb.cell (p := ⟨w.heap.size + 1, k, none⟩) (by simp)]
    simp [go_sem, World.cell?_alloc_past]
  · intro k
    rw [hb.cell (p := ⟨w.heap.size + 1 + 1, k, none⟩) (by simp)]
    simp [go_sem]

set_option maxRecDepth 4000 in
set_option maxHeartbeats 2000000 in
theorem implWorldOk (t : Int) (gs : List G.GrantD) (ps : List P.PlaceD) (rs : List Mt.MRow) (fs : List ByteArray) (b1 b2 b3 b4 B : Nat) (w : World) (hA : WorldAt w gs ps rs fs b1 b2 b3 b4 B) (hF : WorldFit gs ps rs fs) :
    Calls Tryz.prog 19 #[.agg #[.int .i64 t, .slice (some ⟨b1, 0, none⟩) gs.length gs.length, .slice (some ⟨b2, 0, none⟩) ps.length ps.length, .slice (some ⟨b3, 0, none⟩) rs.length rs.length, .slice (some ⟨b4, 0, none⟩) fs.length fs.length]] w fun e w' => (∃ q : Bool, e = .returned (.bool q) ∧ SaysWd q t gs ps (rs.map Mt.MRow.m) fs) ∧ Below w.heap.size w w' := by
  have Hx0 : Hid (Below w.heap.size w (((w.alloc (.cells #[.int .i64 t, .slice (some ⟨b1, 0, none⟩) gs.length gs.length, .slice (some ⟨b2, 0, none⟩) ps.length ps.length, .slice (some ⟨b3, 0, none⟩) rs.length rs.length, .slice (some ⟨b4, 0, none⟩) fs.length fs.length] 30)).alloc (.cells #[.func (.func 40) #[] #[], .func (.func 41) #[] #[], .func (.func 42) #[] #[]] 45)).alloc (.cells #[.int .i64 t, .slice (some ⟨b1, 0, none⟩) gs.length gs.length, .slice (some ⟨b2, 0, none⟩) ps.length ps.length, .slice (some ⟨b3, 0, none⟩) rs.length rs.length, .slice (some ⟨b4, 0, none⟩) fs.length fs.length] 30))) := bl_alloc (bl_alloc (bl_alloc (Below.refl _ _) _) _) _
  have HA0 : Hid (WorldAt (((w.alloc (.cells #[.int .i64 t, .slice (some ⟨b1, 0, none⟩) gs.length gs.length, .slice (some ⟨b2, 0, none⟩) ps.length ps.length, .slice (some ⟨b3, 0, none⟩) rs.length rs.length, .slice (some ⟨b4, 0, none⟩) fs.length fs.length] 30)).alloc (.cells #[.func (.func 40) #[] #[], .func (.func 41) #[] #[], .func (.func 42) #[] #[]] 45)).alloc (.cells #[.int .i64 t, .slice (some ⟨b1, 0, none⟩) gs.length gs.length, .slice (some ⟨b2, 0, none⟩) ps.length ps.length, .slice (some ⟨b3, 0, none⟩) rs.length rs.length, .slice (some ⟨b4, 0, none⟩) fs.length fs.length] 30)) gs ps rs fs b1 b2 b3 b4 B) := hA.keep Hx0.out
  have HF : Hid (WorldFit gs ps rs fs) := hF
  clear hA hF
  have hbv := build_world
  go_enter Tryz.func19, Tryz.ntmps19
  go_wp2_with go_in
  clear hbv
  refine wp_loop_rounds 4 ?_
  rw [rounds_succ]
  go_wp2_with fail
  refine (landOk_any t gs ps rs fs b1 b2 b3 b4 B _ HA0.out HF.out).mono ?_
  rintro e w1 ⟨⟨q1, rfl, h1⟩, c1⟩
  have H1 : Hid (q1 = true ↔ P.LandSay t gs ps) := h1
  have C1 : Hid (Below (((w.alloc (.cells #[.int .i64 t, .slice (some ⟨b1, 0, none⟩) gs.length gs.length, .slice (some ⟨b2, 0, none⟩) ps.length ps.length, .slice (some ⟨b3, 0, none⟩) rs.length rs.length, .slice (some ⟨b4, 0, none⟩) fs.length fs.length] 30)).alloc (.cells #[.func (.func 40) #[] #[], .func (.func 41) #[] #[], .func (.func 42) #[] #[]] 45)).alloc (.cells #[.int .i64 t, .slice (some ⟨b1, 0, none⟩) gs.length gs.length, .slice (some ⟨b2, 0, none⟩) ps.length ps.length, .slice (some ⟨b3, 0, none⟩) rs.length rs.length, .slice (some ⟨b4, 0, none⟩) fs.length fs.length] 30)).heap.size (((w.alloc (.cells #[.int .i64 t, .slice (some ⟨b1, 0, none⟩) gs.length gs.length, .slice (some ⟨b2, 0, none⟩) ps.length ps.length, .slice (some ⟨b3, 0, none⟩) rs.length rs.length, .slice (some ⟨b4, 0, none⟩) fs.length fs.length] 30)).alloc (.cells #[.func (.func 40) #[] #[], .func (.func 41) #[] #[], .func (.func 42) #[] #[]] 45)).alloc (.cells #[.int .i64 t, .slice (some ⟨b1, 0, none⟩) gs.length gs.length, .slice (some ⟨b2, 0, none⟩) ps.length ps.length, .slice (some ⟨b3, 0, none⟩) rs.length rs.length, .slice (some ⟨b4, 0, none⟩) fs.length fs.length] 30)) w1) := c1
  clear h1 c1
  obtain ⟨kf1, km1⟩ := three_world C1.out
  cases q1
  · go_wp2
    go_ret
    exact ⟨⟨false, rfl, saysWd_no (fun h => by have := H1.out.2 h.1; cases this)⟩, bl_trans Hx0.out C1.out⟩
  have G1 : Hid (P.LandSay t gs ps) := H1.out.1 rfl
  clear H1
  have HA1 : Hid (WorldAt w1 gs ps rs fs b1 b2 b3 b4 B) := HA0.out.keep C1.out
  go_wp2_with fail
  rw [rounds_succ]
  go_wp2_with fail
  refine (matesOk_any t gs ps rs fs b1 b2 b3 b4 B _ HA1.out HF.out).mono ?_
  rintro e w2 ⟨⟨q2, rfl, h2⟩, c2⟩
  have H2 : Hid (q2 = true ↔ (1 ≤ rs.length ∧ rs.length ≤ 4) ∧ MatesSay (rs.map Mt.MRow.m)) := h2
  have C2 : Hid (Below (((w.alloc (.cells #[.int .i64 t, .slice (some ⟨b1, 0, none⟩) gs.length gs.length, .slice (some ⟨b2, 0, none⟩) ps.length ps.length, .slice (some ⟨b3, 0, none⟩) rs.length rs.length, .slice (some ⟨b4, 0, none⟩) fs.length fs.length] 30)).alloc (.cells #[.func (.func 40) #[] #[], .func (.func 41) #[] #[], .func (.func 42) #[] #[]] 45)).alloc (.cells #[.int .i64 t, .slice (some ⟨b1, 0, none⟩) gs.length gs.length, .slice (some ⟨b2, 0, none⟩) ps.length ps.length, .slice (some ⟨b3, 0, none⟩) rs.length rs.length, .slice (some ⟨b4, 0, none⟩) fs.length fs.length] 30)).heap.size (((w.alloc (.cells #[.int .i64 t, .slice (some ⟨b1, 0, none⟩) gs.length gs.length, .slice (some ⟨b2, 0, none⟩) ps.length ps.length, .slice (some ⟨b3, 0, none⟩) rs.length rs.length, .slice (some ⟨b4, 0, none⟩) fs.length fs.length] 30)).alloc (.cells #[.func (.func 40) #[] #[], .func (.func 41) #[] #[], .func (.func 42) #[] #[]] 45)).alloc (.cells #[.int .i64 t, .slice (some ⟨b1, 0, none⟩) gs.length gs.length, .slice (some ⟨b2, 0, none⟩) ps.length ps.length, .slice (some ⟨b3, 0, none⟩) rs.length rs.length, .slice (some ⟨b4, 0, none⟩) fs.length fs.length] 30)) w2) := bl_trans C1.out c2
  clear h2 c2 kf1 km1
  obtain ⟨kf2, km2⟩ := three_world C2.out
  cases q2
  · go_wp2
    go_ret
    exact ⟨⟨false, rfl, saysWd_no (fun h => by have := H2.out.2 ⟨by have h2 := h.2.1; rw [List.length_map] at h2; exact h2, h.2.2.2⟩; cases this)⟩, bl_trans Hx0.out C2.out⟩
  have G2 : Hid ((1 ≤ rs.length ∧ rs.length ≤ 4) ∧ MatesSay (rs.map Mt.MRow.m)) := H2.out.1 rfl
  clear H2
  have HA2 : Hid (WorldAt w2 gs ps rs fs b1 b2 b3 b4 B) := HA0.out.keep C2.out
  go_wp2_with fail
  rw [rounds_succ]
  go_wp2_with fail
  refine (flightOk_any t gs ps rs fs b1 b2 b3 b4 B _ HA2.out HF.out).mono ?_
  rintro e w3 ⟨⟨q3, rfl, h3⟩, c3⟩
  have H3 : Hid (q3 = true ↔ fs.length ≤ 300) := h3
  have C3 : Hid (Below (((w.alloc (.cells #[.int .i64 t, .slice (some ⟨b1, 0, none⟩) gs.length gs.length, .slice (some ⟨b2, 0, none⟩) ps.length ps.length, .slice (some ⟨b3, 0, none⟩) rs.length rs.length, .slice (some ⟨b4, 0, none⟩) fs.length fs.length] 30)).alloc (.cells #[.func (.func 40) #[] #[], .func (.func 41) #[] #[], .func (.func 42) #[] #[]] 45)).alloc (.cells #[.int .i64 t, .slice (some ⟨b1, 0, none⟩) gs.length gs.length, .slice (some ⟨b2, 0, none⟩) ps.length ps.length, .slice (some ⟨b3, 0, none⟩) rs.length rs.length, .slice (some ⟨b4, 0, none⟩) fs.length fs.length] 30)).heap.size (((w.alloc (.cells #[.int .i64 t, .slice (some ⟨b1, 0, none⟩) gs.length gs.length, .slice (some ⟨b2, 0, none⟩) ps.length ps.length, .slice (some ⟨b3, 0, none⟩) rs.length rs.length, .slice (some ⟨b4, 0, none⟩) fs.length fs.length] 30)).alloc (.cells #[.func (.func 40) #[] #[], .func (.func 41) #[] #[], .func (.func 42) #[] #[]] 45)).alloc (.cells #[.int .i64 t, .slice (some ⟨b1, 0, none⟩) gs.length gs.length, .slice (some ⟨b2, 0, none⟩) ps.length ps.length, .slice (some ⟨b3, 0, none⟩) rs.length rs.length, .slice (some ⟨b4, 0, none⟩) fs.length fs.length] 30)) w3) := bl_trans C2.out c3
  clear h3 c3 kf2 km2
  obtain ⟨kf3, km3⟩ := three_world C3.out
  cases q3
  · go_wp2
    go_ret
    exact ⟨⟨false, rfl, saysWd_no (fun h => by have := H3.out.2 h.2.2.1; cases this)⟩, bl_trans Hx0.out C3.out⟩
  have G3 : Hid (fs.length ≤ 300) := H3.out.1 rfl
  clear H3
  have HA3 : Hid (WorldAt w3 gs ps rs fs b1 b2 b3 b4 B) := HA0.out.keep C3.out
  go_wp2_with fail
  rw [rounds_succ]
  go_wp2
  go_ret
  exact ⟨⟨true, rfl, ⟨fun _ => ⟨G1.out, by rw [List.length_map]; exact G2.out.1, G3.out, G2.out.2⟩, fun _ => rfl⟩⟩, bl_trans Hx0.out C3.out⟩
end Go.Proofs.YtdkjhonaafadjaaGreat
/- Lists of the call's own: their shapes, and that they lie apart. -/
namespace Go.Proofs.YtdkjhonaafadjaaGreat
open Go.RowKit
set_option linter.unusedVariables false

theorem W.Sl.low {w : World} {v : Value} {l : List W.WantD} {B B' : Nat} (h : W.Sl w v l B) (hB : B' ≤ B) : W.Sl w v l B' := by
  rcases h with h | ⟨g, cap, h0, h1, h2, h3, h4⟩
  · exact Or.inl h
  · exact Or.inr ⟨g, cap, h0, Nat.le_trans hB h1, h2, h3, h4⟩
theorem W.Sl.shape {w : World} {v : Value} {l : List W.WantD} {B : Nat} (h : W.Sl w v l B) : ∃ a c, v = .slice a l.length c := by
  rcases h with ⟨rfl, rfl⟩ | ⟨g, cap, rfl, -⟩
  · exact ⟨none, 0, rfl⟩
  · exact ⟨_, _, rfl⟩
theorem W.Sl.one {w : World} {v : Value} {l : List W.WantD} {B : Nat} (h : W.Sl w v l B) : v.oneCell' = true := by
  rcases h with ⟨rfl, -⟩ | ⟨g, cap, rfl, -⟩ <;> rfl
theorem Sl.low {w : World} {v : Value} {l : List RunD} {B B' : Nat} (h : Sl w v l B) (hB : B' ≤ B) : Sl w v l B' := by
  rcases h with h | ⟨g, cap, h0, h1, h2, h3, h4⟩
  · exact Or.inl h
  · exact Or.inr ⟨g, cap, h0, Nat.le_trans hB h1, h2, h3, h4⟩
theorem Sl.shape {w : World} {v : Value} {l : List RunD} {B : Nat} (h : Sl w v l B) : ∃ a c, v = .slice a l.length c := by
  rcases h with ⟨rfl, rfl⟩ | ⟨g, cap, rfl, -⟩
  · exact ⟨none, 0, rfl⟩
  · exact ⟨_, _, rfl⟩
theorem Sl.one {w : World} {v : Value} {l : List RunD} {B : Nat} (h : Sl w v l B) : v.oneCell' = true := by
  rcases h with ⟨rfl, -⟩ | ⟨g, cap, rfl, -⟩ <;> rfl
theorem A.Sl.low {w : World} {v : Value} {l : List A.AskD} {B B' : Nat} (h : A.Sl w v l B) (hB : B' ≤ B) : A.Sl w v l B' := by
  rcases h with h | ⟨g, cap, h0, h1, h2, h3, h4⟩
  · exact Or.inl h
  · exact Or.inr ⟨g, cap, h0, Nat.le_trans hB h1, h2, h3, h4⟩
theorem A.Sl.shape {w : World} {v : Value} {l : List A.AskD} {B : Nat} (h : A.Sl w v l B) : ∃ a c, v = .slice a l.length c := by
  rcases h with ⟨rfl, rfl⟩ | ⟨g, cap, rfl, -⟩
  · exact ⟨none, 0, rfl⟩
  · exact ⟨_, _, rfl⟩
theorem A.Sl.one {w : World} {v : Value} {l : List A.AskD} {B : Nat} (h : A.Sl w v l B) : v.oneCell' = true := by
  rcases h with ⟨rfl, -⟩ | ⟨g, cap, rfl, -⟩ <;> rfl
theorem ones (m : MateD) {w1 w2 w3 w4 : World} {a1 a2 a3 a4 : Option Addr} {p1 p2 p3 p4 B1 B2 B3 B4 : Nat} (h1 : W.Sl w1 (.slice a1 m.ws.length p1) m.ws B1) (h2 : Sl w2 (.slice a2 m.rs.length p2) m.rs B2) (h3 : A.Sl w3 (.slice a3 m.qs.length p3) m.qs B3) (h4 : A.Sl w4 (.slice a4 m.gs.length p4) m.gs B4) : ∀ u ∈ ([.string m.nm, .bool m.up, .int .i64 m.ck, .bool m.kn, .int .i64 m.se, (.slice a1 m.ws.length p1), (.slice a2 m.rs.length p2), (.slice a3 m.qs.length p3), (.slice a4 m.gs.length p4)] : List Value), u.oneCell' = true := by
  intro u hu
  simp only [List.mem_cons, List.not_mem_nil, or_false] at hu
  rcases hu with rfl | rfl | rfl | rfl | rfl | rfl | rfl | rfl | rfl
  · rfl
  · rfl
  · rfl
  · rfl
  · rfl
  · exact W.Sl.one h1
  · exact Sl.one h2
  · exact A.Sl.one h3
  · exact A.Sl.one h4
theorem ob_ne {v : Value} {N k : Nat} (h : ∀ g, v.ownBlock = some g → N < g) (hk : k ≤ N) : v.ownBlock = none ∨ v.ownBlock ≠ some k := by
  cases hv : v.ownBlock with
  | none => exact Or.inl rfl
  | some g => exact Or.inr (fun e => by cases e; have := h k hv; omega)
theorem dif_lt {a b : Value} {N N' : Nat} (h1 : ∀ g, a.ownBlock = some g → g < N) (h2 : ∀ g, b.ownBlock = some g → N' ≤ g) (h : N ≤ N') : Dif a b := by
  cases ha : a.ownBlock with
  | none => exact Or.inl ha
  | some g => exact Or.inr (fun e => by rw [ha] at e; have := h1 g ha; have := h2 g e.symm; omega)
end Go.Proofs.YtdkjhonaafadjaaGreat
/- MateSafe: the program's side. -/
namespace Go.Proofs.YtdkjhonaafadjaaGreat
open Go.RowKit
set_option linter.unusedVariables false

set_option maxRecDepth 4000 in
set_option maxHeartbeats 4000000 in
theorem implSafe (t : Int) (gs : List G.GrantD) (ps : List P.PlaceD) (rs : List Mt.MRow) (fs : List ByteArray) (b1 b2 b3 b4 B : Nat) (w : World) (hA : WorldAt w gs ps rs fs b1 b2 b3 b4 B) (hF : WorldFit gs ps rs fs) :
    Calls Tryz.prog 21 #[.agg #[.int .i64 t, .slice (some ⟨b1, 0, none⟩) gs.length gs.length, .slice (some ⟨b2, 0, none⟩) ps.length ps.length, .slice (some ⟨b3, 0, none⟩) rs.length rs.length, .slice (some ⟨b4, 0, none⟩) fs.length fs.length]] w fun e w' => (∃ q : Bool, e = .returned (.bool q) ∧ (q = true ↔ SafeOk t gs ps (rs.map Mt.MRow.m) fs)) ∧ Below w.heap.size w w' := by
  have Hb0 : Hid (Below w.heap.size w (w.alloc (.cells #[.int .i64 t, .slice (some ⟨b1, 0, none⟩) gs.length gs.length, .slice (some ⟨b2, 0, none⟩) ps.length ps.length, .slice (some ⟨b3, 0, none⟩) rs.length rs.length, .slice (some ⟨b4, 0, none⟩) fs.length fs.length] 30))) := bl_alloc (Below.refl _ _) _
  have HA : Hid (WorldAt (w.alloc (.cells #[.int .i64 t, .slice (some ⟨b1, 0, none⟩) gs.length gs.length, .slice (some ⟨b2, 0, none⟩) ps.length ps.length, .slice (some ⟨b3, 0, none⟩) rs.length rs.length, .slice (some ⟨b4, 0, none⟩) fs.length fs.length] 30)) gs ps rs fs b1 b2 b3 b4 B) := hA.keep Hb0.out
  have HF : Hid (WorldFit gs ps rs fs) := hF
  clear hA hF
  obtain ⟨iw, hiw, hz0, hz1, hz2⟩ := info_parts W.infoR
  go_enter Tryz.func21, Tryz.ntmps21
  go_wp2_with fail
  refine (implWorldOk t gs ps rs fs b1 b2 b3 b4 B _ HA.out HF.out).mono ?_
  rintro e w1 ⟨⟨q, rfl, h⟩, c1⟩
  have H1 : Hid (SaysWd q t gs ps (rs.map Mt.MRow.m) fs) := h
  have C1 : Hid (Below (w.alloc (.cells #[.int .i64 t, .slice (some ⟨b1, 0, none⟩) gs.length gs.length, .slice (some ⟨b2, 0, none⟩) ps.length ps.length, .slice (some ⟨b3, 0, none⟩) rs.length rs.length, .slice (some ⟨b4, 0, none⟩) fs.length fs.length] 30)).heap.size (w.alloc (.cells #[.int .i64 t, .slice (some ⟨b1, 0, none⟩) gs.length gs.length, .slice (some ⟨b2, 0, none⟩) ps.length ps.length, .slice (some ⟨b3, 0, none⟩) rs.length rs.length, .slice (some ⟨b4, 0, none⟩) fs.length fs.length] 30)) w1) := c1
  have kb := wd_box c1
  clear h c1
  cases q
  · go_wp2_with fail
    go_ret
    exact ⟨⟨false, rfl, ⟨fun h => (by cases h), fun h => by have := H1.out.2 h.1; cases this⟩⟩, bl_trans Hb0.out C1.out⟩
  have G1 : Hid (WorldSay t gs ps (rs.map Mt.MRow.m) fs) := H1.out.1 rfl
  clear H1
  have H20 : Hid (∀ r ∈ rs, r.m.rs.length ≤ 20) := (world_runs G1.out).1
  have h4 : rs.length ≤ 4 := (world_runs G1.out).2
  have H4 : Hid (rs.length ≤ 4) := h4
  have zb1 : w.heap.size + 1 ≤ w1.heap.size := by have := C1.out.size; simpa using this
  go_wp2_with fail
  clear kb
  go_loopw [3, 14] (fun v i wx => ∃ (k : Nat), k ≤ rs.length ∧ i = .int .i64 k ∧ wx.ownsRow (w.heap.size + 1) 68 7 v (living (rs.take k)).length (W.flatR (living (rs.take k))) ∧ Hid (Below (w.alloc (.cells #[.int .i64 t, .slice (some ⟨b1, 0, none⟩) gs.length gs.length, .slice (some ⟨b2, 0, none⟩) ps.length ps.length, .slice (some ⟨b3, 0, none⟩) rs.length rs.length, .slice (some ⟨b4, 0, none⟩) fs.length fs.length] 30)).heap.size (w.alloc (.cells #[.int .i64 t, .slice (some ⟨b1, 0, none⟩) gs.length gs.length, .slice (some ⟨b2, 0, none⟩) ps.length ps.length, .slice (some ⟨b3, 0, none⟩) rs.length rs.length, .slice (some ⟨b4, 0, none⟩) fs.length fs.length] 30)) wx)) (fun _ i _ => rs.length - (intOf i).toNat)
  case atStart => exact ⟨0, Nat.zero_le _, rfl, World.ownsRow_nil _ _ _ _, C1.out⟩
  case round =>
    obtain ⟨k, hk, rfl, hown, HB⟩ := hrel
    obtain ⟨v0, rfl⟩ : ∃ v0 : Value, v0 = u3 := ⟨_, rfl⟩
    have zw : w.heap.size + 1 ≤ wr.heap.size := by have := HB.out.size; simpa using this
    by_cases hlt : k < rs.length
    rotate_left
    · have e : k = rs.length := by omega
      subst e
      rw [List.take_of_length_le (Nat.le_refl _)] at hown
      obtain ⟨a, c, hsv, hcap, hG⟩ := P.sl_gv hown
      subst hsv
      have hlen : (living rs).length ≤ 1048576 := by have := living_len rs H20.out; omega
      obtain ⟨l, hl⟩ : ∃ l, l = living rs := ⟨_, rfl⟩
      rw [← hl] at hcap hlen hG ⊢
      have Hl : Hid (l = living rs) := hl
      have HG : Hid (W.Gv wr a l) := hG
      clear hl hown hG
      go_wp2_with fail
      refine (W.holdsDiffer2 a c l _ HG.out hcap hlen).mono ?_
      rintro e w3 ⟨⟨q, rfl, kq⟩, c3⟩
      have Kq : Hid (q = true ↔ SafeOk t gs ps (rs.map Mt.MRow.m) fs) := by
        have h1 : (q = true ↔ SafeSay (rs.map Mt.MRow.m)) := by
          unfold SafeSay
          rw [living_map, ← Hl.out, ← P.diff_iff]
          exact kq
        exact h1.trans ⟨fun h => ⟨G1.out, h⟩, fun h => h.2⟩
      have B3 : Hid (Below w.heap.size w w3) := bl_trans Hb0.out (bl_trans HB.out c3)
      clear kq c3
      go_wp2
      go_ret
      exact ⟨⟨q, rfl, Kq.out⟩, B3.out⟩
    obtain ⟨r, hr⟩ : ∃ r, rs[k]? = some r := ⟨rs[k], List.getElem?_eq_getElem hlt⟩
    have HM : Hid (MatesOwn wr rs b3 B) := HA.out.m.keep HB.out
    obtain ⟨g1, g2, g3, g4, hbp⟩ := HM.out.k r (List.mem_of_getElem? hr)
    have HLr : Hid (Lists wr r.m g1 g2 g3 g4) := hbp.l
    have hl20 : r.m.rs.length ≤ 20 := H20.out r (List.mem_of_getElem? hr)
    have Hr : Hid (rs[k]? = some r) := hr
    have x1 := hbp.e1; have x2 := hbp.e2; have x3 := hbp.e3; have x4 := hbp.e4
    have t1 := hbp.f1; have t2 := hbp.f2; have t3 := hbp.f3; have t4 := hbp.f4
    clear hr hbp
    obtain ⟨m, pa1, pc1, pa2, pc2, pa3, pc3, pa4, pc4⟩ := r
    simp only at x1 x2 x3 x4 t1 t2 t3 t4
    subst x1 x2 x3 x4 t1 t2 t3 t4
    have hl20' : m.rs.length ≤ 20 := hl20
    clear hl20
    obtain ⟨c0, c1, c2, c3, c4, c5, c6, c7, c8⟩ := rowM HM.out.r Hr.out
    have i0 : (0 : Int) ≤ (k : Int) := by omega
    have i1 : (k : Int) < (rs.length : Int) := by omega
    obtain ⟨n, hn⟩ : ∃ n, n = (living (rs.take k)).length := ⟨_, rfl⟩
    obtain ⟨xs, hxs⟩ : ∃ xs, xs = W.flatR (living (rs.take k)) := ⟨_, rfl⟩
    have hnk : n ≤ 100 := by rw [hn, ← livK_zero rs m.rs]; exact livK_len H20.out H4.out hl20'
    rw [← hn, ← hxs] at hown
    have Ho : Hid (wr.ownsRow (w.heap.size + 1) 68 7 v0 n xs) := hown
    have Hn : Hid (n = (living (rs.take k)).length) := hn
    have Hx : Hid (xs = W.flatR (living (rs.take k))) := hxs
    clear hown hn hxs
    go_wp2_with fail
    clear c0 c1 c2 c3 c4 c5 c6 c7 c8
    refine (filterAlive (some ⟨g2, 0, none⟩) m.rs.length m.rs _ (Or.inr ⟨g2, rfl, (HLr.out.keep (bl_alloc (Below.refl _ _) _)).l2, (HLr.out.keep (bl_alloc (Below.refl _ _) _)).r2⟩) (by omega)).mono ?_
    rintro e w2 ⟨⟨v2, rfl, s2⟩, c2⟩
    obtain ⟨wo, rfl⟩ : ∃ wo : World, wo = wr := ⟨_, rfl⟩
    obtain ⟨l, hl⟩ : ∃ l, l = m.rs.filter (fun r => aliveB r.a) := ⟨_, rfl⟩
    rw [← hl] at s2
    obtain ⟨a2, p2, hs2⟩ := Sl.shape s2
    subst hs2
    have Hl : Hid (l = m.rs.filter (fun r => aliveB r.a)) := hl
    have hl20 : l.length ≤ 20 := by rw [hl]; exact Nat.le_trans (List.length_filter_le _ _) hl20'
    have D2 : Hid (Below wo.heap.size wo w2) := bl_trans (bl_alloc (Below.refl _ _) _) c2
    have S2 : Hid (Sl w2 (.slice a2 l.length p2) l wo.heap.size) := s2.low (by simp)
    have O2 : Hid (w2.ownsRow (w.heap.size + 1) 68 7 v0 n xs) := owns_below Ho.out D2.out
    have N2 : Hid (Dif (.slice a2 l.length p2) v0) := Dif.symm (dif_lt (N := wo.heap.size) (N' := wo.heap.size) (fun g hg => (Ho.out.lt g hg).2) (fun g hg => (S2.out.lt g hg).1) (Nat.le_refl _))
    have B2 : Hid (Below (w.alloc (.cells #[.int .i64 t, .slice (some ⟨b1, 0, none⟩) gs.length gs.length, .slice (some ⟨b2, 0, none⟩) ps.length ps.length, .slice (some ⟨b3, 0, none⟩) rs.length rs.length, .slice (some ⟨b4, 0, none⟩) fs.length fs.length] 30)).heap.size (w.alloc (.cells #[.int .i64 t, .slice (some ⟨b1, 0, none⟩) gs.length gs.length, .slice (some ⟨b2, 0, none⟩) ps.length ps.length, .slice (some ⟨b3, 0, none⟩) rs.length rs.length, .slice (some ⟨b4, 0, none⟩) fs.length fs.length] 30)) w2) := bl_trans HB.out D2.out
    clear s2 c2 hl HB HM HLr Ho
    go_wp2_with fail
    go_loopw [3, 22] (fun v i wx => ∃ (j : Nat), j ≤ l.length ∧ i = .int .i64 j ∧ wx.ownsRow (w.heap.size + 1) 68 7 v (n + j) (xs ++ W.flatR ((l.take j).map wantOf)) ∧ Hid (Sl wx (.slice a2 l.length p2) l wo.heap.size) ∧ Hid (Dif (.slice a2 l.length p2) v) ∧ Hid (Below (w.alloc (.cells #[.int .i64 t, .slice (some ⟨b1, 0, none⟩) gs.length gs.length, .slice (some ⟨b2, 0, none⟩) ps.length ps.length, .slice (some ⟨b3, 0, none⟩) rs.length rs.length, .slice (some ⟨b4, 0, none⟩) fs.length fs.length] 30)).heap.size (w.alloc (.cells #[.int .i64 t, .slice (some ⟨b1, 0, none⟩) gs.length gs.length, .slice (some ⟨b2, 0, none⟩) ps.length ps.length, .slice (some ⟨b3, 0, none⟩) rs.length rs.length, .slice (some ⟨b4, 0, none⟩) fs.length fs.length] 30)) wx)) (fun _ i _ => l.length - (intOf i).toNat)
    case atStart => exact ⟨0, Nat.zero_le _, rfl, by simpa [W.flatR] using O2.out, S2.out, N2.out, B2.out⟩
    case round =>
      obtain ⟨j, hj, rfl, hown, HS, HD, HB⟩ := hrel
      have zr : w.heap.size + 1 ≤ wr.heap.size := by have := HB.out.size; simpa using this
      by_cases hjl : j < l.length
      rotate_left
      · have e : j = l.length := by omega
        subst e
        rw [List.take_of_length_le (Nat.le_refl _)] at hown
        have HO : Hid (wr.ownsRow (w.heap.size + 1) 68 7 u3 (n + l.length) (xs ++ W.flatR (l.map wantOf))) := hown
        clear hown
        go_wp2_with fail
        refine ⟨⟨k + 1, by omega, by go_num, ?_, HB.out⟩, by simp [intOf]; omega⟩
        rw [living_step Hr.out]
        have e1 : livK rs m.rs k m.rs.length = living (rs.take k) ++ l.map wantOf := by unfold livK livesOf; rw [List.take_of_length_le (Nat.le_refl _), Hl.out]
        show wr.ownsRow (w.heap.size + 1) 68 7 u3 (livK rs m.rs k m.rs.length).length (W.flatR (livK rs m.rs k m.rs.length))
        rw [e1, List.length_append, List.length_map, P.flatW_append, ← Hn.out, ← Hx.out]
        exact HO.out
      obtain ⟨y, hy⟩ : ∃ y, l[j]? = some y := ⟨l[j], List.getElem?_eq_getElem hjl⟩
      have Hy : Hid (l[j]? = some y) := hy
      rcases Sl.gv HS.out with hnil | ⟨g, hg, hgz, hR⟩
      · rw [hnil] at hjl; simp at hjl
      subst hg
      obtain ⟨d0, d1, d2, d3, d4, d5, d6, d7, d8, d9, d10⟩ := hR.at hy
      simp only [Nat.zero_add] at d0 d1 d2 d3 d4 d5 d6 d7 d8 d9 d10
      obtain ⟨ys, hys⟩ : ∃ ys, ys = xs ++ W.flatR ((l.take j).map wantOf) := ⟨_, rfl⟩
      rw [← hys] at hown
      have HO : Hid (wr.ownsRow (w.heap.size + 1) 68 7 u3 (n + j) ys) := hown
      have Hys : Hid (ys = xs ++ W.flatR ((l.take j).map wantOf)) := hys
      clear hy hR hown hys
      go_wp2_with (at_builtin; refine wpList_append_own_at _ rfl _ _ 48 rfl (w.heap.size + 1) 68 iw _ 7 72 Tryz.underlying48 hiw hz0 hz1 hz2 rfl (by decide) _ (n + j) _ rfl (by exact owns_below HO.out (by repeat (first | exact Below.refl _ _ | refine bl_alloc ?_ _))) ⟨_, 0, none⟩ 1 1 (wantOf y).cells rfl rfl (W.new_cells _ _ (by simp) _ _ _ rfl) (W.cellsR_one _) (by unfold maxLen; omega) (by omega) (by simp; omega) ?_; intro v' w3 ho hg hn hat)
      refine ⟨⟨j + 1, by omega, by go_num, ?_, Sl.grown (HS.out.keep (bl_alloc (bl_alloc (Below.refl _ _) _) _)) hg HD.out, ?_, Below.grown (bl_alloc (bl_alloc HB.out _) _) hg (by simp; omega) (fun q hq => by have := owns_ge HO.out q hq; simpa using this)⟩, by simp [intOf]; omega⟩
      · have e1 : (l.take (j + 1)).map wantOf = (l.take j).map wantOf ++ [wantOf y] := by
          have he : l[j] = y := by have := Hy.out; rw [List.getElem?_eq_getElem hjl] at this; exact Option.some.inj this
          rw [List.take_succ_eq_append_getElem hjl, List.map_append, he]; rfl
        rw [e1, P.flatW_append, ← List.append_assoc, ← Hys.out]
        have e2 : W.flatR [wantOf y] = (wantOf y).cells := by simp [W.flatR]
        rw [e2]
        exact ho
      · rcases hat with h | h
        · have hd := HD.out
          unfold Dif at hd ⊢
          rw [h]; exact hd
        · refine Or.inr (fun e => ?_)
          rw [h] at e
          have := (HS.out.lt _ e).2
          simp at this
          omega
end Go.Proofs.YtdkjhonaafadjaaGreat
/- FnExactMateSafe: the law's walk. -/
namespace Go.Proofs.YtdkjhonaafadjaaGreat
open Go.RowKit
set_option linter.unusedVariables false

set_option maxRecDepth 4000 in
set_option maxHeartbeats 4000000 in
theorem lawSafe (t : Int) (gs : List G.GrantD) (ps : List P.PlaceD) (ms : List Mt.MRow) (fs : List ByteArray) (v1 v2 v3 v4 : Value) (w : World) (hi : WorldIn w gs ps ms fs v1 v2 v3 v4) :
    Calls Tryz.prog 5 #[.agg #[.int .i64 t, v1, v2, v3, v4]] w fun e w' => e = .returned (.bool true) ∧ Below w.heap.size w w' := by
  have Hi : Hid (WorldIn w gs ps ms fs v1 v2 v3 v4) := hi
  clear hi
  have C0 : Hid (Below w.heap.size w (w.alloc (.cells #[.int .i64 t, v1, v2, v3, v4] 43))) := bl_alloc (Below.refl _ _) _
  have A0 : Hid (Lx (w.alloc (.cells #[.int .i64 t, v1, v2, v3, v4] 43)) w.heap.size #[.int .i64 t, v1, v2, v3, v4]) := Lx.new _ _ _
  go_enter Tryz.func5, Tryz.ntmps5
  go_wp2_with fail
  refine (szWorld t gs ps ms fs v1 v2 v3 v4 _ (Hi.out.keep C0.out)).mono ?_
  rintro e w1 ⟨hx, c⟩
  have C1 : Hid (Below w.heap.size w w1) := bl_trans C0.out c
  have A1 : Hid (Lx w1 w.heap.size #[.int .i64 t, v1, v2, v3, v4]) := A0.out.keep c
  clear c C0 A0
  have ka := A1.out.c
  rcases hx with rfl | ⟨x, rfl, x0, hl⟩
  · go_wp2
    go_ret
    exact ⟨rfl, C1.out⟩
  have HF : Hid (WorldFit gs ps ms fs) := world_fit Hi.out hl
  have HL : Hid (WorldLen gs ps ms fs) := hl
  clear hl
  go_wp2_with fail
  refine (toWorld t gs ps ms fs v1 v2 v3 v4 _ (Hi.out.keep C1.out) HL.out).mono ?_
  rintro e w2 ⟨⟨b1, b2, b3, b4, ps1, ms1, rfl, hp1, hm1, hW⟩, c⟩
  have C2 : Hid (Below w.heap.size w w2) := bl_trans C1.out c
  have A2 : Hid (Lx w2 w.heap.size #[.int .i64 t, v1, v2, v3, v4]) := A1.out.keep c
  have P1 : Hid (P.Like ps1 ps) := hp1
  have M1 : Hid (Mt.Like ms1 ms) := hm1
  clear c ka C1 A1 hp1 hm1
  go_wp2_with fail
  refine (specSafe t gs ps1 ms1 fs b1 b2 b3 b4 _ _ hW (HF.out.like P1.out M1.out)).mono ?_
  rintro e w3 ⟨⟨q1, rfl, h1⟩, c⟩
  have H1 : Hid (q1 = true ↔ SafeOk t gs ps1 (ms1.map Mt.MRow.m) fs) := h1
  have C3 : Hid (Below w.heap.size w w3) := bl_trans C2.out c
  have A3 : Hid (Lx w3 w.heap.size #[.int .i64 t, v1, v2, v3, v4]) := A2.out.keep c
  clear c h1 hW C2 A2
  have ka := A3.out.c
  go_wp2_with fail
  refine (toWorld t gs ps ms fs v1 v2 v3 v4 _ (Hi.out.keep C3.out) HL.out).mono ?_
  rintro e w4 ⟨⟨e1, e2, e3, e4, qs, rs, rfl, hp2, hm2, hW⟩, c⟩
  have P2 : Hid (P.Like qs ps) := hp2
  have M2 : Hid (Mt.Like rs ms) := hm2
  have hb4 : Below w4.heap.size w4 (w4.alloc (.cells #[.int .i64 t, .slice (some ⟨e1, 0, none⟩) gs.length gs.length, .slice (some ⟨e2, 0, none⟩) qs.length qs.length, .slice (some ⟨e3, 0, none⟩) rs.length rs.length, .slice (some ⟨e4, 0, none⟩) fs.length fs.length] 30)) := bl_alloc (Below.refl _ _) _
  have C5 : Hid (Below w.heap.size w (w4.alloc (.cells #[.int .i64 t, .slice (some ⟨e1, 0, none⟩) gs.length gs.length, .slice (some ⟨e2, 0, none⟩) qs.length qs.length, .slice (some ⟨e3, 0, none⟩) rs.length rs.length, .slice (some ⟨e4, 0, none⟩) fs.length fs.length] 30))) := bl_trans (bl_trans C3.out c) hb4
  have A5 : Hid (Lx (w4.alloc (.cells #[.int .i64 t, .slice (some ⟨e1, 0, none⟩) gs.length gs.length, .slice (some ⟨e2, 0, none⟩) qs.length qs.length, .slice (some ⟨e3, 0, none⟩) rs.length rs.length, .slice (some ⟨e4, 0, none⟩) fs.length fs.length] 30)) w.heap.size #[.int .i64 t, v1, v2, v3, v4]) := (A3.out.keep c).keep hb4
  have X5 : Hid (Lx (w4.alloc (.cells #[.int .i64 t, .slice (some ⟨e1, 0, none⟩) gs.length gs.length, .slice (some ⟨e2, 0, none⟩) qs.length qs.length, .slice (some ⟨e3, 0, none⟩) rs.length rs.length, .slice (some ⟨e4, 0, none⟩) fs.length fs.length] 30)) w4.heap.size #[.int .i64 t, .slice (some ⟨e1, 0, none⟩) gs.length gs.length, .slice (some ⟨e2, 0, none⟩) qs.length qs.length, .slice (some ⟨e3, 0, none⟩) rs.length rs.length, .slice (some ⟨e4, 0, none⟩) fs.length fs.length]) := Lx.new _ _ _
  have W5 : Hid (WorldAt (w4.alloc (.cells #[.int .i64 t, .slice (some ⟨e1, 0, none⟩) gs.length gs.length, .slice (some ⟨e2, 0, none⟩) qs.length qs.length, .slice (some ⟨e3, 0, none⟩) rs.length rs.length, .slice (some ⟨e4, 0, none⟩) fs.length fs.length] 30)) gs qs rs fs e1 e2 e3 e4 w3.heap.size) := hW.keep hb4
  clear c ka hp2 hm2 hW hb4 C3 A3
  go_wp2_with fail
  refine (implSafe t gs qs rs fs e1 e2 e3 e4 _ _ W5.out (HF.out.like P2.out M2.out)).mono ?_
  rintro e w5 ⟨⟨q2, rfl, h2⟩, c⟩
  obtain rfl : q2 = q1 := by
    have e1 : ms1.map Mt.MRow.m = rs.map Mt.MRow.m := M1.out.trans M2.out.symm
    have h1 := H1.out
    have hlk : (SafeOk t gs ps1 (ms1.map Mt.MRow.m) fs) ↔ (SafeOk t gs qs (rs.map Mt.MRow.m) fs) := by rw [e1]; unfold SafeOk; rw [SaysWd.like (q := true) (P1.out.trans P2.out.symm)]
    have : q1 = true ↔ q2 = true := h1.trans (hlk.trans (Iff.symm h2))
    cases q1 <;> cases q2 <;> simp_all
  clear H1 h2
  have C6 : Hid (Below w.heap.size w w5) := bl_trans C5.out c
  have A6 : Hid (Lx w5 w.heap.size #[.int .i64 t, v1, v2, v3, v4]) := A5.out.keep c
  have X6 : Hid (Lx w5 w4.heap.size #[.int .i64 t, .slice (some ⟨e1, 0, none⟩) gs.length gs.length, .slice (some ⟨e2, 0, none⟩) qs.length qs.length, .slice (some ⟨e3, 0, none⟩) rs.length rs.length, .slice (some ⟨e4, 0, none⟩) fs.length fs.length]) := X5.out.keep c
  have W6 : Hid (WorldAt w5 gs qs rs fs e1 e2 e3 e4 w3.heap.size) := W5.out.keep c
  clear c C5 A5 X5 W5
  cases q2
  · go_wp2_with fail
    refine wp_region_noPanic ?_
    refine wp_region_held_drew (S := (fun y => Below w5.heap.size w5 y ∧ (y.cell? ⟨w.heap.size, 0, none⟩ = some (.int .i64 t) ∧ y.cell? ⟨w.heap.size, 1, none⟩ = some (v1) ∧ y.cell? ⟨w.heap.size, 2, none⟩ = some (v2) ∧ y.cell? ⟨w.heap.size, 3, none⟩ = some (v3) ∧ y.cell? ⟨w.heap.size, 4, none⟩ = some (v4) ∧ y.cell? ⟨w4.heap.size, 0, none⟩ = some (.int .i64 t) ∧ y.cell? ⟨w4.heap.size, 1, none⟩ = some (.slice (some ⟨e1, 0, none⟩) gs.length gs.length) ∧ y.cell? ⟨w4.heap.size, 2, none⟩ = some (.slice (some ⟨e2, 0, none⟩) qs.length qs.length) ∧ y.cell? ⟨w4.heap.size, 3, none⟩ = some (.slice (some ⟨e3, 0, none⟩) rs.length rs.length) ∧ y.cell? ⟨w4.heap.size, 4, none⟩ = some (.slice (some ⟨e4, 0, none⟩) fs.length fs.length)))) (by kernel_rfl) (kWX A6.out X6.out (bl_drew (Below.refl _ _))) (fun hHeld => ?_)
    refine wpAnyH_take (i := 0) (v := ?vx7) rfl (by kernel_rfl) (by kernel_rfl) (by kernel_rfl) (fun _ _ _ h => h) (Or.inl ⟨by rfl, ?hx7⟩) (by assumption) ?rx7
    case hx7 => (intro w hSw; (try dsimp only at hSw); go_simp; try (with_reducible rfl))
    try simp only [Act.put, List.setIfInBounds_toArray, List.set_cons_zero, List.set_cons_succ, List.getElem_toArray, List.getElem_cons_zero]
    refine wpAnyH_take (i := 1) (v := ?vx8) rfl (by kernel_rfl) (by kernel_rfl) (by kernel_rfl) (fun _ _ _ h => h) (Or.inl ⟨by rfl, ?hx8⟩) (by assumption) ?rx8
    case hx8 => (intro w hSw; (try dsimp only at hSw); go_simp; try (with_reducible rfl))
    try simp only [Act.put, List.setIfInBounds_toArray, List.set_cons_zero, List.set_cons_succ, List.getElem_toArray, List.getElem_cons_zero, List.getElem_cons_succ]
    refine wpAnyH_ready (rs := [2]) (by kernel_rfl) (by simp) ?_
    refine AllReadyH.cons rfl (fun K hK => ?_) AllReadyH.nil
    go_simp
    refine (toWorld t gs ps ms fs v1 v2 v3 v4 _ (Hi.out.keep (bl_trans C6.out (bl_drew (Below.refl _ _)))) HL.out).mono ?_
    rintro e z1 ⟨⟨f1, f2, f3, f4, ps3, ms3, rfl, hp3, hm3, hW⟩, d1⟩
    go_wp2_with fail
    refine hK.out _ _ (kWX A6.out X6.out (bl_trans (bl_drew (Below.refl _ _)) d1)) (fun hHeld1 => ?_)
    clear hK K hHeld
    try simp only [Act.put, List.setIfInBounds_toArray, List.set_cons_zero, List.set_cons_succ, List.getElem_toArray, List.getElem_cons_zero, List.getElem_cons_succ]
    refine wpAnyH_ready (rs := [3]) (by kernel_rfl) (by simp) ?_
    refine AllReadyH.cons rfl (fun K hK => ?_) AllReadyH.nil
    go_simp
    refine (eqWorld t gs qs ps3 rs ms3 fs e1 e2 e3 e4 f1 f2 f3 f4 _ _ _ (W6.out.keep (bl_trans (bl_drew (Below.refl _ _)) d1)) hW (P2.out.trans hp3.symm) (M2.out.trans hm3.symm) (world_len (HF.out.like P2.out M2.out)) (HF.out.like P2.out M2.out).m).mono ?_
    rintro e z2 ⟨rfl, d2⟩
    go_wp2_with fail
    refine hK.out _ _ (kWX A6.out X6.out (bl_trans (bl_trans (bl_drew (Below.refl _ _)) d1) d2)) (fun hHeld2 => ?_)
    clear hK K hHeld1
    try simp only [Act.put, List.setIfInBounds_toArray, List.set_cons_zero, List.set_cons_succ, List.getElem_toArray, List.getElem_cons_zero, List.getElem_cons_succ]
    refine wpAnyH_take (i := 4) (v := ?vx9) rfl (by kernel_rfl) (by kernel_rfl) (by kernel_rfl) (fun _ _ _ h => h) (Or.inl ⟨by rfl, ?hx9⟩) (by assumption) ?rx9
    case hx9 => (intro w hSw; (try dsimp only at hSw); go_simp; try (with_reducible rfl))
    try simp only [Act.put, List.setIfInBounds_toArray, List.set_cons_zero, List.set_cons_succ, List.getElem_toArray, List.getElem_cons_zero, List.getElem_cons_succ]
    refine wpAnyH_done (by kernel_rfl) ?_ _
    refine NoPanic.normal ?_
    have C7 : Hid (Below w.heap.size w z2) := bl_trans C6.out (bl_trans (bl_trans (bl_drew (Below.refl _ _)) d1) d2)
    clear d1 d2 hW hp3 hm3 hHeld2
    go_wp2
    go_ret
    exact ⟨rfl, C7.out⟩
  · go_wp2_with fail
    refine wp_region_noPanic ?_
    refine wp_region_held_drew (S := (fun y => Below w5.heap.size w5 y ∧ (y.cell? ⟨w.heap.size, 0, none⟩ = some (.int .i64 t) ∧ y.cell? ⟨w.heap.size, 1, none⟩ = some (v1) ∧ y.cell? ⟨w.heap.size, 2, none⟩ = some (v2) ∧ y.cell? ⟨w.heap.size, 3, none⟩ = some (v3) ∧ y.cell? ⟨w.heap.size, 4, none⟩ = some (v4) ∧ y.cell? ⟨w4.heap.size, 0, none⟩ = some (.int .i64 t) ∧ y.cell? ⟨w4.heap.size, 1, none⟩ = some (.slice (some ⟨e1, 0, none⟩) gs.length gs.length) ∧ y.cell? ⟨w4.heap.size, 2, none⟩ = some (.slice (some ⟨e2, 0, none⟩) qs.length qs.length) ∧ y.cell? ⟨w4.heap.size, 3, none⟩ = some (.slice (some ⟨e3, 0, none⟩) rs.length rs.length) ∧ y.cell? ⟨w4.heap.size, 4, none⟩ = some (.slice (some ⟨e4, 0, none⟩) fs.length fs.length)))) (by kernel_rfl) (kWX A6.out X6.out (bl_drew (Below.refl _ _))) (fun hHeld => ?_)
    refine wpAnyH_take (i := 0) (v := ?vx10) rfl (by kernel_rfl) (by kernel_rfl) (by kernel_rfl) (fun _ _ _ h => h) (Or.inl ⟨by rfl, ?hx10⟩) (by assumption) ?rx10
    case hx10 => (intro w hSw; (try dsimp only at hSw); go_simp; try (with_reducible rfl))
    try simp only [Act.put, List.setIfInBounds_toArray, List.set_cons_zero, List.set_cons_succ, List.getElem_toArray, List.getElem_cons_zero]
    refine wpAnyH_take (i := 1) (v := ?vx11) rfl (by kernel_rfl) (by kernel_rfl) (by kernel_rfl) (fun _ _ _ h => h) (Or.inl ⟨by rfl, ?hx11⟩) (by assumption) ?rx11
    case hx11 => (intro w hSw; (try dsimp only at hSw); go_simp; try (with_reducible rfl))
    try simp only [Act.put, List.setIfInBounds_toArray, List.set_cons_zero, List.set_cons_succ, List.getElem_toArray, List.getElem_cons_zero, List.getElem_cons_succ]
    refine wpAnyH_ready (rs := [2]) (by kernel_rfl) (by simp) ?_
    refine AllReadyH.cons rfl (fun K hK => ?_) AllReadyH.nil
    go_simp
    refine (toWorld t gs ps ms fs v1 v2 v3 v4 _ (Hi.out.keep (bl_trans C6.out (bl_drew (Below.refl _ _)))) HL.out).mono ?_
    rintro e z1 ⟨⟨f1, f2, f3, f4, ps3, ms3, rfl, hp3, hm3, hW⟩, d1⟩
    go_wp2_with fail
    refine hK.out _ _ (kWX A6.out X6.out (bl_trans (bl_drew (Below.refl _ _)) d1)) (fun hHeld1 => ?_)
    clear hK K hHeld
    try simp only [Act.put, List.setIfInBounds_toArray, List.set_cons_zero, List.set_cons_succ, List.getElem_toArray, List.getElem_cons_zero, List.getElem_cons_succ]
    refine wpAnyH_ready (rs := [3]) (by kernel_rfl) (by simp) ?_
    refine AllReadyH.cons rfl (fun K hK => ?_) AllReadyH.nil
    go_simp
    refine (eqWorld t gs qs ps3 rs ms3 fs e1 e2 e3 e4 f1 f2 f3 f4 _ _ _ (W6.out.keep (bl_trans (bl_drew (Below.refl _ _)) d1)) hW (P2.out.trans hp3.symm) (M2.out.trans hm3.symm) (world_len (HF.out.like P2.out M2.out)) (HF.out.like P2.out M2.out).m).mono ?_
    rintro e z2 ⟨rfl, d2⟩
    go_wp2_with fail
    refine hK.out _ _ (kWX A6.out X6.out (bl_trans (bl_trans (bl_drew (Below.refl _ _)) d1) d2)) (fun hHeld2 => ?_)
    clear hK K hHeld1
    try simp only [Act.put, List.setIfInBounds_toArray, List.set_cons_zero, List.set_cons_succ, List.getElem_toArray, List.getElem_cons_zero, List.getElem_cons_succ]
    refine wpAnyH_take (i := 4) (v := ?vx12) rfl (by kernel_rfl) (by kernel_rfl) (by kernel_rfl) (fun _ _ _ h => h) (Or.inl ⟨by rfl, ?hx12⟩) (by assumption) ?rx12
    case hx12 => (intro w hSw; (try dsimp only at hSw); go_simp; try (with_reducible rfl))
    try simp only [Act.put, List.setIfInBounds_toArray, List.set_cons_zero, List.set_cons_succ, List.getElem_toArray, List.getElem_cons_zero, List.getElem_cons_succ]
    refine wpAnyH_done (by kernel_rfl) ?_ _
    refine NoPanic.normal ?_
    have C7 : Hid (Below w.heap.size w z2) := bl_trans C6.out (bl_trans (bl_trans (bl_drew (Below.refl _ _)) d1) d2)
    clear d1 d2 hW hp3 hm3 hHeld2
    go_wp2
    go_ret
    exact ⟨rfl, C7.out⟩
end Go.Proofs.YtdkjhonaafadjaaGreat
