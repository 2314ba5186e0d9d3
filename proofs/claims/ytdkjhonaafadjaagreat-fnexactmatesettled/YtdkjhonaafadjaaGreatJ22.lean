import Derived.Test.YtdkjhonaafadjaaGreatJ16
import Derived.Test.YtdkjhonaafadjaaGreatJ21
import Derived.Laws.EntriesVeiled
import Derived.Test.YtdkjhonaafadjaaGreatJ17
/- MateWorldOk: the program's side. -/
namespace Go.Proofs.YtdkjhonaafadjaaGreat
open Go.RowKit
set_option linter.unusedVariables false

theorem landOk_any (t : Int) (gs : List G.GrantD) (ps : List P.PlaceD) (rs : List Mt.MRow) (fs : List ByteArray) (b1 b2 b3 b4 B : Nat) (w : World) (hA : WorldAt w gs ps rs fs b1 b2 b3 b4 B) (hF : WorldFit gs ps rs fs) :
    Calls Tryz.prog 40 #[.agg #[.int .i64 t, .slice (some ⟨b1, 0, none⟩) gs.length gs.length, .slice (some ⟨b2, 0, none⟩) ps.length ps.length, .slice (some ⟨b3, 0, none⟩) rs.length rs.length, .slice (some ⟨b4, 0, none⟩) fs.length fs.length]] w fun e w' => (∃ q : Bool, e = .returned (.bool q) ∧ (q = true ↔ P.LandSay t gs ps)) ∧ Below w.heap.size w w' := by
  have Hb0 : Hid (Below w.heap.size w (w.alloc (.cells #[.int .i64 t, .slice (some ⟨b1, 0, none⟩) gs.length gs.length, .slice (some ⟨b2, 0, none⟩) ps.length ps.length, .slice (some ⟨b3, 0, none⟩) rs.length rs.length, .slice (some ⟨b4, 0, none⟩) fs.length fs.length] 30))) := bl_alloc (Below.refl _ _) _
  have HA : Hid (WorldAt (w.alloc (.cells #[.int .i64 t, .slice (some ⟨b1, 0, none⟩) gs.length gs.length, .slice (some ⟨b2, 0, none⟩) ps.length ps.length, .slice (some ⟨b3, 0, none⟩) rs.length rs.length, .slice (some ⟨b4, 0, none⟩) fs.length fs.length] 30)) gs ps rs fs b1 b2 b3 b4 B) := hA.keep Hb0.out
  have HF : Hid (WorldFit gs ps rs fs) := hF
  clear hA hF
  go_enter Tryz.func40, Tryz.ntmps40
  go_wp2_with fail
  refine (P.implLandOk t gs ps b1 b2 _ HA.out.a.a HF.out.f).mono ?_
  rintro e w1 ⟨⟨q, rfl, h⟩, c1⟩
  have H1 : Hid (P.SaysL q t gs ps) := h
  have C1 : Hid (Below (w.alloc (.cells #[.int .i64 t, .slice (some ⟨b1, 0, none⟩) gs.length gs.length, .slice (some ⟨b2, 0, none⟩) ps.length ps.length, .slice (some ⟨b3, 0, none⟩) rs.length rs.length, .slice (some ⟨b4, 0, none⟩) fs.length fs.length] 30)).heap.size (w.alloc (.cells #[.int .i64 t, .slice (some ⟨b1, 0, none⟩) gs.length gs.length, .slice (some ⟨b2, 0, none⟩) ps.length ps.length, .slice (some ⟨b3, 0, none⟩) rs.length rs.length, .slice (some ⟨b4, 0, none⟩) fs.length fs.length] 30)) w1) := c1
  clear h c1
  go_wp2
  go_ret
  exact ⟨⟨q, rfl, H1.out⟩, bl_trans Hb0.out C1.out⟩
theorem flightOk_any (t : Int) (gs : List G.GrantD) (ps : List P.PlaceD) (rs : List Mt.MRow) (fs : List ByteArray) (b1 b2 b3 b4 B : Nat) (w : World) (hA : WorldAt w gs ps rs fs b1 b2 b3 b4 B) (hF : WorldFit gs ps rs fs) :
    Calls Tryz.prog 42 #[.agg #[.int .i64 t, .slice (some ⟨b1, 0, none⟩) gs.length gs.length, .slice (some ⟨b2, 0, none⟩) ps.length ps.length, .slice (some ⟨b3, 0, none⟩) rs.length rs.length, .slice (some ⟨b4, 0, none⟩) fs.length fs.length]] w fun e w' => (∃ q : Bool, e = .returned (.bool q) ∧ (q = true ↔ fs.length ≤ 300)) ∧ Below w.heap.size w w' := by
  have h4 := hF.l4
  clear hA hF
  by_cases h : fs.length ≤ 300
  · have h' : (fs.length : Int) ≤ 300 := by omega
    go_enter Tryz.func42, Tryz.ntmps42
    go_wp2
    go_ret
    exact ⟨⟨true, rfl, ⟨fun _ => h, fun _ => rfl⟩⟩, bl_alloc (Below.refl _ _) _⟩
  · have h' : ((fs.length : Int) ≤ 300) = False := by simp; omega
    go_enter Tryz.func42, Tryz.ntmps42
    go_wp2
    go_ret
    exact ⟨⟨false, rfl, ⟨fun h' => (by cases h'), fun h' => (h h').elim⟩⟩, bl_alloc (Below.refl _ _) _⟩
open Classical in
noncomputable def validB (r : Mt.MRow) : Bool := decide (Valid r.m)
theorem validB_iff {r : Mt.MRow} : validB r = true ↔ Valid r.m := by unfold validB; simp
theorem implValid_b {B : Nat} (r : Mt.MRow) (w : World) (hb : ∃ g1 g2 g3 g4, r.blk B w g1 g2 g3 g4) (hf : r.m.fits) :
    Calls Tryz.prog 84 #[.agg #[.string r.m.nm, .bool r.m.up, .int .i64 r.m.ck, .bool r.m.kn, .int .i64 r.m.se, .slice r.a1 r.m.ws.length r.c1, .slice r.a2 r.m.rs.length r.c2, .slice r.a3 r.m.qs.length r.c3, .slice r.a4 r.m.gs.length r.c4]] w fun e w' => e = .returned (.bool (validB r)) ∧ Below w.heap.size w w' := by
  obtain ⟨g1, g2, g3, g4, h⟩ := hb
  have x1 := h.e1; have x2 := h.e2; have x3 := h.e3; have x4 := h.e4
  have t1 := h.f1; have t2 := h.f2; have t3 := h.f3; have t4 := h.f4
  rw [x1, x2, x3, x4, t1, t2, t3, t4]
  refine (implValid r.m g1 g2 g3 g4 w h.l hf).mono ?_
  rintro e w' ⟨⟨q, rfl, hq⟩, hb⟩
  refine ⟨?_, hb⟩
  have : q = validB r := by
    cases q
    · cases hv : validB r
      · rfl
      · have := hq.2 (validB_iff.1 hv); cases this
    · exact (validB_iff.2 (hq.1 rfl)).symm
  rw [this]

set_option maxRecDepth 4000 in
set_option maxHeartbeats 2000000 in
theorem matesOk_any (t : Int) (gs : List G.GrantD) (ps : List P.PlaceD) (rs : List Mt.MRow) (fs : List ByteArray) (b1 b2 b3 b4 B : Nat) (w : World) (hA : WorldAt w gs ps rs fs b1 b2 b3 b4 B) (hF : WorldFit gs ps rs fs) :
    Calls Tryz.prog 41 #[.agg #[.int .i64 t, .slice (some ⟨b1, 0, none⟩) gs.length gs.length, .slice (some ⟨b2, 0, none⟩) ps.length ps.length, .slice (some ⟨b3, 0, none⟩) rs.length rs.length, .slice (some ⟨b4, 0, none⟩) fs.length fs.length]] w fun e w' => (∃ q : Bool, e = .returned (.bool q) ∧ (q = true ↔ (1 ≤ rs.length ∧ rs.length ≤ 4) ∧ MatesSay (rs.map Mt.MRow.m))) ∧ Below w.heap.size w w' := by
  have Hb0 : Hid (Below w.heap.size w (w.alloc (.cells #[.int .i64 t, .slice (some ⟨b1, 0, none⟩) gs.length gs.length, .slice (some ⟨b2, 0, none⟩) ps.length ps.length, .slice (some ⟨b3, 0, none⟩) rs.length rs.length, .slice (some ⟨b4, 0, none⟩) fs.length fs.length] 30))) := bl_alloc (Below.refl _ _) _
  have HA : Hid (WorldAt (w.alloc (.cells #[.int .i64 t, .slice (some ⟨b1, 0, none⟩) gs.length gs.length, .slice (some ⟨b2, 0, none⟩) ps.length ps.length, .slice (some ⟨b3, 0, none⟩) rs.length rs.length, .slice (some ⟨b4, 0, none⟩) fs.length fs.length] 30)) gs ps rs fs b1 b2 b3 b4 B) := hA.keep Hb0.out
  have HF : Hid (WorldFit gs ps rs fs) := hF
  have hl3 := hF.l3
  clear hA hF
  cases hin : inB (rs.length : Int) 1 4
  · go_enter Tryz.func41, Tryz.ntmps41
    go_wp2_with (go_at_call 81; refine (within_any _ _ _ _).mono ?_; rintro e w' ⟨rfl, hw⟩; have hw2 := hw.symm; subst hw2; clear hw)
    go_ret
    exact ⟨⟨false, rfl, ⟨fun h' => (by cases h'), fun h => by rw [inB_len.2 h.1] at hin; cases hin⟩⟩, Hb0.out⟩
  have G2 : Hid (1 ≤ rs.length ∧ rs.length ≤ 4) := inB_len.1 hin
  go_enter Tryz.func41, Tryz.ntmps41
  go_wp2_with (go_at_call 81; refine (within_any _ _ _ _).mono ?_; rintro e w' ⟨rfl, hw⟩; have hw2 := hw.symm; subst hw2; clear hw)
  refine (Mt.ascends b3 0 _ rs _ HA.out.m.r HA.out.m.l hl3).mono ?_
  rintro e w1 ⟨⟨q, rfl, h⟩, c1⟩
  have H1 : Hid (q = true ↔ Mt.AscN rs rs.length) := h
  have C1 : Hid (Below (w.alloc (.cells #[.int .i64 t, .slice (some ⟨b1, 0, none⟩) gs.length gs.length, .slice (some ⟨b2, 0, none⟩) ps.length ps.length, .slice (some ⟨b3, 0, none⟩) rs.length rs.length, .slice (some ⟨b4, 0, none⟩) fs.length fs.length] 30)).heap.size (w.alloc (.cells #[.int .i64 t, .slice (some ⟨b1, 0, none⟩) gs.length gs.length, .slice (some ⟨b2, 0, none⟩) ps.length ps.length, .slice (some ⟨b3, 0, none⟩) rs.length rs.length, .slice (some ⟨b4, 0, none⟩) fs.length fs.length] 30)) w1) := c1
  have kb := wd_box c1
  have HM : Hid (MatesOwn w1 rs b3 B) := HA.out.m.keep c1
  clear h c1
  cases q
  · go_wp2_with fail
    go_ret
    exact ⟨⟨false, rfl, ⟨fun h' => (by cases h'), fun h => by have := H1.out.2 (ascN_iff.2 h.2.1); cases this⟩⟩, bl_trans Hb0.out C1.out⟩
  have G1 : Hid (AscM (rs.map Mt.MRow.m)) := ascN_iff.1 (H1.out.1 rfl)
  clear H1
  go_wp2_with fail
  refine (Mt.allOk validB b3 0 _ rs _ HM.out.r HM.out.l hl3 (fun r hr x hx => implValid_b (B := B) r x ((HM.out.keep hx).k r hr) (HF.out.m r hr))).mono ?_
  rintro e w2 ⟨⟨q, rfl, h⟩, c2⟩
  have H2 : Hid (q = true ↔ ∀ r ∈ rs, validB r = true) := h
  have C2 : Hid (Below w.heap.size w w2) := bl_trans Hb0.out (bl_trans C1.out c2)
  clear h c2 kb
  have H3 : Hid (q = true ↔ (1 ≤ rs.length ∧ rs.length ≤ 4) ∧ MatesSay (rs.map Mt.MRow.m)) := by
    refine H2.out.trans ⟨fun h => ⟨G2.out, G1.out, fun m hm => ?_⟩, fun h r hr => validB_iff.2 (h.2.2 r.m (List.mem_map_of_mem hr))⟩
    obtain ⟨r, hr, rfl⟩ := List.mem_map.1 hm
    exact validB_iff.1 (h r hr)
  clear H2
  go_wp2
  go_ret
  exact ⟨⟨q, rfl, H3.out⟩, C2.out⟩

theorem build_world (w : World) : Sem.run Tryz.prog (Instr.buildSlice 66 3 #[(0, .func (.func 40) #[] #[]), (1, .func (.func 41) #[] #[]), (2, .func (.func 42) #[] #[])]) w = .ok (.slice (some ⟨w.heap.size, 0, none⟩) 3 3) (w.alloc (.cells #[.func (.func 40) #[] #[], .func (.func 41) #[] #[], .func (.func 42) #[] #[]] 45)) := by kernel_rfl
theorem three_world {w w' : World} {t : Int} {gs : List G.GrantD} {ps : List P.PlaceD} {rs : List Mt.MRow} {fs : List ByteArray} {b1 b2 b3 b4 : Nat} (hb : Below (((w.alloc (.cells #[.int .i64 t, .slice (some ⟨b1, 0, none⟩) gs.length gs.length, .slice (some ⟨b2, 0, none⟩) ps.length ps.length, .slice (some ⟨b3, 0, none⟩) rs.length rs.length, .slice (some ⟨b4, 0, none⟩) fs.length fs.length] 30)).alloc (.cells #[.func (.func 40) #[] #[], .func (.func 41) #[] #[], .func (.func 42) #[] #[]] 45)).alloc (.cells #[.int .i64 t, .slice (some ⟨b1, 0, none⟩) gs.length gs.length, .slice (some ⟨b2, 0, none⟩) ps.length ps.length, .slice (some ⟨b3, 0, none⟩) rs.length rs.length, .slice (some ⟨b4, 0, none⟩) fs.length fs.length] 30)).heap.size (((w.alloc (.cells #[.int .i64 t, .slice (some ⟨b1, 0, none⟩) gs.length gs.length, .slice (some ⟨b2, 0, none⟩) ps.length ps.length, .slice (some ⟨b3, 0, none⟩) rs.length rs.length, .slice (some ⟨b4, 0, none⟩) fs.length fs.length] 30)).alloc (.cells #[.func (.func 40) #[] #[], .func (.func 41) #[] #[], .func (.func 42) #[] #[]] 45)).alloc (.cells #[.int .i64 t, .slice (some ⟨b1, 0, none⟩) gs.length gs.length, .slice (some ⟨b2, 0, none⟩) ps.length ps.length, .slice (some ⟨b3, 0, none⟩) rs.length rs.length, .slice (some ⟨b4, 0, none⟩) fs.length fs.length] 30)) w') :
    (∀ k, w'.cell? ⟨w.heap.size + 1, k, none⟩ = (#[.func (.func 40) #[] #[], .func (.func 41) #[] #[], .func (.func 42) #[] #[]] : Array Value)[k]?) ∧ (∀ k, w'.cell? ⟨w.heap.size + 1 + 1, k, none⟩ = (#[.int .i64 t, .slice (some ⟨b1, 0, none⟩) gs.length gs.length, .slice (some ⟨b2, 0, none⟩) ps.length ps.length, .slice (some ⟨b3, 0, none⟩) rs.length rs.length, .slice (some ⟨b4, 0, none⟩) fs.length fs.length] : Array Value)[k]?) := by
  constructor
  · intro k
    rw [hb.cell (p := ⟨w.heap.size + 1, k, none⟩) (by simp)]
    simp [go_sem, World.cell?_alloc_past]
  · intro k
    rw [hb.cell (p := ⟨w.heap.size + 1 + 1, k, none⟩) (by simp)]
    simp [go_sem]

set_option maxRecDepth 4000 in
set_option maxHeartbeats 2000000 in
theorem implWorldOk (t : Int) (gs : List G.GrantD) (ps : List P.PlaceD) (rs : List Mt.MRow) (fs : List ByteArray) (b1 b2 b3 b4 B : Nat) (w : World) (hA : WorldAt w gs ps rs fs b1 b2 b3 b4 B) (hF : WorldFit gs ps rs fs) :
    Calls Tryz.prog 19 #[.agg #[.int .i64 t, .slice (some ⟨b1, 0, none⟩) gs.length gs.length, .slice (some ⟨b2, 0, none⟩) ps.length ps.length, .slice (some ⟨b3, 0, none⟩) rs.length rs.length, .slice (some ⟨b4, 0, none⟩) fs.length fs.length]] w fun e w' => (∃ q : Bool, e = .returned (.bool q) ∧ SaysWd q t gs ps (rs.map Mt.MRow.m) fs) ∧ Below w.heap.size w w' := by
  have Hx0 : Hid (Below w.heap.size w (((w.alloc (.cells #[.int .i64 t, .slice (some ⟨b1, 0, none⟩) gs.length gs.length, .slice (some ⟨b2, 0, none⟩) ps.length ps.length, .slice (some ⟨b3, 0, none⟩) rs.length rs.length, .slice (some ⟨b4, 0, none⟩) fs.length fs.length] 30)).alloc (.cells #[.func (.func 40) #[] #[], .func (.func 41) #[] #[], .func (.func 42) #[] #[]] 45)).alloc (.cells #[.int .i64 t, .slice (some ⟨b1, 0, none⟩) gs.length gs.length, .slice (some ⟨b2, 0, none⟩) ps.length ps.length, .slice (some ⟨b3, 0, none⟩) rs.length rs.length, .slice (some ⟨b4, 0, none⟩) fs.length fs.length] 30))) := bl_alloc (bl_alloc (bl_alloc (Below.refl _ _) _) _) _
  have HA0 : Hid (WorldAt (((w.alloc (.cells #[.int .i64 t, .slice (some ⟨b1, 0, none⟩) gs.length gs.length, .slice (some ⟨b2, 0, none⟩) ps.length ps.length, .slice (some ⟨b3, 0, none⟩) rs.length rs.length, .slice (some ⟨b4, 0, none⟩) fs.length fs.length] 30)).alloc (.cells #[.func (.func 40) #[] #[], .func (.func 41) #[] #[], .func (.func 42) #[] #[]] 45)).alloc (.cells #[.int .i64 t, .slice (some ⟨b1, 0, none⟩) gs.length gs.length, .slice (some ⟨b2, 0, none⟩) ps.length ps.length, .slice (some ⟨b3, 0, none⟩) rs.length rs.length, .slice (some ⟨b4, 0, none⟩) fs.length fs.length] 30)) gs ps rs fs b1 b2 b3 b4 B) := hA.keep Hx0.out
  have HF : Hid (WorldFit gs ps rs fs) := hF
  clear hA hF
  have hbv := build_world
  go_enter Tryz.func19, Tryz.ntmps19
  go_wp2_with go_in
  clear hbv
  refine wp_loop_rounds 4 ?_
  rw [rounds_succ]
  go_wp2_with fail
  refine (landOk_any t gs ps rs fs b1 b2 b3 b4 B _ HA0.out HF.out).mono ?_
  rintro e w1 ⟨⟨q1, rfl, h1⟩, c1⟩
  have H1 : Hid (q1 = true ↔ P.LandSay t gs ps) := h1
  have C1 : Hid (Below (((w.alloc (.cells #[.int .i64 t, .slice (some ⟨b1, 0, none⟩) gs.length gs.length, .slice (some ⟨b2, 0, none⟩) ps.length ps.length, .slice (some ⟨b3, 0, none⟩) rs.length rs.length, .slice (some ⟨b4, 0, none⟩) fs.length fs.length] 30)).alloc (.cells #[.func (.func 40) #[] #[], .func (.func 41) #[] #[], .func (.func 42) #[] #[]] 45)).alloc (.cells #[.int .i64 t, .slice (some ⟨b1, 0, none⟩) gs.length gs.length, .slice (some ⟨b2, 0, none⟩) ps.length ps.length, .slice (some ⟨b3, 0, none⟩) rs.length rs.length, .slice (some ⟨b4, 0, none⟩) fs.length fs.length] 30)).heap.size (((w.alloc (.cells #[.int .i64 t, .slice (some ⟨b1, 0, none⟩) gs.length gs.length, .slice (some ⟨b2, 0, none⟩) ps.length ps.length, .slice (some ⟨b3, 0, none⟩) rs.length rs.length, .slice (some ⟨b4, 0, none⟩) fs.length fs.length] 30)).alloc (.cells #[.func (.func 40) #[] #[], .func (.func 41) #[] #[], .func (.func 42) #[] #[]] 45)).alloc (.cells #[.int .i64 t, .slice (some ⟨b1, 0, none⟩) gs.length gs.length, .slice (some ⟨b2, 0, none⟩) ps.length ps.length, .slice (some ⟨b3, 0, none⟩) rs.length rs.length, .slice (some ⟨b4, 0, none⟩) fs.length fs.length] 30)) w1) := c1
  clear h1 c1
  obtain ⟨kf1, km1⟩ := three_world C1.out
  cases q1
  · go_wp2
    go_ret
    exact ⟨⟨false, rfl, saysWd_no (fun h => by have := H1.out.2 h.1; cases this)⟩, bl_trans Hx0.out C1.out⟩
  have G1 : Hid (P.LandSay t gs ps) := H1.out.1 rfl
  clear H1
  have HA1 : Hid (WorldAt w1 gs ps rs fs b1 b2 b3 b4 B) := HA0.out.keep C1.out
  go_wp2_with fail
  rw [rounds_succ]
  go_wp2_with fail
  refine (matesOk_any t gs ps rs fs b1 b2 b3 b4 B _ HA1.out HF.out).mono ?_
  rintro e w2 ⟨⟨q2, rfl, h2⟩, c2⟩
  have H2 : Hid (q2 = true ↔ (1 ≤ rs.length ∧ rs.length ≤ 4) ∧ MatesSay (rs.map Mt.MRow.m)) := h2
  have C2 : Hid (Below (((w.alloc (.cells #[.int .i64 t, .slice (some ⟨b1, 0, none⟩) gs.length gs.length, .slice (some ⟨b2, 0, none⟩) ps.length ps.length, .slice (some ⟨b3, 0, none⟩) rs.length rs.length, .slice (some ⟨b4, 0, none⟩) fs.length fs.length] 30)).alloc (.cells #[.func (.func 40) #[] #[], .func (.func 41) #[] #[], .func (.func 42) #[] #[]] 45)).alloc (.cells #[.int .i64 t, .slice (some ⟨b1, 0, none⟩) gs.length gs.length, .slice (some ⟨b2, 0, none⟩) ps.length ps.length, .slice (some ⟨b3, 0, none⟩) rs.length rs.length, .slice (some ⟨b4, 0, none⟩) fs.length fs.length] 30)).heap.size (((w.alloc (.cells #[.int .i64 t, .slice (some ⟨b1, 0, none⟩) gs.length gs.length, .slice (some ⟨b2, 0, none⟩) ps.length ps.length, .slice (some ⟨b3, 0, none⟩) rs.length rs.length, .slice (some ⟨b4, 0, none⟩) fs.length fs.length] 30)).alloc (.cells #[.func (.func 40) #[] #[], .func (.func 41) #[] #[], .func (.func 42) #[] #[]] 45)).alloc (.cells #[.int .i64 t, .slice (some ⟨b1, 0, none⟩) gs.length gs.length, .slice (some ⟨b2, 0, none⟩) ps.length ps.length, .slice (some ⟨b3, 0, none⟩) rs.length rs.length, .slice (some ⟨b4, 0, none⟩) fs.length fs.length] 30)) w2) := bl_trans C1.out c2
  clear h2 c2 kf1 km1
  obtain ⟨kf2, km2⟩ := three_world C2.out
  cases q2
  · go_wp2
    go_ret
    exact ⟨⟨false, rfl, saysWd_no (fun h => by have := H2.out.2 ⟨by have h2 := h.2.1; rw [List.length_map] at h2; exact h2, h.2.2.2⟩; cases this)⟩, bl_trans Hx0.out C2.out⟩
  have G2 : Hid ((1 ≤ rs.length ∧ rs.length ≤ 4) ∧ MatesSay (rs.map Mt.MRow.m)) := H2.out.1 rfl
  clear H2
  have HA2 : Hid (WorldAt w2 gs ps rs fs b1 b2 b3 b4 B) := HA0.out.keep C2.out
  go_wp2_with fail
  rw [rounds_succ]
  go_wp2_with fail
  refine (flightOk_any t gs ps rs fs b1 b2 b3 b4 B _ HA2.out HF.out).mono ?_
  rintro e w3 ⟨⟨q3, rfl, h3⟩, c3⟩
  have H3 : Hid (q3 = true ↔ fs.length ≤ 300) := h3
  have C3 : Hid (Below (((w.alloc (.cells #[.int .i64 t, .slice (some ⟨b1, 0, none⟩) gs.length gs.length, .slice (some ⟨b2, 0, none⟩) ps.length ps.length, .slice (some ⟨b3, 0, none⟩) rs.length rs.length, .slice (some ⟨b4, 0, none⟩) fs.length fs.length] 30)).alloc (.cells #[.func (.func 40) #[] #[], .func (.func 41) #[] #[], .func (.func 42) #[] #[]] 45)).alloc (.cells #[.int .i64 t, .slice (some ⟨b1, 0, none⟩) gs.length gs.length, .slice (some ⟨b2, 0, none⟩) ps.length ps.length, .slice (some ⟨b3, 0, none⟩) rs.length rs.length, .slice (some ⟨b4, 0, none⟩) fs.length fs.length] 30)).heap.size (((w.alloc (.cells #[.int .i64 t, .slice (some ⟨b1, 0, none⟩) gs.length gs.length, .slice (some ⟨b2, 0, none⟩) ps.length ps.length, .slice (some ⟨b3, 0, none⟩) rs.length rs.length, .slice (some ⟨b4, 0, none⟩) fs.length fs.length] 30)).alloc (.cells #[.func (.func 40) #[] #[], .func (.func 41) #[] #[], .func (.func 42) #[] #[]] 45)).alloc (.cells #[.int .i64 t, .slice (some ⟨b1, 0, none⟩) gs.length gs.length, .slice (some ⟨b2, 0, none⟩) ps.length ps.length, .slice (some ⟨b3, 0, none⟩) rs.length rs.length, .slice (some ⟨b4, 0, none⟩) fs.length fs.length] 30)) w3) := bl_trans C2.out c3
  clear h3 c3 kf2 km2
  obtain ⟨kf3, km3⟩ := three_world C3.out
  cases q3
  · go_wp2
    go_ret
    exact ⟨⟨false, rfl, saysWd_no (fun h => by have := H3.out.2 h.2.2.1; cases this)⟩, bl_trans Hx0.out C3.out⟩
  have G3 : Hid (fs.length ≤ 300) := H3.out.1 rfl
  clear H3
  have HA3 : Hid (WorldAt w3 gs ps rs fs b1 b2 b3 b4 B) := HA0.out.keep C3.out
  go_wp2_with fail
  rw [rounds_succ]
  go_wp2
  go_ret
  exact ⟨⟨true, rfl, ⟨fun _ => ⟨G1.out, by rw [List.length_map]; exact G2.out.1, G3.out, G2.out.2⟩, fun _ => rfl⟩⟩, bl_trans Hx0.out C3.out⟩
end Go.Proofs.YtdkjhonaafadjaaGreat
/- MateSettled: the program's side. -/
namespace Go.Proofs.YtdkjhonaafadjaaGreat
open Go.RowKit Go.Maps Go.WideMaps
set_option linter.unusedVariables false

open Classical in
noncomputable def settB (ps : List P.PlaceD) (r : Mt.MRow) : Bool := decide (SettM ps r.m)
theorem settB_iff {ps : List P.PlaceD} {r : Mt.MRow} : settB ps r = true ↔ SettM ps r.m := by unfold settB; simp
theorem raw_asc {ps : List P.PlaceD} (h : P.AscN ps ps.length) : Pr.AscN (ps.map Pr.raw) (ps.map Pr.raw).length := by
  intro j q r hj hq hr
  rw [List.getElem?_map] at hq hr
  obtain ⟨q', hq', rfl⟩ := Option.map_eq_some_iff.1 hq
  obtain ⟨r', hr', rfl⟩ := Option.map_eq_some_iff.1 hr
  rw [List.length_map] at hj
  exact h j q' r' hj hq' hr'
theorem placesMap (b2 : Nat) (ps : List P.PlaceD) (w : World) (hR : P.RowsAt w b2 0 ps) (l1 : b2 < w.heap.size) (hfit : ∀ p ∈ ps, p.b.size ≤ maxLen) (hl : ps.length ≤ 1048576) (ha : P.AscN ps ps.length) :
    Calls Tryz.prog 48 #[.slice (some ⟨b2, 0, none⟩) ps.length ps.length, .func (.func 49) #[] #[]] w fun e w' => e = .returned (.map (some w.heap.size)) ∧ w'.ownsMap Tryz.prog 9 Pr.RV w.heap.size ps.length (Pr.dec (ps.map Pr.raw)) ∧ Below w.heap.size w w' := by
  have h := Pr.byNameV b2 0 ps.length (ps.map Pr.raw) w (Pr.raw_rows hR) l1 (fun r hr => by obtain ⟨p, hp, rfl⟩ := List.mem_map.1 hr; exact hfit p hp) (by rw [List.length_map]; exact hl) (Pr.srt_asc (raw_asc ha))
  rw [List.length_map] at h
  exact h

theorem field_place (b : ByteArray) (s : Int) (a : Option Addr) (n c : Nat) (w : World) : Sem.run Tryz.prog (Instr.field 75 (.agg #[.string b, .int .i64 s, .slice a n c]) 2) w = .ok (.slice a n c) w := by kernel_rfl

set_option maxRecDepth 4000 in
set_option maxHeartbeats 2000000 in
theorem closure_any {B : Nat} (gs : List G.GrantD) (ps : List P.PlaceD) (b1 b2 : Nat) (r : Mt.MRow) (bk mb : Nat) (x : World) (hc : x.cell? ⟨bk, 0, none⟩ = some (.map (some mb))) (hbk : bk < x.heap.size) (hM : x.ownsMap Tryz.prog 9 Pr.RV mb ps.length (Pr.dec (ps.map Pr.raw))) (ha : P.AscN ps ps.length) (hA : P.LandAt x gs ps b1 b2) (hF : P.Fit gs ps) (hb : ∃ g1 g2 g3 g4, r.blk B x g1 g2 g3 g4) (hf : r.m.fits) :
    Calls Tryz.prog 51 #[.agg #[.string r.m.nm, .bool r.m.up, .int .i64 r.m.ck, .bool r.m.kn, .int .i64 r.m.se, .slice r.a1 r.m.ws.length r.c1, .slice r.a2 r.m.rs.length r.c2, .slice r.a3 r.m.qs.length r.c3, .slice r.a4 r.m.gs.length r.c4], .pointer (some ⟨bk, 0, none⟩)] x fun e x' => e = .returned (.bool (settB ps r)) ∧ Below x.heap.size x x' := by
  obtain ⟨g1, g2, g3, g4, h⟩ := hb
  have x1 := h.e1; have x2 := h.e2; have x3 := h.e3; have x4 := h.e4
  have t1 := h.f1; have t2 := h.f2; have t3 := h.f3; have t4 := h.f4
  have HL : Hid (Lists x r.m g1 g2 g3 g4) := h.l
  have HP : Hid (Apart2 ps) := asc_apart ha
  have hrl := hf.k2
  rw [x1, x2, x3, x4, t1, t2, t3, t4]
  clear x1 x2 x3 x4 t1 t2 t3 t4 h
  obtain ⟨v, hv⟩ : ∃ v, r.m.up = v := ⟨_, rfl⟩
  have Hv : Hid (r.m.up = v) := hv
  have hlook := Pr.look1V (w := (x.alloc (.cells #[.string r.m.nm, .bool r.m.up, .int .i64 r.m.ck, .bool r.m.kn, .int .i64 r.m.se, .slice (some ⟨g1, 0, none⟩) r.m.ws.length r.m.ws.length, .slice (some ⟨g2, 0, none⟩) r.m.rs.length r.m.rs.length, .slice (some ⟨g3, 0, none⟩) r.m.qs.length r.m.qs.length, .slice (some ⟨g4, 0, none⟩) r.m.gs.length r.m.gs.length] 52))) mb ps.length (ps.map Pr.raw) (Pr.mapv_below hM (bl_alloc (Below.refl _ _) _)) (Pr.srt_asc (raw_asc ha)) r.m.nm hf.n
  rw [hv] at hlook ⊢
  clear hM ha hv
  cases v
  · have e1 : settB ps r = false := by
      cases hs : settB ps r
      · rfl
      · have := (settB_iff.1 hs).1; rw [Hv.out] at this; cases this
    rw [e1]
    clear hlook
    go_enter Tryz.func51, Tryz.ntmps51
    go_wp2
    go_ret
    exact ⟨rfl, bl_alloc (Below.refl _ _) _⟩
  rcases hlook with ⟨q, hq, he, hrun⟩ | ⟨hno, hrun⟩
  · obtain ⟨p, hp, rfl⟩ := List.mem_map.1 hq
    obtain ⟨g, e1, e2, -, hg, hrw⟩ := hA.k p hp
    have Hp : Hid (wantsAt ps r.m.nm = p.ws) := wantsAt_mem HP.out hp (by have h1 : p.b = r.m.nm := he; rw [h1])
    have Hrw : Hid (W.RowsAt x g 0 p.ws) := hrw
    have Hln : Hid (p.ws.length ≤ 1048576) := hF.ln p hp
    simp only [Pr.raw] at hrun
    rw [e1, e2] at hrun
    clear hq he e1 e2 hrw hA hF hf hp
    have hfld := field_place
    go_enter Tryz.func51, Tryz.ntmps51
    go_wp2_with fail
    refine (equalFunc_any (some ⟨g2, 0, none⟩) (some ⟨g, 0, none⟩) _ p.ws.length r.m.rs p.ws _ (Or.inr ⟨g2, rfl, (HL.out.keep (bl_alloc (Below.refl _ _) _)).l2, (HL.out.keep (bl_alloc (Below.refl _ _) _)).r2⟩) (Or.inr ⟨g, rfl, Nat.lt_of_lt_of_le hg (bl_alloc (Below.refl _ x) _).size, Hrw.out.keep hg (bl_alloc (Below.refl _ _) _)⟩) (by omega) (by exact Hln.out)).mono ?_
    rintro e w1 ⟨⟨q, rfl, hq⟩, c⟩
    have Hq : Hid (q = settB ps r) := by
      have h1 : q = true ↔ SettM ps r.m := by
        refine hq.trans ((ready_all _ _).trans ?_)
        unfold SettM
        rw [Hv.out, Hp.out]
        simp
      cases q
      · cases hs : settB ps r
        · rfl
        · have := h1.2 (settB_iff.1 hs); cases this
      · exact (settB_iff.2 (h1.1 rfl)).symm
    have C : Hid (Below x.heap.size x w1) := bl_trans (bl_alloc (Below.refl _ _) _) c
    clear hq c
    go_wp2
    go_ret
    exact ⟨congrArg (fun z => Ending.returned (Value.bool z)) Hq.out, C.out⟩
  · have Hp : Hid (wantsAt ps r.m.nm = []) := wantsAt_none (fun p hp e => hno (Pr.raw p) (List.mem_map_of_mem hp) (bytes_ext e))
    clear hno hA hF hf
    have hfld := field_place
    go_enter Tryz.func51, Tryz.ntmps51
    go_wp2_with fail
    refine (equalFunc_any (some ⟨g2, 0, none⟩) none _ 0 r.m.rs [] _ (Or.inr ⟨g2, rfl, (HL.out.keep (bl_alloc (Below.refl _ _) _)).l2, (HL.out.keep (bl_alloc (Below.refl _ _) _)).r2⟩) (Or.inl rfl) (by omega) (by simp)).mono ?_
    rintro e w1 ⟨⟨q, rfl, hq⟩, c⟩
    have Hq : Hid (q = settB ps r) := by
      have h1 : q = true ↔ SettM ps r.m := by
        refine hq.trans ((ready_all _ _).trans ?_)
        unfold SettM
        rw [Hv.out, Hp.out]
        simp
      cases q
      · cases hs : settB ps r
        · rfl
        · have := h1.2 (settB_iff.1 hs); cases this
      · exact (settB_iff.2 (h1.1 rfl)).symm
    have C : Hid (Below x.heap.size x w1) := bl_trans (bl_alloc (Below.refl _ _) _) c
    clear hq c
    go_wp2
    go_ret
    exact ⟨congrArg (fun z => Ending.returned (Value.bool z)) Hq.out, C.out⟩

set_option maxRecDepth 4000 in
set_option maxHeartbeats 4000000 in
theorem implSettled (t : Int) (gs : List G.GrantD) (ps : List P.PlaceD) (rs : List Mt.MRow) (fs : List ByteArray) (b1 b2 b3 b4 B : Nat) (w : World) (hA : WorldAt w gs ps rs fs b1 b2 b3 b4 B) (hF : WorldFit gs ps rs fs) :
    Calls Tryz.prog 23 #[.agg #[.int .i64 t, .slice (some ⟨b1, 0, none⟩) gs.length gs.length, .slice (some ⟨b2, 0, none⟩) ps.length ps.length, .slice (some ⟨b3, 0, none⟩) rs.length rs.length, .slice (some ⟨b4, 0, none⟩) fs.length fs.length]] w fun e w' => (∃ q : Bool, e = .returned (.bool q) ∧ (q = true ↔ SettledOk t gs ps (rs.map Mt.MRow.m) fs)) ∧ Below w.heap.size w w' := by
  have Hb0 : Hid (Below w.heap.size w (w.alloc (.cells #[.int .i64 t, .slice (some ⟨b1, 0, none⟩) gs.length gs.length, .slice (some ⟨b2, 0, none⟩) ps.length ps.length, .slice (some ⟨b3, 0, none⟩) rs.length rs.length, .slice (some ⟨b4, 0, none⟩) fs.length fs.length] 30))) := bl_alloc (Below.refl _ _) _
  have HA : Hid (WorldAt (w.alloc (.cells #[.int .i64 t, .slice (some ⟨b1, 0, none⟩) gs.length gs.length, .slice (some ⟨b2, 0, none⟩) ps.length ps.length, .slice (some ⟨b3, 0, none⟩) rs.length rs.length, .slice (some ⟨b4, 0, none⟩) fs.length fs.length] 30)) gs ps rs fs b1 b2 b3 b4 B) := hA.keep Hb0.out
  have HF : Hid (WorldFit gs ps rs fs) := hF
  clear hA hF
  go_enter Tryz.func23, Tryz.ntmps23
  go_wp2_with fail
  refine (implWorldOk t gs ps rs fs b1 b2 b3 b4 B _ HA.out HF.out).mono ?_
  rintro e w1 ⟨⟨q, rfl, h⟩, c1⟩
  have H1 : Hid (SaysWd q t gs ps (rs.map Mt.MRow.m) fs) := h
  have C1 : Hid (Below (w.alloc (.cells #[.int .i64 t, .slice (some ⟨b1, 0, none⟩) gs.length gs.length, .slice (some ⟨b2, 0, none⟩) ps.length ps.length, .slice (some ⟨b3, 0, none⟩) rs.length rs.length, .slice (some ⟨b4, 0, none⟩) fs.length fs.length] 30)).heap.size (w.alloc (.cells #[.int .i64 t, .slice (some ⟨b1, 0, none⟩) gs.length gs.length, .slice (some ⟨b2, 0, none⟩) ps.length ps.length, .slice (some ⟨b3, 0, none⟩) rs.length rs.length, .slice (some ⟨b4, 0, none⟩) fs.length fs.length] 30)) w1) := c1
  have kb := wd_box c1
  clear h c1
  cases q
  · go_wp2_with fail
    go_ret
    exact ⟨⟨false, rfl, ⟨fun h => (by cases h), fun h => by have := H1.out.2 h.1; cases this⟩⟩, bl_trans Hb0.out C1.out⟩
  have G1 : Hid (WorldSay t gs ps (rs.map Mt.MRow.m) fs) := H1.out.1 rfl
  clear H1
  have H20 : Hid (∀ r ∈ rs, r.m.rs.length ≤ 20) := (world_runs G1.out).1
  have h4 : rs.length ≤ 4 := (world_runs G1.out).2
  have H4 : Hid (rs.length ≤ 4) := h4
  have zb1 : w.heap.size + 1 ≤ w1.heap.size := by have := C1.out.size; simpa using this
  have HA1 : Hid (WorldAt w1 gs ps rs fs b1 b2 b3 b4 B) := HA.out.keep C1.out
  have Hasc : Hid (P.AscN ps ps.length) := G1.out.1.2.2.1.2.1
  have hl3 := HF.out.l3
  go_wp2_with fail
  clear kb
  refine (placesMap b2 ps _ HA1.out.a.a.p HA1.out.a.a.p1 (fun p hp => (HF.out.f.p p hp).1) HF.out.f.pl Hasc.out).mono ?_
  rintro e w2 ⟨rfl, hM, c2⟩
  have M2 : Hid (w2.ownsMap Tryz.prog 9 Pr.RV w1.heap.size ps.length (Pr.dec (ps.map Pr.raw))) := hM
  have C2 : Hid (Below (w.alloc (.cells #[.int .i64 t, .slice (some ⟨b1, 0, none⟩) gs.length gs.length, .slice (some ⟨b2, 0, none⟩) ps.length ps.length, .slice (some ⟨b3, 0, none⟩) rs.length rs.length, .slice (some ⟨b4, 0, none⟩) fs.length fs.length] 30)).heap.size (w.alloc (.cells #[.int .i64 t, .slice (some ⟨b1, 0, none⟩) gs.length gs.length, .slice (some ⟨b2, 0, none⟩) ps.length ps.length, .slice (some ⟨b3, 0, none⟩) rs.length rs.length, .slice (some ⟨b4, 0, none⟩) fs.length fs.length] 30)) w2) := bl_trans C1.out c2
  have zw : w.heap.size < w2.heap.size := by have := C2.out.size; simp at this; omega
  have kb := wd_box C2.out
  clear hM c2
  have WX : Hid (WorldAt (w2.alloc (.cells #[.map (some w1.heap.size)] 77)) gs ps rs fs b1 b2 b3 b4 B) := (HA.out.keep C2.out).keep (bl_alloc (Below.refl _ _) _)
  have MX : Hid ((w2.alloc (.cells #[.map (some w1.heap.size)] 77)).ownsMap Tryz.prog 9 Pr.RV w1.heap.size ps.length (Pr.dec (ps.map Pr.raw))) := Pr.mapv_below M2.out (bl_alloc (Below.refl _ _) _)
  go_wp2_with fail
  refine (Mt.allSettled w2.heap.size (settB ps) b3 0 _ rs _ WX.out.m.r WX.out.m.l hl3 (fun r hr x hx => closure_any (B := B) gs ps b1 b2 r w2.heap.size w1.heap.size x ((hx.cell (p := ⟨w2.heap.size, 0, none⟩) (by simp)).trans (by simp [go_sem])) (Nat.lt_of_lt_of_le (by simp) hx.size) (Pr.mapv_below MX.out hx) Hasc.out ((WX.out.keep hx).a.a) HF.out.f ((WX.out.keep hx).m.k r hr) (HF.out.m r hr))).mono ?_
  rintro e w3 ⟨⟨q, rfl, hq⟩, c3⟩
  have Kq : Hid (q = true ↔ SettledOk t gs ps (rs.map Mt.MRow.m) fs) := by
    refine hq.trans ⟨fun h => ⟨G1.out, fun m hm => ?_⟩, fun h r hr => settB_iff.2 (h.2 r.m (List.mem_map_of_mem hr))⟩
    obtain ⟨r, hr, rfl⟩ := List.mem_map.1 hm
    exact settB_iff.1 (h r hr)
  have B3 : Hid (Below w.heap.size w w3) := bl_trans Hb0.out (bl_trans C2.out (bl_trans (bl_alloc (Below.refl _ _) _) c3))
  clear hq c3 kb
  go_wp2
  go_ret
  exact ⟨⟨q, rfl, Kq.out⟩, B3.out⟩
end Go.Proofs.YtdkjhonaafadjaaGreat
/- FnExactMateSettled: the law's walk. -/
namespace Go.Proofs.YtdkjhonaafadjaaGreat
open Go.RowKit
set_option linter.unusedVariables false

set_option maxRecDepth 4000 in
set_option maxHeartbeats 4000000 in
theorem lawSettled (t : Int) (gs : List G.GrantD) (ps : List P.PlaceD) (ms : List Mt.MRow) (fs : List ByteArray) (v1 v2 v3 v4 : Value) (w : World) (hi : WorldIn w gs ps ms fs v1 v2 v3 v4) :
    Calls Tryz.prog 6 #[.agg #[.int .i64 t, v1, v2, v3, v4]] w fun e w' => e = .returned (.bool true) ∧ Below w.heap.size w w' := by
  have Hi : Hid (WorldIn w gs ps ms fs v1 v2 v3 v4) := hi
  clear hi
  have C0 : Hid (Below w.heap.size w (w.alloc (.cells #[.int .i64 t, v1, v2, v3, v4] 43))) := bl_alloc (Below.refl _ _) _
  have A0 : Hid (Lx (w.alloc (.cells #[.int .i64 t, v1, v2, v3, v4] 43)) w.heap.size #[.int .i64 t, v1, v2, v3, v4]) := Lx.new _ _ _
  go_enter Tryz.func6, Tryz.ntmps6
  go_wp2_with fail
  refine (szWorld t gs ps ms fs v1 v2 v3 v4 _ (Hi.out.keep C0.out)).mono ?_
  rintro e w1 ⟨hx, c⟩
  have C1 : Hid (Below w.heap.size w w1) := bl_trans C0.out c
  have A1 : Hid (Lx w1 w.heap.size #[.int .i64 t, v1, v2, v3, v4]) := A0.out.keep c
  clear c C0 A0
  have ka := A1.out.c
  rcases hx with rfl | ⟨x, rfl, x0, hl⟩
  · go_wp2
    go_ret
    exact ⟨rfl, C1.out⟩
  have HF : Hid (WorldFit gs ps ms fs) := world_fit Hi.out hl
  have HL : Hid (WorldLen gs ps ms fs) := hl
  clear hl
  go_wp2_with fail
  refine (toWorld t gs ps ms fs v1 v2 v3 v4 _ (Hi.out.keep C1.out) HL.out).mono ?_
  rintro e w2 ⟨⟨b1, b2, b3, b4, ps1, ms1, rfl, hp1, hm1, hW⟩, c⟩
  have C2 : Hid (Below w.heap.size w w2) := bl_trans C1.out c
  have A2 : Hid (Lx w2 w.heap.size #[.int .i64 t, v1, v2, v3, v4]) := A1.out.keep c
  have P1 : Hid (P.Like ps1 ps) := hp1
  have M1 : Hid (Mt.Like ms1 ms) := hm1
  clear c ka C1 A1 hp1 hm1
  go_wp2_with fail
  refine (specSettled t gs ps1 ms1 fs b1 b2 b3 b4 _ _ hW (HF.out.like P1.out M1.out)).mono ?_
  rintro e w3 ⟨⟨q1, rfl, h1⟩, c⟩
  have H1 : Hid (q1 = true ↔ SettledOk t gs ps1 (ms1.map Mt.MRow.m) fs) := h1
  have C3 : Hid (Below w.heap.size w w3) := bl_trans C2.out c
  have A3 : Hid (Lx w3 w.heap.size #[.int .i64 t, v1, v2, v3, v4]) := A2.out.keep c
  clear c h1 hW C2 A2
  have ka := A3.out.c
  go_wp2_with fail
  refine (toWorld t gs ps ms fs v1 v2 v3 v4 _ (Hi.out.keep C3.out) HL.out).mono ?_
  rintro e w4 ⟨⟨e1, e2, e3, e4, qs, rs, rfl, hp2, hm2, hW⟩, c⟩
  have P2 : Hid (P.Like qs ps) := hp2
  have M2 : Hid (Mt.Like rs ms) := hm2
  have hb4 : Below w4.heap.size w4 (w4.alloc (.cells #[.int .i64 t, .slice (some ⟨e1, 0, none⟩) gs.length gs.length, .slice (some ⟨e2, 0, none⟩) qs.length qs.length, .slice (some ⟨e3, 0, none⟩) rs.length rs.length, .slice (some ⟨e4, 0, none⟩) fs.length fs.length] 30)) := bl_alloc (Below.refl _ _) _
  have C5 : Hid (Below w.heap.size w (w4.alloc (.cells #[.int .i64 t, .slice (some ⟨e1, 0, none⟩) gs.length gs.length, .slice (some ⟨e2, 0, none⟩) qs.length qs.length, .slice (some ⟨e3, 0, none⟩) rs.length rs.length, .slice (some ⟨e4, 0, none⟩) fs.length fs.length] 30))) := bl_trans (bl_trans C3.out c) hb4
  have A5 : Hid (Lx (w4.alloc (.cells #[.int .i64 t, .slice (some ⟨e1, 0, none⟩) gs.length gs.length, .slice (some ⟨e2, 0, none⟩) qs.length qs.length, .slice (some ⟨e3, 0, none⟩) rs.length rs.length, .slice (some ⟨e4, 0, none⟩) fs.length fs.length] 30)) w.heap.size #[.int .i64 t, v1, v2, v3, v4]) := (A3.out.keep c).keep hb4
  have X5 : Hid (Lx (w4.alloc (.cells #[.int .i64 t, .slice (some ⟨e1, 0, none⟩) gs.length gs.length, .slice (some ⟨e2, 0, none⟩) qs.length qs.length, .slice (some ⟨e3, 0, none⟩) rs.length rs.length, .slice (some ⟨e4, 0, none⟩) fs.length fs.length] 30)) w4.heap.size #[.int .i64 t, .slice (some ⟨e1, 0, none⟩) gs.length gs.length, .slice (some ⟨e2, 0, none⟩) qs.length qs.length, .slice (some ⟨e3, 0, none⟩) rs.length rs.length, .slice (some ⟨e4, 0, none⟩) fs.length fs.length]) := Lx.new _ _ _
  have W5 : Hid (WorldAt (w4.alloc (.cells #[.int .i64 t, .slice (some ⟨e1, 0, none⟩) gs.length gs.length, .slice (some ⟨e2, 0, none⟩) qs.length qs.length, .slice (some ⟨e3, 0, none⟩) rs.length rs.length, .slice (some ⟨e4, 0, none⟩) fs.length fs.length] 30)) gs qs rs fs e1 e2 e3 e4 w3.heap.size) := hW.keep hb4
  clear c ka hp2 hm2 hW hb4 C3 A3
  go_wp2_with fail
  refine (implSettled t gs qs rs fs e1 e2 e3 e4 _ _ W5.out (HF.out.like P2.out M2.out)).mono ?_
  rintro e w5 ⟨⟨q2, rfl, h2⟩, c⟩
  obtain rfl : q2 = q1 := by
    have e1 : ms1.map Mt.MRow.m = rs.map Mt.MRow.m := M1.out.trans M2.out.symm
    have h1 := H1.out
    have hlk : (SettledOk t gs ps1 (ms1.map Mt.MRow.m) fs) ↔ (SettledOk t gs qs (rs.map Mt.MRow.m) fs) := by rw [e1]; exact settled_like (P1.out.trans P2.out.symm) (SaysWd.like (q := true) (P1.out.trans P2.out.symm))
    have : q1 = true ↔ q2 = true := h1.trans (hlk.trans (Iff.symm h2))
    cases q1 <;> cases q2 <;> simp_all
  clear H1 h2
  have C6 : Hid (Below w.heap.size w w5) := bl_trans C5.out c
  have A6 : Hid (Lx w5 w.heap.size #[.int .i64 t, v1, v2, v3, v4]) := A5.out.keep c
  have X6 : Hid (Lx w5 w4.heap.size #[.int .i64 t, .slice (some ⟨e1, 0, none⟩) gs.length gs.length, .slice (some ⟨e2, 0, none⟩) qs.length qs.length, .slice (some ⟨e3, 0, none⟩) rs.length rs.length, .slice (some ⟨e4, 0, none⟩) fs.length fs.length]) := X5.out.keep c
  have W6 : Hid (WorldAt w5 gs qs rs fs e1 e2 e3 e4 w3.heap.size) := W5.out.keep c
  clear c C5 A5 X5 W5
  cases q2
  · go_wp2_with fail
    refine wp_region_noPanic ?_
    refine wp_region_held_drew (S := (fun y => Below w5.heap.size w5 y ∧ (y.cell? ⟨w.heap.size, 0, none⟩ = some (.int .i64 t) ∧ y.cell? ⟨w.heap.size, 1, none⟩ = some (v1) ∧ y.cell? ⟨w.heap.size, 2, none⟩ = some (v2) ∧ y.cell? ⟨w.heap.size, 3, none⟩ = some (v3) ∧ y.cell? ⟨w.heap.size, 4, none⟩ = some (v4) ∧ y.cell? ⟨w4.heap.size, 0, none⟩ = some (.int .i64 t) ∧ y.cell? ⟨w4.heap.size, 1, none⟩ = some (.slice (some ⟨e1, 0, none⟩) gs.length gs.length) ∧ y.cell? ⟨w4.heap.size, 2, none⟩ = some (.slice (some ⟨e2, 0, none⟩) qs.length qs.length) ∧ y.cell? ⟨w4.heap.size, 3, none⟩ = some (.slice (some ⟨e3, 0, none⟩) rs.length rs.length) ∧ y.cell? ⟨w4.heap.size, 4, none⟩ = some (.slice (some ⟨e4, 0, none⟩) fs.length fs.length)))) (by kernel_rfl) (kWX A6.out X6.out (bl_drew (Below.refl _ _))) (fun hHeld => ?_)
    refine wpAnyH_take (i := 0) (v := ?vx13) rfl (by kernel_rfl) (by kernel_rfl) (by kernel_rfl) (fun _ _ _ h => h) (Or.inl ⟨by rfl, ?hx13⟩) (by assumption) ?rx13
    case hx13 => (intro w hSw; (try dsimp only at hSw); go_simp; try (with_reducible rfl))
    try simp only [Act.put, List.setIfInBounds_toArray, List.set_cons_zero, List.set_cons_succ, List.getElem_toArray, List.getElem_cons_zero]
    refine wpAnyH_take (i := 1) (v := ?vx14) rfl (by kernel_rfl) (by kernel_rfl) (by kernel_rfl) (fun _ _ _ h => h) (Or.inl ⟨by rfl, ?hx14⟩) (by assumption) ?rx14
    case hx14 => (intro w hSw; (try dsimp only at hSw); go_simp; try (with_reducible rfl))
    try simp only [Act.put, List.setIfInBounds_toArray, List.set_cons_zero, List.set_cons_succ, List.getElem_toArray, List.getElem_cons_zero, List.getElem_cons_succ]
    refine wpAnyH_ready (rs := [2]) (by kernel_rfl) (by simp) ?_
    refine AllReadyH.cons rfl (fun K hK => ?_) AllReadyH.nil
    go_simp
    refine (toWorld t gs ps ms fs v1 v2 v3 v4 _ (Hi.out.keep (bl_trans C6.out (bl_drew (Below.refl _ _)))) HL.out).mono ?_
    rintro e z1 ⟨⟨f1, f2, f3, f4, ps3, ms3, rfl, hp3, hm3, hW⟩, d1⟩
    go_wp2_with fail
    refine hK.out _ _ (kWX A6.out X6.out (bl_trans (bl_drew (Below.refl _ _)) d1)) (fun hHeld1 => ?_)
    clear hK K hHeld
    try simp only [Act.put, List.setIfInBounds_toArray, List.set_cons_zero, List.set_cons_succ, List.getElem_toArray, List.getElem_cons_zero, List.getElem_cons_succ]
    refine wpAnyH_ready (rs := [3]) (by kernel_rfl) (by simp) ?_
    refine AllReadyH.cons rfl (fun K hK => ?_) AllReadyH.nil
    go_simp
    refine (eqWorld t gs qs ps3 rs ms3 fs e1 e2 e3 e4 f1 f2 f3 f4 _ _ _ (W6.out.keep (bl_trans (bl_drew (Below.refl _ _)) d1)) hW (P2.out.trans hp3.symm) (M2.out.trans hm3.symm) (world_len (HF.out.like P2.out M2.out)) (HF.out.like P2.out M2.out).m).mono ?_
    rintro e z2 ⟨rfl, d2⟩
    go_wp2_with fail
    refine hK.out _ _ (kWX A6.out X6.out (bl_trans (bl_trans (bl_drew (Below.refl _ _)) d1) d2)) (fun hHeld2 => ?_)
    clear hK K hHeld1
    try simp only [Act.put, List.setIfInBounds_toArray, List.set_cons_zero, List.set_cons_succ, List.getElem_toArray, List.getElem_cons_zero, List.getElem_cons_succ]
    refine wpAnyH_take (i := 4) (v := ?vx15) rfl (by kernel_rfl) (by kernel_rfl) (by kernel_rfl) (fun _ _ _ h => h) (Or.inl ⟨by rfl, ?hx15⟩) (by assumption) ?rx15
    case hx15 => (intro w hSw; (try dsimp only at hSw); go_simp; try (with_reducible rfl))
    try simp only [Act.put, List.setIfInBounds_toArray, List.set_cons_zero, List.set_cons_succ, List.getElem_toArray, List.getElem_cons_zero, List.getElem_cons_succ]
    refine wpAnyH_done (by kernel_rfl) ?_ _
    refine NoPanic.normal ?_
    have C7 : Hid (Below w.heap.size w z2) := bl_trans C6.out (bl_trans (bl_trans (bl_drew (Below.refl _ _)) d1) d2)
    clear d1 d2 hW hp3 hm3 hHeld2
    go_wp2
    go_ret
    exact ⟨rfl, C7.out⟩
  · go_wp2_with fail
    refine wp_region_noPanic ?_
    refine wp_region_held_drew (S := (fun y => Below w5.heap.size w5 y ∧ (y.cell? ⟨w.heap.size, 0, none⟩ = some (.int .i64 t) ∧ y.cell? ⟨w.heap.size, 1, none⟩ = some (v1) ∧ y.cell? ⟨w.heap.size, 2, none⟩ = some (v2) ∧ y.cell? ⟨w.heap.size, 3, none⟩ = some (v3) ∧ y.cell? ⟨w.heap.size, 4, none⟩ = some (v4) ∧ y.cell? ⟨w4.heap.size, 0, none⟩ = some (.int .i64 t) ∧ y.cell? ⟨w4.heap.size, 1, none⟩ = some (.slice (some ⟨e1, 0, none⟩) gs.length gs.length) ∧ y.cell? ⟨w4.heap.size, 2, none⟩ = some (.slice (some ⟨e2, 0, none⟩) qs.length qs.length) ∧ y.cell? ⟨w4.heap.size, 3, none⟩ = some (.slice (some ⟨e3, 0, none⟩) rs.length rs.length) ∧ y.cell? ⟨w4.heap.size, 4, none⟩ = some (.slice (some ⟨e4, 0, none⟩) fs.length fs.length)))) (by kernel_rfl) (kWX A6.out X6.out (bl_drew (Below.refl _ _))) (fun hHeld => ?_)
    refine wpAnyH_take (i := 0) (v := ?vx16) rfl (by kernel_rfl) (by kernel_rfl) (by kernel_rfl) (fun _ _ _ h => h) (Or.inl ⟨by rfl, ?hx16⟩) (by assumption) ?rx16
    case hx16 => (intro w hSw; (try dsimp only at hSw); go_simp; try (with_reducible rfl))
    try simp only [Act.put, List.setIfInBounds_toArray, List.set_cons_zero, List.set_cons_succ, List.getElem_toArray, List.getElem_cons_zero]
    refine wpAnyH_take (i := 1) (v := ?vx17) rfl (by kernel_rfl) (by kernel_rfl) (by kernel_rfl) (fun _ _ _ h => h) (Or.inl ⟨by rfl, ?hx17⟩) (by assumption) ?rx17
    case hx17 => (intro w hSw; (try dsimp only at hSw); go_simp; try (with_reducible rfl))
    try simp only [Act.put, List.setIfInBounds_toArray, List.set_cons_zero, List.set_cons_succ, List.getElem_toArray, List.getElem_cons_zero, List.getElem_cons_succ]
    refine wpAnyH_ready (rs := [2]) (by kernel_rfl) (by simp) ?_
    refine AllReadyH.cons rfl (fun K hK => ?_) AllReadyH.nil
    go_simp
    refine (toWorld t gs ps ms fs v1 v2 v3 v4 _ (Hi.out.keep (bl_trans C6.out (bl_drew (Below.refl _ _)))) HL.out).mono ?_
    rintro e z1 ⟨⟨f1, f2, f3, f4, ps3, ms3, rfl, hp3, hm3, hW⟩, d1⟩
    go_wp2_with fail
    refine hK.out _ _ (kWX A6.out X6.out (bl_trans (bl_drew (Below.refl _ _)) d1)) (fun hHeld1 => ?_)
    clear hK K hHeld
    try simp only [Act.put, List.setIfInBounds_toArray, List.set_cons_zero, List.set_cons_succ, List.getElem_toArray, List.getElem_cons_zero, List.getElem_cons_succ]
    refine wpAnyH_ready (rs := [3]) (by kernel_rfl) (by simp) ?_
    refine AllReadyH.cons rfl (fun K hK => ?_) AllReadyH.nil
    go_simp
    refine (eqWorld t gs qs ps3 rs ms3 fs e1 e2 e3 e4 f1 f2 f3 f4 _ _ _ (W6.out.keep (bl_trans (bl_drew (Below.refl _ _)) d1)) hW (P2.out.trans hp3.symm) (M2.out.trans hm3.symm) (world_len (HF.out.like P2.out M2.out)) (HF.out.like P2.out M2.out).m).mono ?_
    rintro e z2 ⟨rfl, d2⟩
    go_wp2_with fail
    refine hK.out _ _ (kWX A6.out X6.out (bl_trans (bl_trans (bl_drew (Below.refl _ _)) d1) d2)) (fun hHeld2 => ?_)
    clear hK K hHeld1
    try simp only [Act.put, List.setIfInBounds_toArray, List.set_cons_zero, List.set_cons_succ, List.getElem_toArray, List.getElem_cons_zero, List.getElem_cons_succ]
    refine wpAnyH_take (i := 4) (v := ?vx18) rfl (by kernel_rfl) (by kernel_rfl) (by kernel_rfl) (fun _ _ _ h => h) (Or.inl ⟨by rfl, ?hx18⟩) (by assumption) ?rx18
    case hx18 => (intro w hSw; (try dsimp only at hSw); go_simp; try (with_reducible rfl))
    try simp only [Act.put, List.setIfInBounds_toArray, List.set_cons_zero, List.set_cons_succ, List.getElem_toArray, List.getElem_cons_zero, List.getElem_cons_succ]
    refine wpAnyH_done (by kernel_rfl) ?_ _
    refine NoPanic.normal ?_
    have C7 : Hid (Below w.heap.size w z2) := bl_trans C6.out (bl_trans (bl_trans (bl_drew (Below.refl _ _)) d1) d2)
    clear d1 d2 hW hp3 hm3 hHeld2
    go_wp2
    go_ret
    exact ⟨rfl, C7.out⟩
end Go.Proofs.YtdkjhonaafadjaaGreat
