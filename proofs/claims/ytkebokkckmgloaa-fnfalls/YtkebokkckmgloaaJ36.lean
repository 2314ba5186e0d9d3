import Derived.Test.YtkebokkckmgloaaJ33
import Derived.Test.YtkebokkckmgloaaJ34
import Derived.Test.YtkebokkckmgloaaJ35
import Derived.Deep.RegionHeld3
import Derived.Maps.AppendAt
import Derived.Deep.DeepCutAuto
import Derived.Laws.Pointers
import Derived.Deep.CutBlock
import Derived.StillTactics
/- A mate of any kind is drawn. -/
namespace Go.Proofs.Ytkebokkckmgloaa
open Go.RowKit
set_option linter.unusedVariables false

theorem Ow.exk {w w' : World} {v : Value} {l : List RunD} {B k : Nat} (h : Ow w v l B) (he : Ex k w w') (hk : k < B) : Ow w' v l B :=
  h.grown (A.ex_grown he) (ob_of (fun j hj => by cases hj; intro e; have := (h.lt _ e).1; omega))
theorem fits_ck2 {m : MateD} {c : Int} {rs : List RunD} (h : m.fits) (hf : ∀ r ∈ rs, r.fits) (hl : rs.length ≤ 1048576) : MateD.fits { m with ck := c, rs := rs } := ⟨h.n, h.f1, hf, h.f3, h.f4, h.k1, hl, h.k3, h.k4⟩
theorem fits_rs2 {m : MateD} {rs : List RunD} (h : m.fits) (hf : ∀ r ∈ rs, r.fits) (hl : rs.length ≤ 1048576) : MateD.fits { m with rs := rs } := ⟨h.n, h.f1, hf, h.f3, h.f4, h.k1, hl, h.k3, h.k4⟩
theorem fitsR_snoc {rs : List RunD} {r : RunD} (h : ∀ x ∈ rs, x.fits) (hr : r.fits) : ∀ x ∈ rs ++ [r], x.fits := fun x hx => by
  rcases List.mem_append.1 hx with hx | hx
  · exact h x hx
  · rw [List.mem_singleton.1 hx]; exact hr
theorem own_snoc {w : World} {B : Nat} {v : Value} {rs : List RunD} {r : RunD} (ho : w.ownsRow B 38 11 v (rs.length + 1) (flatR rs ++ r.cells)) : Ow w v (rs ++ [r]) B := by
  show w.ownsRow _ _ _ _ (rs ++ [r]).length _
  rw [List.length_append, flatR_append]
  simpa [flatR] using ho
theorem Sl.blk {w : World} {a : Option Addr} {c B i : Nat} {l : List RunD} (h : Sl w (.slice a l.length c) l B) (hi : i < l.length) : ∃ g, a = some ⟨g, 0, none⟩ ∧ B ≤ g ∧ g < w.heap.size ∧ RowsAt w g 0 l ∧ w.there g 0 (l.length * 11) := by
  rcases h with ⟨-, h0⟩ | ⟨g, cap, h1, h2, h3, h4, h5⟩
  · rw [h0] at hi; simp at hi
  · simp only [Value.slice.injEq] at h1
    exact ⟨g, h1.1, h2, h3, h4, h5⟩
theorem fits_put {rs : List RunD} {i : Nat} {r : RunD} (h : ∀ x ∈ rs, x.fits) (hr : r.fits) : ∀ x ∈ rs.set i r, x.fits := fun x hx => by
  rcases List.mem_or_eq_of_mem_set hx with hx | rfl
  · exact h x hx
  · exact hr

set_option maxRecDepth 4000 in
set_option maxHeartbeats 8000000 in
theorem anyQ (kr : Nat) (q : Int) (w : World) (hr : Rq w kr q) (hq : q < 400000) :
    Calls Try.prog 58 #[.pointer (some ⟨kr, 0, none⟩)] w fun e w' => ∃ (m : MateD) (x1 x2 x3 x4 : Option Addr) (n1 n2 n3 n4 : Nat), e = .returned (.agg #[.string m.nm, .bool m.up, .int .i64 m.ck, .bool m.kn, .int .i64 m.se, .slice x1 m.ws.length n1, .slice x2 m.rs.length n2, .slice x3 m.qs.length n3, .slice x4 m.gs.length n4]) ∧ SlM w' m (.slice x1 m.ws.length n1) (.slice x2 m.rs.length n2) (.slice x3 m.qs.length n3) (.slice x4 m.gs.length n4) w.heap.size ∧ m.ws.length ≤ n1 ∧ m.fits ∧ Rq w' kr (q + 9000) ∧ Ex kr w w' := by
  have hkr := hr.lt
  have hinfo : (Try.prog.info? 27).map (·.size) = some 9 := by kernel_rfl
  have HR : Hid (Rq (w.alloc (.cells #[.string { data := #[] }, .bool false, .int .i64 0, .bool false, .int .i64 0, .slice none 0 0, .slice none 0 0, .slice none 0 0, .slice none 0 0] 27)) kr q) := hr.below (bl_alloc (Below.refl _ _) _)
  clear hr
  go_enter Try.func58, Try.ntmps58
  go_wp2_with fail
  refine (drawQ kr q _ HR.out (by omega)).mono ?_
  rintro e w2 ⟨m, s1, s2, s3, s4, rfl, hS, hO, ⟨x1, n1, hs1, hcw⟩, hdr, r2, e2⟩
  obtain ⟨x2, n2, hs2⟩ := Sl.shape hS.a2
  obtain ⟨x3, n3, hs3⟩ := A.Sl.shape hS.a3
  obtain ⟨x4, n4, hs4⟩ := A.Sl.shape hS.a4
  subst hs1 hs2 hs3 hs4
  have hz1 : (w.alloc (.cells #[.string { data := #[] }, .bool false, .int .i64 0, .bool false, .int .i64 0, .slice none 0 0, .slice none 0 0, .slice none 0 0, .slice none 0 0] 27)).heap.size = w.heap.size + 1 := by simp
  rw [hz1] at hS hO
  have z2 : w.heap.size < w2.heap.size := by have h := e2.size; rw [hz1] at h; omega
  have D2 : Hid (Da w kr w2.heap.size (w.heap.size + 1) m (.slice x1 m.ws.length n1) (.slice x2 m.rs.length n2) (.slice x3 m.qs.length n3) (.slice x4 m.gs.length n4) (q + 3000) (w2.alloc (.cells #[.string m.nm, .bool m.up, .int .i64 m.ck, .bool m.kn, .int .i64 m.se, .slice x1 m.ws.length n1, .slice x2 m.rs.length n2, .slice x3 m.qs.length n3, .slice x4 m.gs.length n4] 27))) := da_new (there_ex (there9 w 27) (by simp) e2 (by omega)) hS r2 ((Ex.of_below (bl_alloc (Below.refl _ _) _)).trans e2) z2 (by omega) hkr
  have O2 : Hid (m.up = true → Ow (w2.alloc (.cells #[.string m.nm, .bool m.up, .int .i64 m.ck, .bool m.kn, .int .i64 m.se, .slice x1 m.ws.length n1, .slice x2 m.rs.length n2, .slice x3 m.qs.length n3, .slice x4 m.gs.length n4] 27)) (.slice x2 m.rs.length n2) m.rs (w.heap.size + 1)) := fun h => (hO h).keep (bl_alloc (Below.refl _ _) _)
  have HF : Hid (Drawn m) := hdr
  clear hS hO hdr r2 e2 HR hz1
  go_wp2_with fail
  refine (pickQ kr _ 24 _ D2.out.r (by omega) (by omega) (by omega)).mono ?_
  rintro e y1 ⟨z, rfl, z0, z1, r3, e3⟩
  have D3 : Hid (Da w kr w2.heap.size (w.heap.size + 1) m (.slice x1 m.ws.length n1) (.slice x2 m.rs.length n2) (.slice x3 m.qs.length n3) (.slice x4 m.gs.length n4) (q + 3000 + 1) y1) := D2.out.pick e3 r3
  have O3 : Hid (m.up = true → Ow y1 (.slice x2 m.rs.length n2) m.rs (w.heap.size + 1)) := fun h => (O2.out h).exk e3 (by omega)
  clear D2 O2 r3 e3
  obtain ⟨bm, hbm⟩ : ∃ bm, bm = w2.heap.size := ⟨_, rfl⟩
  rw [← hbm] at D3 z2
  rw [← hbm]
  clear hbm
  generalize (Value.agg #[.string m.nm, .bool m.up, .int .i64 m.ck, .bool m.kn, .int .i64 m.se, .slice x1 m.ws.length n1, .slice x2 m.rs.length n2, .slice x3 m.qs.length n3, .slice x4 m.gs.length n4]) = V8
  by_cases hz0 : z = 0
  · subst hz0
    have kb := D3.out.b
    go_wp2_with fail
    refine (spoilMQ kr _ m x1 x2 x3 x4 n1 n2 n3 n4 _ D3.out.r (by omega) (W.Sl.src D3.out.l.a1) (Sl.src D3.out.l.a2) (A.Sl.src D3.out.l.a3) (A.Sl.src D3.out.l.a4) HF.out).mono ?_
    rintro e y2 ⟨m', t1, t2, t3, t4, rfl, S4, ⟨a1, o1, ht1, hcw'⟩, hf4, r4, e4⟩
    obtain ⟨a2, o2, ht2⟩ := Sl.shape S4.a2
    obtain ⟨a3, o3, ht3⟩ := A.Sl.shape S4.a3
    obtain ⟨a4, o4, ht4⟩ := A.Sl.shape S4.a4
    subst ht1 ht2 ht3 ht4
    have hzy : w.heap.size < y1.heap.size := Nat.lt_trans D3.out.zw D3.out.z
    clear kb
    have hth9 := there_ex D3.out.d hzy e4 (by omega)
    have HT9 : Hid (y2.there w.heap.size 0 9) := hth9
    have hs9 := S4.low (B' := w.heap.size + 1) (by omega)
    have HS9 : Hid (SlM y2 m' (.slice a1 m'.ws.length o1) (.slice a2 m'.rs.length o2) (.slice a3 m'.qs.length o3) (.slice a4 m'.gs.length o4) (w.heap.size + 1)) := hs9
    have HR8 : Hid (Rq y2 kr (q + 9000)) := r4.up (by omega)
    have HE8 : Hid (Ex kr w y2) := D3.out.e.trans e4
    have HF9 : Hid (MateD.fits m') := hf4
    have Ho : Hid (∀ u ∈ ([.string m'.nm, .bool m'.up, .int .i64 m'.ck, .bool m'.kn, .int .i64 m'.se, .slice a1 m'.ws.length o1, .slice a2 m'.rs.length o2, .slice a3 m'.qs.length o3, .slice a4 m'.gs.length o4] : List Value), u.oneCell' = true) := ones m' HS9.out.a1 HS9.out.a2 HS9.out.a3 HS9.out.a4
    have HX : Hid (Ex w.heap.size y2 (y2.setCells w.heap.size 0 [.string m'.nm, .bool m'.up, .int .i64 m'.ck, .bool m'.kn, .int .i64 m'.se, .slice a1 m'.ws.length o1, .slice a2 m'.rs.length o2, .slice a3 m'.qs.length o3, .slice a4 m'.gs.length o4])) := (Ex.refl _ _).cells _ _
    have Hg : Hid (y2.grownBy (y2.setCells w.heap.size 0 [.string m'.nm, .bool m'.up, .int .i64 m'.ck, .bool m'.kn, .int .i64 m'.se, .slice a1 m'.ws.length o1, .slice a2 m'.rs.length o2, .slice a3 m'.qs.length o3, .slice a4 m'.gs.length o4]) (some w.heap.size)) := A.ex_grown HX.out
    clear hth9 hs9
    go_wp2_with (refine wpList_store_mid (by rfl) 27 _ _ (by rfl) w.heap.size 0 #[.string m'.nm, .bool m'.up, .int .i64 m'.ck, .bool m'.kn, .int .i64 m'.se, .slice a1 m'.ws.length o1, .slice a2 m'.rs.length o2, .slice a3 m'.qs.length o3, .slice a4 m'.gs.length o4] (by rfl) (by rfl) (by exact HT9.out) hinfo (by exact all_oneCell_toArray Ho.out) ?_)
    have hrg := World.rangeAt_setCells_same y2 w.heap.size 0 [.string m'.nm, .bool m'.up, .int .i64 m'.ck, .bool m'.kn, .int .i64 m'.se, .slice a1 m'.ws.length o1, .slice a2 m'.rs.length o2, .slice a3 m'.qs.length o3, .slice a4 m'.gs.length o4] HT9.out
    have HL : Hid (SlM (y2.setCells w.heap.size 0 [.string m'.nm, .bool m'.up, .int .i64 m'.ck, .bool m'.kn, .int .i64 m'.se, .slice a1 m'.ws.length o1, .slice a2 m'.rs.length o2, .slice a3 m'.qs.length o3, .slice a4 m'.gs.length o4]) m' (.slice a1 m'.ws.length o1) (.slice a2 m'.rs.length o2) (.slice a3 m'.qs.length o3) (.slice a4 m'.gs.length o4) w.heap.size) := (HS9.out.ex HX.out (by omega)).low (by omega)
    have HR9 : Hid (Rq (y2.setCells w.heap.size 0 [.string m'.nm, .bool m'.up, .int .i64 m'.ck, .bool m'.kn, .int .i64 m'.se, .slice a1 m'.ws.length o1, .slice a2 m'.rs.length o2, .slice a3 m'.qs.length o3, .slice a4 m'.gs.length o4]) kr (q + 9000)) := HR8.out.grown Hg.out (fun a ha => by cases ha; omega)
    have HE9 : Hid (Ex kr w (y2.setCells w.heap.size 0 [.string m'.nm, .bool m'.up, .int .i64 m'.ck, .bool m'.kn, .int .i64 m'.se, .slice a1 m'.ws.length o1, .slice a2 m'.rs.length o2, .slice a3 m'.qs.length o3, .slice a4 m'.gs.length o4])) := HE8.out.grown Hg.out (fun a ha => by cases ha; omega)
    clear HX Hg Ho HT9 HS9 HR8 HE8
    generalize (y2.setCells w.heap.size 0 [.string m'.nm, .bool m'.up, .int .i64 m'.ck, .bool m'.kn, .int .i64 m'.se, .slice a1 m'.ws.length o1, .slice a2 m'.rs.length o2, .slice a3 m'.qs.length o3, .slice a4 m'.gs.length o4]) = X at hrg HL HR9 HE9 ⊢
    have d0 := hrg 0 _ rfl
    have d1 := hrg 1 _ rfl
    have d2 := hrg 2 _ rfl
    have d3 := hrg 3 _ rfl
    have d4 := hrg 4 _ rfl
    have d5 := hrg 5 _ rfl
    have d6 := hrg 6 _ rfl
    have d7 := hrg 7 _ rfl
    have d8 := hrg 8 _ rfl
    simp only [Nat.zero_add] at d0 d1 d2 d3 d4 d5 d6 d7 d8
    refine bodyPost_ret (v := .agg #[.string m'.nm, .bool m'.up, .int .i64 m'.ck, .bool m'.kn, .int .i64 m'.se, .slice a1 m'.ws.length o1, .slice a2 m'.rs.length o2, .slice a3 m'.qs.length o3, .slice a4 m'.gs.length o4]) ?_ rfl ?_
    · simp [results, Try.results58, go_sem, d0, d1, d2, d3, d4, d5, d6, d7, d8]
    · exact ⟨m', _, _, _, _, _, _, _, _, rfl, HL.out, hcw', HF9.out, HR9.out, HE9.out⟩
  by_cases hz1 : z = 1
  · subst hz1
    have kb := D3.out.b
    go_wp2_with fail
    refine (spoilMQ kr _ m x1 x2 x3 x4 n1 n2 n3 n4 _ D3.out.r (by omega) (W.Sl.src D3.out.l.a1) (Sl.src D3.out.l.a2) (A.Sl.src D3.out.l.a3) (A.Sl.src D3.out.l.a4) HF.out).mono ?_
    rintro e y2 ⟨m', t1, t2, t3, t4, rfl, S4, ⟨a1, o1, ht1, hcw'⟩, hf4, r4, e4⟩
    obtain ⟨a2, o2, ht2⟩ := Sl.shape S4.a2
    obtain ⟨a3, o3, ht3⟩ := A.Sl.shape S4.a3
    obtain ⟨a4, o4, ht4⟩ := A.Sl.shape S4.a4
    subst ht1 ht2 ht3 ht4
    have hzy : w.heap.size < y1.heap.size := Nat.lt_trans D3.out.zw D3.out.z
    clear kb
    have hth9 := there_ex D3.out.d hzy e4 (by omega)
    have HT9 : Hid (y2.there w.heap.size 0 9) := hth9
    have hs9 := S4.low (B' := w.heap.size + 1) (by omega)
    have HS9 : Hid (SlM y2 m' (.slice a1 m'.ws.length o1) (.slice a2 m'.rs.length o2) (.slice a3 m'.qs.length o3) (.slice a4 m'.gs.length o4) (w.heap.size + 1)) := hs9
    have HR8 : Hid (Rq y2 kr (q + 9000)) := r4.up (by omega)
    have HE8 : Hid (Ex kr w y2) := D3.out.e.trans e4
    have HF9 : Hid (MateD.fits m') := hf4
    have Ho : Hid (∀ u ∈ ([.string m'.nm, .bool m'.up, .int .i64 m'.ck, .bool m'.kn, .int .i64 m'.se, .slice a1 m'.ws.length o1, .slice a2 m'.rs.length o2, .slice a3 m'.qs.length o3, .slice a4 m'.gs.length o4] : List Value), u.oneCell' = true) := ones m' HS9.out.a1 HS9.out.a2 HS9.out.a3 HS9.out.a4
    have HX : Hid (Ex w.heap.size y2 (y2.setCells w.heap.size 0 [.string m'.nm, .bool m'.up, .int .i64 m'.ck, .bool m'.kn, .int .i64 m'.se, .slice a1 m'.ws.length o1, .slice a2 m'.rs.length o2, .slice a3 m'.qs.length o3, .slice a4 m'.gs.length o4])) := (Ex.refl _ _).cells _ _
    have Hg : Hid (y2.grownBy (y2.setCells w.heap.size 0 [.string m'.nm, .bool m'.up, .int .i64 m'.ck, .bool m'.kn, .int .i64 m'.se, .slice a1 m'.ws.length o1, .slice a2 m'.rs.length o2, .slice a3 m'.qs.length o3, .slice a4 m'.gs.length o4]) (some w.heap.size)) := A.ex_grown HX.out
    clear hth9 hs9
    go_wp2_with (refine wpList_store_mid (by rfl) 27 _ _ (by rfl) w.heap.size 0 #[.string m'.nm, .bool m'.up, .int .i64 m'.ck, .bool m'.kn, .int .i64 m'.se, .slice a1 m'.ws.length o1, .slice a2 m'.rs.length o2, .slice a3 m'.qs.length o3, .slice a4 m'.gs.length o4] (by rfl) (by rfl) (by exact HT9.out) hinfo (by exact all_oneCell_toArray Ho.out) ?_)
    have hrg := World.rangeAt_setCells_same y2 w.heap.size 0 [.string m'.nm, .bool m'.up, .int .i64 m'.ck, .bool m'.kn, .int .i64 m'.se, .slice a1 m'.ws.length o1, .slice a2 m'.rs.length o2, .slice a3 m'.qs.length o3, .slice a4 m'.gs.length o4] HT9.out
    have HL : Hid (SlM (y2.setCells w.heap.size 0 [.string m'.nm, .bool m'.up, .int .i64 m'.ck, .bool m'.kn, .int .i64 m'.se, .slice a1 m'.ws.length o1, .slice a2 m'.rs.length o2, .slice a3 m'.qs.length o3, .slice a4 m'.gs.length o4]) m' (.slice a1 m'.ws.length o1) (.slice a2 m'.rs.length o2) (.slice a3 m'.qs.length o3) (.slice a4 m'.gs.length o4) w.heap.size) := (HS9.out.ex HX.out (by omega)).low (by omega)
    have HR9 : Hid (Rq (y2.setCells w.heap.size 0 [.string m'.nm, .bool m'.up, .int .i64 m'.ck, .bool m'.kn, .int .i64 m'.se, .slice a1 m'.ws.length o1, .slice a2 m'.rs.length o2, .slice a3 m'.qs.length o3, .slice a4 m'.gs.length o4]) kr (q + 9000)) := HR8.out.grown Hg.out (fun a ha => by cases ha; omega)
    have HE9 : Hid (Ex kr w (y2.setCells w.heap.size 0 [.string m'.nm, .bool m'.up, .int .i64 m'.ck, .bool m'.kn, .int .i64 m'.se, .slice a1 m'.ws.length o1, .slice a2 m'.rs.length o2, .slice a3 m'.qs.length o3, .slice a4 m'.gs.length o4])) := HE8.out.grown Hg.out (fun a ha => by cases ha; omega)
    clear HX Hg Ho HT9 HS9 HR8 HE8
    generalize (y2.setCells w.heap.size 0 [.string m'.nm, .bool m'.up, .int .i64 m'.ck, .bool m'.kn, .int .i64 m'.se, .slice a1 m'.ws.length o1, .slice a2 m'.rs.length o2, .slice a3 m'.qs.length o3, .slice a4 m'.gs.length o4]) = X at hrg HL HR9 HE9 ⊢
    have d0 := hrg 0 _ rfl
    have d1 := hrg 1 _ rfl
    have d2 := hrg 2 _ rfl
    have d3 := hrg 3 _ rfl
    have d4 := hrg 4 _ rfl
    have d5 := hrg 5 _ rfl
    have d6 := hrg 6 _ rfl
    have d7 := hrg 7 _ rfl
    have d8 := hrg 8 _ rfl
    simp only [Nat.zero_add] at d0 d1 d2 d3 d4 d5 d6 d7 d8
    refine bodyPost_ret (v := .agg #[.string m'.nm, .bool m'.up, .int .i64 m'.ck, .bool m'.kn, .int .i64 m'.se, .slice a1 m'.ws.length o1, .slice a2 m'.rs.length o2, .slice a3 m'.qs.length o3, .slice a4 m'.gs.length o4]) ?_ rfl ?_
    · simp [results, Try.results58, go_sem, d0, d1, d2, d3, d4, d5, d6, d7, d8]
    · exact ⟨m', _, _, _, _, _, _, _, _, rfl, HL.out, hcw', HF9.out, HR9.out, HE9.out⟩
  by_cases hz2 : z = 2
  · subst hz2
    have k2 : y1.cell? ⟨bm, 2, none⟩ = some (.int .i64 m.ck) := D3.out.b 2
    go_upto_region 7 with (fail)
    have K2 : Hid (∀ y, Ex kr y1 y → y.cell? ⟨bm, 2, none⟩ = some (.int .i64 m.ck)) := fun y he => (he.cell (p := ⟨bm, 2, none⟩) D3.out.z (by show bm ≠ kr; omega)).trans k2
    have hd0 : Ex kr y1 y1.drew := Ex.of_below (bl_drew (Below.refl _ _))
    have DJ : Hid (Da w kr bm (w.heap.size + 1) m (.slice x1 m.ws.length n1) (.slice x2 m.rs.length n2) (.slice x3 m.qs.length n3) (.slice x4 m.gs.length n4) (q + 3000 + 1) y1.drew) := D3.out.pick hd0 (D3.out.r.below (bl_drew (Below.refl _ _)))
    clear k2
    go_region_held3 (fun y => y.cell? ⟨bm, 2, none⟩ = some (.int .i64 m.ck))
      (first | exact K2.out _ hd0 | exact K2.out _ (hd0.trans e9))
      (first | (go_at_call 59; refine (pickQ kr _ 6 _ DJ.out.r (by omega) (by omega) (by omega)).mono ?_; rintro e y9 ⟨p9, rfl, p90, p91, r9, e9⟩))
    have D4 : Hid (Da w kr bm (w.heap.size + 1) m (.slice x1 m.ws.length n1) (.slice x2 m.rs.length n2) (.slice x3 m.qs.length n3) (.slice x4 m.gs.length n4) (q + 3000 + 1 + 1) y9) := DJ.out.pick e9 r9
    have k9 : y9.cell? ⟨bm, 2, none⟩ = some (.int .i64 m.ck) := D4.out.b 2
    have f9 : y9.frozen? ⟨bm, 2, none⟩ = false := D4.out.c 2
    have hz9 : bm < y9.heap.size := D4.out.z
    clear e9 r9 DJ K2 hd0 O3 D3
    generalize hdd : IntKind.i64.wrap (IntKind.i64.wrap (1000000 - p9) - m.ck) = dd
    go_wp2_with fail
    generalize hcc : wrap64 (m.ck + dd) = cc
    have D5 : Hid (Da w kr bm (w.heap.size + 1) { m with ck := cc } (.slice x1 m.ws.length n1) (.slice x2 m.rs.length n2) (.slice x3 m.qs.length n3) (.slice x4 m.gs.length n4) (q + 3000 + 1 + 1) (y9.setCell ⟨bm, 2, none⟩ (.int .i64 cc))) := D4.out.set 2 _ (by omega) rfl (D4.out.l.mate rfl rfl rfl rfl) D4.out.nb
    have HW : Hid (∀ x ∈ m.rs, x.fits) := fun x hx => (HF.out.r2 x hx).fits
    have hlen : m.rs.length ≤ 4 := HF.out.r1
    clear hdd hcc D4 k9 f9 hz9
    go_loopw [5] (fun i wx => ∃ (j : Nat) (rs' : List RunD) (v2 : Value), i = .int .i64 (j : Int) ∧ j ≤ m.rs.length ∧ rs'.length = m.rs.length ∧ Hid (∀ x ∈ rs', x.fits) ∧ Hid (Da w kr bm (w.heap.size + 1) { m with ck := cc, rs := rs' } (.slice x1 m.ws.length n1) v2 (.slice x3 m.qs.length n3) (.slice x4 m.gs.length n4) (q + 3000 + 1 + 1) wx)) (fun i _ => m.rs.length - (intOf i).toNat)
    case atStart => exact ⟨0, m.rs, _, rfl, Nat.zero_le _, rfl, HW.out, D5.out⟩
    case round =>
      obtain ⟨j, rs', v2, rfl, hj, hl0, HQ, HK⟩ := hrel
      have HLn : Hid (rs'.length = m.rs.length) := hl0
      have hj' : j ≤ rs'.length := by omega
      clear hl0 hj
      obtain ⟨a2, c2, hs2⟩ := Sl.shape HK.out.l.a2
      have hs2 : v2 = .slice a2 rs'.length c2 := hs2
      subst hs2
      have kb6 : wr.cell? ⟨bm, 6, none⟩ = some (.slice a2 rs'.length c2) := HK.out.b 6
      have hbz : bm < wr.heap.size := HK.out.z
      by_cases hjl : j < rs'.length
      · obtain ⟨g, rfl, hg1, hg2, hR, hth⟩ := Sl.blk HK.out.l.a2 hjl
        obtain ⟨r, hr⟩ : ∃ r, rs'[j]? = some r := ⟨rs'[j], List.getElem?_eq_getElem hjl⟩
        have Hr : Hid (rs'[j]? = some r) := hr
        have Hm : Hid (r.fits) := HQ.out r (List.mem_of_getElem? hr)
        obtain ⟨-, -, cr2, -, -, -, -, -, -, -, cr10⟩ := hR.at hr
        simp only [Nat.zero_add] at cr2 cr10
        obtain ⟨-, fr10⟩ := cell_at hth (j * 11 + 10) (by show _ < rs'.length * 11; omega)
        have j0 : (0 : Int) ≤ (j : Int) := by omega
        have j1 : (j : Int) < (rs'.length : Int) := by omega
        have hbg : bm ≠ g := fun e => HK.out.nb.2.1 (by rw [e]; rfl)
        clear hr hth hR
        have hjb : j < 4 := by have := HLn.out; omega
        cases hq : r.h.toList.isEmpty
        · go_upto_region 13 with (fail)
          go_region
          go_wp2
          have HP : Hid (Da w kr bm (w.heap.size + 1) { m with ck := cc, rs := rs'.set j ⟨r.c, r.h, r.v, r.p, r.s, r.d, r.g, r.a, r.b, r.i, wrap64 (r.u + dd)⟩ } (.slice x1 m.ws.length n1) (.slice (some ⟨g, 0, none⟩) rs'.length c2) (.slice x3 m.qs.length n3) (.slice x4 m.gs.length n4) (q + 3000 + 1 + 1) (wr.setCell ⟨g, j * 11 + 10, none⟩ (.int .i64 (wrap64 (r.u + dd))))) := HK.out.run (r' := ⟨r.c, r.h, r.v, r.p, r.s, r.d, r.g, r.a, r.b, r.i, wrap64 (r.u + dd)⟩) Hr.out rfl (by omega)
          exact ⟨⟨j + 1, rs'.set j ⟨r.c, r.h, r.v, r.p, r.s, r.d, r.g, r.a, r.b, r.i, wrap64 (r.u + dd)⟩, _, by go_num, by have := HLn.out; omega, by rw [List.length_set]; exact HLn.out, fits_put HQ.out ⟨Hm.out.1, Hm.out.2.1, Hm.out.2.2.1, Hm.out.2.2.2⟩, HP.out.below (bl_drew (Below.refl _ _))⟩, by have := HLn.out; simp [intOf]; omega⟩
        · go_wp2
          exact ⟨⟨j + 1, rs', _, by go_num, by have := HLn.out; omega, HLn.out, HQ.out, HK.out⟩, by have := HLn.out; simp [intOf]; omega⟩
      · have kb := HK.out.b
        have hth9 := HK.out.d
        have HT9 : Hid (wr.there w.heap.size 0 9) := hth9
        have hs9 := HK.out.l
        have HS9 : Hid (SlM wr { m with ck := cc, rs := rs' } (.slice x1 m.ws.length n1) (.slice a2 rs'.length c2) (.slice x3 m.qs.length n3) (.slice x4 m.gs.length n4) (w.heap.size + 1)) := hs9
        have HR8 : Hid (Rq wr kr (q + 9000)) := HK.out.r.up (by omega)
        have HE8 : Hid (Ex kr w wr) := HK.out.e
        have HF9 : Hid (MateD.fits { m with ck := cc, rs := rs' }) := fits_ck2 HF.out.fits HQ.out (by have := HLn.out; omega)
        have Ho : Hid (∀ u ∈ ([.string { m with ck := cc, rs := rs' }.nm, .bool { m with ck := cc, rs := rs' }.up, .int .i64 { m with ck := cc, rs := rs' }.ck, .bool { m with ck := cc, rs := rs' }.kn, .int .i64 { m with ck := cc, rs := rs' }.se, .slice x1 m.ws.length n1, .slice a2 rs'.length c2, .slice x3 m.qs.length n3, .slice x4 m.gs.length n4] : List Value), u.oneCell' = true) := ones { m with ck := cc, rs := rs' } HS9.out.a1 HS9.out.a2 HS9.out.a3 HS9.out.a4
        have HX : Hid (Ex w.heap.size wr (wr.setCells w.heap.size 0 [.string { m with ck := cc, rs := rs' }.nm, .bool { m with ck := cc, rs := rs' }.up, .int .i64 { m with ck := cc, rs := rs' }.ck, .bool { m with ck := cc, rs := rs' }.kn, .int .i64 { m with ck := cc, rs := rs' }.se, .slice x1 m.ws.length n1, .slice a2 rs'.length c2, .slice x3 m.qs.length n3, .slice x4 m.gs.length n4])) := (Ex.refl _ _).cells _ _
        have Hg : Hid (wr.grownBy (wr.setCells w.heap.size 0 [.string { m with ck := cc, rs := rs' }.nm, .bool { m with ck := cc, rs := rs' }.up, .int .i64 { m with ck := cc, rs := rs' }.ck, .bool { m with ck := cc, rs := rs' }.kn, .int .i64 { m with ck := cc, rs := rs' }.se, .slice x1 m.ws.length n1, .slice a2 rs'.length c2, .slice x3 m.qs.length n3, .slice x4 m.gs.length n4]) (some w.heap.size)) := A.ex_grown HX.out
        clear hth9 hs9
        go_wp2_with (refine wpList_store_mid (by rfl) 27 _ _ (by rfl) w.heap.size 0 #[.string { m with ck := cc, rs := rs' }.nm, .bool { m with ck := cc, rs := rs' }.up, .int .i64 { m with ck := cc, rs := rs' }.ck, .bool { m with ck := cc, rs := rs' }.kn, .int .i64 { m with ck := cc, rs := rs' }.se, .slice x1 m.ws.length n1, .slice a2 rs'.length c2, .slice x3 m.qs.length n3, .slice x4 m.gs.length n4] (by rfl) (by rfl) (by exact HT9.out) hinfo (by exact all_oneCell_toArray Ho.out) ?_)
        have hrg := World.rangeAt_setCells_same wr w.heap.size 0 [.string { m with ck := cc, rs := rs' }.nm, .bool { m with ck := cc, rs := rs' }.up, .int .i64 { m with ck := cc, rs := rs' }.ck, .bool { m with ck := cc, rs := rs' }.kn, .int .i64 { m with ck := cc, rs := rs' }.se, .slice x1 m.ws.length n1, .slice a2 rs'.length c2, .slice x3 m.qs.length n3, .slice x4 m.gs.length n4] HT9.out
        have HL : Hid (SlM (wr.setCells w.heap.size 0 [.string { m with ck := cc, rs := rs' }.nm, .bool { m with ck := cc, rs := rs' }.up, .int .i64 { m with ck := cc, rs := rs' }.ck, .bool { m with ck := cc, rs := rs' }.kn, .int .i64 { m with ck := cc, rs := rs' }.se, .slice x1 m.ws.length n1, .slice a2 rs'.length c2, .slice x3 m.qs.length n3, .slice x4 m.gs.length n4]) { m with ck := cc, rs := rs' } (.slice x1 m.ws.length n1) (.slice a2 rs'.length c2) (.slice x3 m.qs.length n3) (.slice x4 m.gs.length n4) w.heap.size) := (HS9.out.ex HX.out (by omega)).low (by omega)
        have HR9 : Hid (Rq (wr.setCells w.heap.size 0 [.string { m with ck := cc, rs := rs' }.nm, .bool { m with ck := cc, rs := rs' }.up, .int .i64 { m with ck := cc, rs := rs' }.ck, .bool { m with ck := cc, rs := rs' }.kn, .int .i64 { m with ck := cc, rs := rs' }.se, .slice x1 m.ws.length n1, .slice a2 rs'.length c2, .slice x3 m.qs.length n3, .slice x4 m.gs.length n4]) kr (q + 9000)) := HR8.out.grown Hg.out (fun a ha => by cases ha; omega)
        have HE9 : Hid (Ex kr w (wr.setCells w.heap.size 0 [.string { m with ck := cc, rs := rs' }.nm, .bool { m with ck := cc, rs := rs' }.up, .int .i64 { m with ck := cc, rs := rs' }.ck, .bool { m with ck := cc, rs := rs' }.kn, .int .i64 { m with ck := cc, rs := rs' }.se, .slice x1 m.ws.length n1, .slice a2 rs'.length c2, .slice x3 m.qs.length n3, .slice x4 m.gs.length n4])) := HE8.out.grown Hg.out (fun a ha => by cases ha; omega)
        clear HX Hg Ho HT9 HS9 HR8 HE8
        generalize (wr.setCells w.heap.size 0 [.string { m with ck := cc, rs := rs' }.nm, .bool { m with ck := cc, rs := rs' }.up, .int .i64 { m with ck := cc, rs := rs' }.ck, .bool { m with ck := cc, rs := rs' }.kn, .int .i64 { m with ck := cc, rs := rs' }.se, .slice x1 m.ws.length n1, .slice a2 rs'.length c2, .slice x3 m.qs.length n3, .slice x4 m.gs.length n4]) = X at hrg HL HR9 HE9 ⊢
        have d0 := hrg 0 _ rfl
        have d1 := hrg 1 _ rfl
        have d2 := hrg 2 _ rfl
        have d3 := hrg 3 _ rfl
        have d4 := hrg 4 _ rfl
        have d5 := hrg 5 _ rfl
        have d6 := hrg 6 _ rfl
        have d7 := hrg 7 _ rfl
        have d8 := hrg 8 _ rfl
        simp only [Nat.zero_add] at d0 d1 d2 d3 d4 d5 d6 d7 d8
        refine bodyPost_ret (v := .agg #[.string { m with ck := cc, rs := rs' }.nm, .bool { m with ck := cc, rs := rs' }.up, .int .i64 { m with ck := cc, rs := rs' }.ck, .bool { m with ck := cc, rs := rs' }.kn, .int .i64 { m with ck := cc, rs := rs' }.se, .slice x1 m.ws.length n1, .slice a2 rs'.length c2, .slice x3 m.qs.length n3, .slice x4 m.gs.length n4]) ?_ rfl ?_
        · simp [results, Try.results58, go_sem, d0, d1, d2, d3, d4, d5, d6, d7, d8]
        · exact ⟨{ m with ck := cc, rs := rs' }, _, _, _, _, _, _, _, _, rfl, HL.out, hcw, HF9.out, HR9.out, HE9.out⟩
  by_cases hz3 : z = 3
  · subst hz3
    have kb1 : y1.cell? ⟨bm, 1, none⟩ = some (.bool m.up) := D3.out.b 1
    cases hup : m.up
    · rw [hup] at kb1
      clear hup
      go_upto_if 61 with (fail)
      clear kb1
      have kb := D3.out.b
      have hth9 := D3.out.d
      have HT9 : Hid (y1.there w.heap.size 0 9) := hth9
      have hs9 := D3.out.l
      have HS9 : Hid (SlM y1 m (.slice x1 m.ws.length n1) (.slice x2 m.rs.length n2) (.slice x3 m.qs.length n3) (.slice x4 m.gs.length n4) (w.heap.size + 1)) := hs9
      have HR8 : Hid (Rq y1 kr (q + 9000)) := D3.out.r.up (by omega)
      have HE8 : Hid (Ex kr w y1) := D3.out.e
      have HF9 : Hid (MateD.fits m) := HF.out.fits
      have Ho : Hid (∀ u ∈ ([.string m.nm, .bool m.up, .int .i64 m.ck, .bool m.kn, .int .i64 m.se, .slice x1 m.ws.length n1, .slice x2 m.rs.length n2, .slice x3 m.qs.length n3, .slice x4 m.gs.length n4] : List Value), u.oneCell' = true) := ones m HS9.out.a1 HS9.out.a2 HS9.out.a3 HS9.out.a4
      have HX : Hid (Ex w.heap.size y1 (y1.setCells w.heap.size 0 [.string m.nm, .bool m.up, .int .i64 m.ck, .bool m.kn, .int .i64 m.se, .slice x1 m.ws.length n1, .slice x2 m.rs.length n2, .slice x3 m.qs.length n3, .slice x4 m.gs.length n4])) := (Ex.refl _ _).cells _ _
      have Hg : Hid (y1.grownBy (y1.setCells w.heap.size 0 [.string m.nm, .bool m.up, .int .i64 m.ck, .bool m.kn, .int .i64 m.se, .slice x1 m.ws.length n1, .slice x2 m.rs.length n2, .slice x3 m.qs.length n3, .slice x4 m.gs.length n4]) (some w.heap.size)) := A.ex_grown HX.out
      clear hth9 hs9
      go_wp2_with (refine wpList_store_mid (by rfl) 27 _ _ (by rfl) w.heap.size 0 #[.string m.nm, .bool m.up, .int .i64 m.ck, .bool m.kn, .int .i64 m.se, .slice x1 m.ws.length n1, .slice x2 m.rs.length n2, .slice x3 m.qs.length n3, .slice x4 m.gs.length n4] (by rfl) (by rfl) (by exact HT9.out) hinfo (by exact all_oneCell_toArray Ho.out) ?_)
      have hrg := World.rangeAt_setCells_same y1 w.heap.size 0 [.string m.nm, .bool m.up, .int .i64 m.ck, .bool m.kn, .int .i64 m.se, .slice x1 m.ws.length n1, .slice x2 m.rs.length n2, .slice x3 m.qs.length n3, .slice x4 m.gs.length n4] HT9.out
      have HL : Hid (SlM (y1.setCells w.heap.size 0 [.string m.nm, .bool m.up, .int .i64 m.ck, .bool m.kn, .int .i64 m.se, .slice x1 m.ws.length n1, .slice x2 m.rs.length n2, .slice x3 m.qs.length n3, .slice x4 m.gs.length n4]) m (.slice x1 m.ws.length n1) (.slice x2 m.rs.length n2) (.slice x3 m.qs.length n3) (.slice x4 m.gs.length n4) w.heap.size) := (HS9.out.ex HX.out (by omega)).low (by omega)
      have HR9 : Hid (Rq (y1.setCells w.heap.size 0 [.string m.nm, .bool m.up, .int .i64 m.ck, .bool m.kn, .int .i64 m.se, .slice x1 m.ws.length n1, .slice x2 m.rs.length n2, .slice x3 m.qs.length n3, .slice x4 m.gs.length n4]) kr (q + 9000)) := HR8.out.grown Hg.out (fun a ha => by cases ha; omega)
      have HE9 : Hid (Ex kr w (y1.setCells w.heap.size 0 [.string m.nm, .bool m.up, .int .i64 m.ck, .bool m.kn, .int .i64 m.se, .slice x1 m.ws.length n1, .slice x2 m.rs.length n2, .slice x3 m.qs.length n3, .slice x4 m.gs.length n4])) := HE8.out.grown Hg.out (fun a ha => by cases ha; omega)
      clear HX Hg Ho HT9 HS9 HR8 HE8
      generalize (y1.setCells w.heap.size 0 [.string m.nm, .bool m.up, .int .i64 m.ck, .bool m.kn, .int .i64 m.se, .slice x1 m.ws.length n1, .slice x2 m.rs.length n2, .slice x3 m.qs.length n3, .slice x4 m.gs.length n4]) = X at hrg HL HR9 HE9 ⊢
      have d0 := hrg 0 _ rfl
      have d1 := hrg 1 _ rfl
      have d2 := hrg 2 _ rfl
      have d3 := hrg 3 _ rfl
      have d4 := hrg 4 _ rfl
      have d5 := hrg 5 _ rfl
      have d6 := hrg 6 _ rfl
      have d7 := hrg 7 _ rfl
      have d8 := hrg 8 _ rfl
      simp only [Nat.zero_add] at d0 d1 d2 d3 d4 d5 d6 d7 d8
      refine bodyPost_ret (v := .agg #[.string m.nm, .bool m.up, .int .i64 m.ck, .bool m.kn, .int .i64 m.se, .slice x1 m.ws.length n1, .slice x2 m.rs.length n2, .slice x3 m.qs.length n3, .slice x4 m.gs.length n4]) ?_ rfl ?_
      · simp [results, Try.results58, go_sem, d0, d1, d2, d3, d4, d5, d6, d7, d8]
      · exact ⟨m, _, _, _, _, _, _, _, _, rfl, HL.out, hcw, HF9.out, HR9.out, HE9.out⟩
    · have O4 : Hid (Ow y1 (.slice x2 m.rs.length n2) m.rs (w.heap.size + 1)) := O3.out hup
      rw [hup] at kb1
      clear hup
      go_upto_if 61 with (fail)
      clear kb1 O3
      have HW : Hid (∀ x ∈ m.rs, x.fits) := fun x hx => (HF.out.r2 x hx).fits
      have hlen : m.rs.length ≤ 4 := HF.out.r1
      obtain ⟨i0, hi, hz0, hz1, hz2⟩ := info_parts infoR
      go_wp2_with fail
      go_loopw [6] (fun i wx => ∃ (j : Nat) (rs' : List RunD) (v2 : Value), i = .int .i64 (j : Int) ∧ j ≤ 20 ∧ rs'.length = m.rs.length + j ∧ rs'.length ≤ 20 ∧ Hid (∀ x ∈ rs', x.fits) ∧ Hid (Ow wx v2 rs' (w.heap.size + 1)) ∧ Hid (Da w kr bm (w.heap.size + 1) { m with rs := rs' } (.slice x1 m.ws.length n1) v2 (.slice x3 m.qs.length n3) (.slice x4 m.gs.length n4) (q + 3001 + j) wx)) (fun i _ => 20 - (intOf i).toNat)
      case atStart => exact ⟨0, m.rs, _, rfl, Nat.zero_le _, rfl, by omega, HW.out, O4.out, Da.up D3.out (by omega)⟩
      case round =>
        obtain ⟨j, rs', v2, rfl, hj, hl0, hl1, HQ, HO, HK⟩ := hrel
        have HLn : Hid (rs'.length = m.rs.length + j) := hl0
        clear hl0
        obtain ⟨a2, c2, hs2⟩ := HO.out.shape
        subst hs2
        have kb6 : wr.cell? ⟨bm, 6, none⟩ = some (.slice a2 rs'.length c2) := HK.out.b 6
        go_upto_region 17 with (fail)
        have K6 : Hid (∀ y, Ex kr wr y → y.cell? ⟨bm, 6, none⟩ = some (.slice a2 rs'.length c2)) := fun y he => (he.cell (p := ⟨bm, 6, none⟩) HK.out.z (by show bm ≠ kr; omega)).trans kb6
        have hd0 : Ex kr wr wr.drew := Ex.of_below (bl_drew (Below.refl _ _))
        have DJ : Hid (Da w kr bm (w.heap.size + 1) { m with rs := rs' } (.slice x1 m.ws.length n1) (.slice a2 rs'.length c2) (.slice x3 m.qs.length n3) (.slice x4 m.gs.length n4) (q + 3001 + j) wr.drew) := HK.out.below (bl_drew (Below.refl _ _))
        clear kb6
        go_region_held3 (fun y => y.cell? ⟨bm, 6, none⟩ = some (.slice a2 rs'.length c2))
          (first | exact K6.out _ hd0 | exact K6.out _ (hd0.trans e9))
          (first | (go_at_call 59; refine (pickQ kr _ 2 _ DJ.out.r (by omega) (by omega) (by omega)).mono ?_; rintro e y9 ⟨p9, rfl, p90, p91, r9, e9⟩))
        have D4 : Hid (Da w kr bm (w.heap.size + 1) { m with rs := rs' } (.slice x1 m.ws.length n1) (.slice a2 rs'.length c2) (.slice x3 m.qs.length n3) (.slice x4 m.gs.length n4) (q + 3001 + j + 1) y9) := DJ.out.pick e9 r9
        have O4 : Hid (Ow y9 (.slice a2 rs'.length c2) rs' (w.heap.size + 1)) := HO.out.exk (hd0.trans e9) (by omega)
        clear e9 r9 DJ K6 hd0 HO HK
        obtain ⟨L, hL⟩ : ∃ L : Int, L = 20 - p9 := ⟨_, rfl⟩
        have iw : IntKind.i64.wrap (20 - p9) = 20 - p9 := by rw [IntKind.wrap_i64]; omega
        by_cases hlt : (rs'.length : Int) < 20 - p9
        · have kb6 : y9.cell? ⟨bm, 6, none⟩ = some (.slice a2 rs'.length c2) := D4.out.b 6
          have kz6 : bm < y9.heap.size := D4.out.z
          have hb := build_byte
          have hc := conv_byte
          have hju : j < 20 := by have := HLn.out; omega
          go_wp2_with (at_builtin; refine wpList_append_own_at _ rfl _ _ 24 rfl (w.heap.size + 1) 38 i0 _ 11 104 Try.underlying24 hi hz0 hz1 hz2 rfl (by decide) (.slice a2 rs'.length c2) rs'.length _ rfl (by exact owns_below O4.out (bl_alloc (bl_alloc (Below.refl _ _) _) _)) ⟨_, 0, none⟩ 1 1 (⟨({ data := #[100] } ++ { data := #[97 + UInt8.ofNat j] } : ByteArray), { data := #[] }, 1, 0, 0, 0, 2, 4, 0, 0, 0⟩ : RunD).cells rfl rfl (new_cells _ _ (by simp) _ _ _ rfl) (cellsR_one _) (by unfold maxLen; omega) (by omega) (by have h1 := D4.out.z; simp; omega) ?_; intro v9 y8 ho hg hn hat; have hO9 : Ow y8 v9 (rs' ++ [(⟨({ data := #[100] } ++ { data := #[97 + UInt8.ofNat j] } : ByteArray), { data := #[] }, 1, 0, 0, 0, 2, 4, 0, 0, 0⟩ : RunD)]) (w.heap.size + 1) := own_snoc ho; have K9 := da_rest (D4.out.below (bl_alloc (bl_alloc (Below.refl _ _) _) _)) hg (fun a ha => ⟨by have := (O4.out.lt a ha).1; omega, fun e => D4.out.nb.2.1 (by rw [ha, e])⟩); have kb9 : y8.cell? ⟨bm, 6, none⟩ = some (.slice a2 rs'.length c2) := K9.1 6; have kf9 : y8.frozen? ⟨bm, 6, none⟩ = false := K9.2.1 6; have HA : Hid (Da w kr bm (w.heap.size + 1) { m with rs := rs' ++ [(⟨({ data := #[100] } ++ { data := #[97 + UInt8.ofNat j] } : ByteArray), { data := #[] }, 1, 0, 0, 0, 2, 4, 0, 0, 0⟩ : RunD)] } (.slice x1 m.ws.length n1) v9 (.slice x3 m.qs.length n3) (.slice x4 m.gs.length n4) (q + 3001 + j + 1) (y8.setCell ⟨bm, 6, none⟩ v9)) := (by have h9 := Da.app2 (D4.out.below (bl_alloc (bl_alloc (Below.refl _ _) _) _)) hg hO9 hat; exact h9); have HO9 : Hid (Ow (y8.setCell ⟨bm, 6, none⟩ v9) v9 (rs' ++ [(⟨({ data := #[100] } ++ { data := #[97 + UInt8.ofNat j] } : ByteArray), { data := #[] }, 1, 0, 0, 0, 2, 4, 0, 0, 0⟩ : RunD)]) (w.heap.size + 1)) := hO9.grown (A.ex_grown ((Ex.refl bm y8).set 6 v9)) (ob_ne1 HA.out.nb.2.1); obtain ⟨a9, p8, hs9⟩ := ownsShape ho; subst hs9; clear K9 ho hg hn hat hO9 hb hc)
          exact ⟨⟨j + 1, rs' ++ [(⟨({ data := #[100] } ++ { data := #[97 + UInt8.ofNat j] } : ByteArray), { data := #[] }, 1, 0, 0, 0, 2, 4, 0, 0, 0⟩ : RunD)], _, by go_num, by omega, by have := HLn.out; simp; omega, by simp; omega, fitsR_snoc HQ.out ⟨by rw [size_front]; show 1 + 1 ≤ maxLen; unfold maxLen; omega, by show (⟨#[]⟩ : ByteArray).size ≤ maxLen; unfold maxLen; decide, by show (0 : Int) ≤ _; omega, by show _ ≤ (0 : Int); omega⟩, HO9.out, HA.out.up (by omega)⟩, by simp [intOf]; omega⟩
        · have kb := D4.out.b
          have hth9 := D4.out.d
          have HT9 : Hid (y9.there w.heap.size 0 9) := hth9
          have hs9 := D4.out.l
          have HS9 : Hid (SlM y9 { m with rs := rs' } (.slice x1 m.ws.length n1) (.slice a2 rs'.length c2) (.slice x3 m.qs.length n3) (.slice x4 m.gs.length n4) (w.heap.size + 1)) := hs9
          have HR8 : Hid (Rq y9 kr (q + 9000)) := D4.out.r.up (by omega)
          have HE8 : Hid (Ex kr w y9) := D4.out.e
          have HF9 : Hid (MateD.fits { m with rs := rs' }) := fits_rs2 HF.out.fits HQ.out (by omega)
          have Ho : Hid (∀ u ∈ ([.string { m with rs := rs' }.nm, .bool { m with rs := rs' }.up, .int .i64 { m with rs := rs' }.ck, .bool { m with rs := rs' }.kn, .int .i64 { m with rs := rs' }.se, .slice x1 m.ws.length n1, .slice a2 rs'.length c2, .slice x3 m.qs.length n3, .slice x4 m.gs.length n4] : List Value), u.oneCell' = true) := ones { m with rs := rs' } HS9.out.a1 HS9.out.a2 HS9.out.a3 HS9.out.a4
          have HX : Hid (Ex w.heap.size y9 (y9.setCells w.heap.size 0 [.string { m with rs := rs' }.nm, .bool { m with rs := rs' }.up, .int .i64 { m with rs := rs' }.ck, .bool { m with rs := rs' }.kn, .int .i64 { m with rs := rs' }.se, .slice x1 m.ws.length n1, .slice a2 rs'.length c2, .slice x3 m.qs.length n3, .slice x4 m.gs.length n4])) := (Ex.refl _ _).cells _ _
          have Hg : Hid (y9.grownBy (y9.setCells w.heap.size 0 [.string { m with rs := rs' }.nm, .bool { m with rs := rs' }.up, .int .i64 { m with rs := rs' }.ck, .bool { m with rs := rs' }.kn, .int .i64 { m with rs := rs' }.se, .slice x1 m.ws.length n1, .slice a2 rs'.length c2, .slice x3 m.qs.length n3, .slice x4 m.gs.length n4]) (some w.heap.size)) := A.ex_grown HX.out
          clear hth9 hs9
          go_wp2_with (refine wpList_store_mid (by rfl) 27 _ _ (by rfl) w.heap.size 0 #[.string { m with rs := rs' }.nm, .bool { m with rs := rs' }.up, .int .i64 { m with rs := rs' }.ck, .bool { m with rs := rs' }.kn, .int .i64 { m with rs := rs' }.se, .slice x1 m.ws.length n1, .slice a2 rs'.length c2, .slice x3 m.qs.length n3, .slice x4 m.gs.length n4] (by rfl) (by rfl) (by exact HT9.out) hinfo (by exact all_oneCell_toArray Ho.out) ?_)
          have hrg := World.rangeAt_setCells_same y9 w.heap.size 0 [.string { m with rs := rs' }.nm, .bool { m with rs := rs' }.up, .int .i64 { m with rs := rs' }.ck, .bool { m with rs := rs' }.kn, .int .i64 { m with rs := rs' }.se, .slice x1 m.ws.length n1, .slice a2 rs'.length c2, .slice x3 m.qs.length n3, .slice x4 m.gs.length n4] HT9.out
          have HL : Hid (SlM (y9.setCells w.heap.size 0 [.string { m with rs := rs' }.nm, .bool { m with rs := rs' }.up, .int .i64 { m with rs := rs' }.ck, .bool { m with rs := rs' }.kn, .int .i64 { m with rs := rs' }.se, .slice x1 m.ws.length n1, .slice a2 rs'.length c2, .slice x3 m.qs.length n3, .slice x4 m.gs.length n4]) { m with rs := rs' } (.slice x1 m.ws.length n1) (.slice a2 rs'.length c2) (.slice x3 m.qs.length n3) (.slice x4 m.gs.length n4) w.heap.size) := (HS9.out.ex HX.out (by omega)).low (by omega)
          have HR9 : Hid (Rq (y9.setCells w.heap.size 0 [.string { m with rs := rs' }.nm, .bool { m with rs := rs' }.up, .int .i64 { m with rs := rs' }.ck, .bool { m with rs := rs' }.kn, .int .i64 { m with rs := rs' }.se, .slice x1 m.ws.length n1, .slice a2 rs'.length c2, .slice x3 m.qs.length n3, .slice x4 m.gs.length n4]) kr (q + 9000)) := HR8.out.grown Hg.out (fun a ha => by cases ha; omega)
          have HE9 : Hid (Ex kr w (y9.setCells w.heap.size 0 [.string { m with rs := rs' }.nm, .bool { m with rs := rs' }.up, .int .i64 { m with rs := rs' }.ck, .bool { m with rs := rs' }.kn, .int .i64 { m with rs := rs' }.se, .slice x1 m.ws.length n1, .slice a2 rs'.length c2, .slice x3 m.qs.length n3, .slice x4 m.gs.length n4])) := HE8.out.grown Hg.out (fun a ha => by cases ha; omega)
          clear HX Hg Ho HT9 HS9 HR8 HE8
          generalize (y9.setCells w.heap.size 0 [.string { m with rs := rs' }.nm, .bool { m with rs := rs' }.up, .int .i64 { m with rs := rs' }.ck, .bool { m with rs := rs' }.kn, .int .i64 { m with rs := rs' }.se, .slice x1 m.ws.length n1, .slice a2 rs'.length c2, .slice x3 m.qs.length n3, .slice x4 m.gs.length n4]) = X at hrg HL HR9 HE9 ⊢
          have d0 := hrg 0 _ rfl
          have d1 := hrg 1 _ rfl
          have d2 := hrg 2 _ rfl
          have d3 := hrg 3 _ rfl
          have d4 := hrg 4 _ rfl
          have d5 := hrg 5 _ rfl
          have d6 := hrg 6 _ rfl
          have d7 := hrg 7 _ rfl
          have d8 := hrg 8 _ rfl
          simp only [Nat.zero_add] at d0 d1 d2 d3 d4 d5 d6 d7 d8
          refine bodyPost_ret (v := .agg #[.string { m with rs := rs' }.nm, .bool { m with rs := rs' }.up, .int .i64 { m with rs := rs' }.ck, .bool { m with rs := rs' }.kn, .int .i64 { m with rs := rs' }.se, .slice x1 m.ws.length n1, .slice a2 rs'.length c2, .slice x3 m.qs.length n3, .slice x4 m.gs.length n4]) ?_ rfl ?_
          · simp [results, Try.results58, go_sem, d0, d1, d2, d3, d4, d5, d6, d7, d8]
          · exact ⟨{ m with rs := rs' }, _, _, _, _, _, _, _, _, rfl, HL.out, hcw, HF9.out, HR9.out, HE9.out⟩
  have kb := D3.out.b
  have hth9 := D3.out.d
  have HT9 : Hid (y1.there w.heap.size 0 9) := hth9
  have hs9 := D3.out.l
  have HS9 : Hid (SlM y1 m (.slice x1 m.ws.length n1) (.slice x2 m.rs.length n2) (.slice x3 m.qs.length n3) (.slice x4 m.gs.length n4) (w.heap.size + 1)) := hs9
  have HR8 : Hid (Rq y1 kr (q + 9000)) := D3.out.r.up (by omega)
  have HE8 : Hid (Ex kr w y1) := D3.out.e
  have HF9 : Hid (MateD.fits m) := HF.out.fits
  have Ho : Hid (∀ u ∈ ([.string m.nm, .bool m.up, .int .i64 m.ck, .bool m.kn, .int .i64 m.se, .slice x1 m.ws.length n1, .slice x2 m.rs.length n2, .slice x3 m.qs.length n3, .slice x4 m.gs.length n4] : List Value), u.oneCell' = true) := ones m HS9.out.a1 HS9.out.a2 HS9.out.a3 HS9.out.a4
  have HX : Hid (Ex w.heap.size y1 (y1.setCells w.heap.size 0 [.string m.nm, .bool m.up, .int .i64 m.ck, .bool m.kn, .int .i64 m.se, .slice x1 m.ws.length n1, .slice x2 m.rs.length n2, .slice x3 m.qs.length n3, .slice x4 m.gs.length n4])) := (Ex.refl _ _).cells _ _
  have Hg : Hid (y1.grownBy (y1.setCells w.heap.size 0 [.string m.nm, .bool m.up, .int .i64 m.ck, .bool m.kn, .int .i64 m.se, .slice x1 m.ws.length n1, .slice x2 m.rs.length n2, .slice x3 m.qs.length n3, .slice x4 m.gs.length n4]) (some w.heap.size)) := A.ex_grown HX.out
  clear hth9 hs9
  go_wp2_with (refine wpList_store_mid (by rfl) 27 _ _ (by rfl) w.heap.size 0 #[.string m.nm, .bool m.up, .int .i64 m.ck, .bool m.kn, .int .i64 m.se, .slice x1 m.ws.length n1, .slice x2 m.rs.length n2, .slice x3 m.qs.length n3, .slice x4 m.gs.length n4] (by rfl) (by rfl) (by exact HT9.out) hinfo (by exact all_oneCell_toArray Ho.out) ?_)
  have hrg := World.rangeAt_setCells_same y1 w.heap.size 0 [.string m.nm, .bool m.up, .int .i64 m.ck, .bool m.kn, .int .i64 m.se, .slice x1 m.ws.length n1, .slice x2 m.rs.length n2, .slice x3 m.qs.length n3, .slice x4 m.gs.length n4] HT9.out
  have HL : Hid (SlM (y1.setCells w.heap.size 0 [.string m.nm, .bool m.up, .int .i64 m.ck, .bool m.kn, .int .i64 m.se, .slice x1 m.ws.length n1, .slice x2 m.rs.length n2, .slice x3 m.qs.length n3, .slice x4 m.gs.length n4]) m (.slice x1 m.ws.length n1) (.slice x2 m.rs.length n2) (.slice x3 m.qs.length n3) (.slice x4 m.gs.length n4) w.heap.size) := (HS9.out.ex HX.out (by omega)).low (by omega)
  have HR9 : Hid (Rq (y1.setCells w.heap.size 0 [.string m.nm, .bool m.up, .int .i64 m.ck, .bool m.kn, .int .i64 m.se, .slice x1 m.ws.length n1, .slice x2 m.rs.length n2, .slice x3 m.qs.length n3, .slice x4 m.gs.length n4]) kr (q + 9000)) := HR8.out.grown Hg.out (fun a ha => by cases ha; omega)
  have HE9 : Hid (Ex kr w (y1.setCells w.heap.size 0 [.string m.nm, .bool m.up, .int .i64 m.ck, .bool m.kn, .int .i64 m.se, .slice x1 m.ws.length n1, .slice x2 m.rs.length n2, .slice x3 m.qs.length n3, .slice x4 m.gs.length n4])) := HE8.out.grown Hg.out (fun a ha => by cases ha; omega)
  clear HX Hg Ho HT9 HS9 HR8 HE8
  generalize (y1.setCells w.heap.size 0 [.string m.nm, .bool m.up, .int .i64 m.ck, .bool m.kn, .int .i64 m.se, .slice x1 m.ws.length n1, .slice x2 m.rs.length n2, .slice x3 m.qs.length n3, .slice x4 m.gs.length n4]) = X at hrg HL HR9 HE9 ⊢
  have d0 := hrg 0 _ rfl
  have d1 := hrg 1 _ rfl
  have d2 := hrg 2 _ rfl
  have d3 := hrg 3 _ rfl
  have d4 := hrg 4 _ rfl
  have d5 := hrg 5 _ rfl
  have d6 := hrg 6 _ rfl
  have d7 := hrg 7 _ rfl
  have d8 := hrg 8 _ rfl
  simp only [Nat.zero_add] at d0 d1 d2 d3 d4 d5 d6 d7 d8
  refine bodyPost_ret (v := .agg #[.string m.nm, .bool m.up, .int .i64 m.ck, .bool m.kn, .int .i64 m.se, .slice x1 m.ws.length n1, .slice x2 m.rs.length n2, .slice x3 m.qs.length n3, .slice x4 m.gs.length n4]) ?_ rfl ?_
  · simp [results, Try.results58, go_sem, d0, d1, d2, d3, d4, d5, d6, d7, d8]
  · exact ⟨m, _, _, _, _, _, _, _, _, rfl, HL.out, hcw, HF9.out, HR9.out, HE9.out⟩
end Go.Proofs.Ytkebokkckmgloaa
