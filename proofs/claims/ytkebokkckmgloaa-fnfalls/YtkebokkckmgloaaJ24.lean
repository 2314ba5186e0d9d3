import Derived.Test.YtkebokkckmgloaaJ23
import Derived.Test.YtkebokkckmgloaaJ16
import Derived.Test.YtkebokkckmgloaaJ18
/- MateValid: the program's side. -/
namespace Go.Proofs.Ytkebokkckmgloaa
open Go.RowKit
set_option linter.unusedVariables false

theorem noboth_iff (qs gs : List A.AskD) : (∀ r ∈ gs, (!Maps.has (A.mapD qs) (A.keyL r.h)) = true) ↔ ∀ r ∈ qs, ¬ A.HasA gs r.h := by
  constructor
  · rintro h r hr ⟨g, hg, he⟩
    have h1 := h g hg
    have h2 : Maps.has (A.mapD qs) (A.keyL g.h) = true := (A.has_mapD qs g.h).2 ⟨r, hr, by rw [beq_iff_eq] at he ⊢; exact he.symm⟩
    rw [h2] at h1; cases h1
  · intro h g hg
    cases hh : Maps.has (A.mapD qs) (A.keyL g.h)
    · rfl
    · obtain ⟨r, hr, he⟩ := (A.has_mapD qs g.h).1 hh
      exact absurd ⟨g, hg, by rw [beq_iff_eq] at he ⊢; exact he.symm⟩ (h r hr)
theorem build_valid (w : World) : Sem.run Try.prog (Instr.buildSlice 101 6 #[(0, .func (.func 70) #[] #[]), (1, .func (.func 71) #[] #[]), (2, .func (.func 72) #[] #[]), (3, .func (.func 73) #[] #[]), (4, .func (.func 74) #[] #[]), (5, .func (.func 75) #[] #[])]) w = .ok (.slice (some ⟨w.heap.size, 0, none⟩) 6 6) (w.alloc (.cells #[.func (.func 70) #[] #[], .func (.func 71) #[] #[], .func (.func 72) #[] #[], .func (.func 73) #[] #[], .func (.func 74) #[] #[], .func (.func 75) #[] #[]] 33)) := by kernel_rfl
theorem three_boxes {w w' : World} {m : MateD} {b1 b2 b3 b4 : Nat} (hb : Below (((w.alloc (.cells #[.string m.nm, .bool m.up, .int .i64 m.ck, .bool m.kn, .int .i64 m.se, .slice (some ⟨b1, 0, none⟩) m.ws.length m.ws.length, .slice (some ⟨b2, 0, none⟩) m.rs.length m.rs.length, .slice (some ⟨b3, 0, none⟩) m.qs.length m.qs.length, .slice (some ⟨b4, 0, none⟩) m.gs.length m.gs.length] 27)).alloc (.cells #[.func (.func 70) #[] #[], .func (.func 71) #[] #[], .func (.func 72) #[] #[], .func (.func 73) #[] #[], .func (.func 74) #[] #[], .func (.func 75) #[] #[]] 33)).alloc (.cells #[.string m.nm, .bool m.up, .int .i64 m.ck, .bool m.kn, .int .i64 m.se, .slice (some ⟨b1, 0, none⟩) m.ws.length m.ws.length, .slice (some ⟨b2, 0, none⟩) m.rs.length m.rs.length, .slice (some ⟨b3, 0, none⟩) m.qs.length m.qs.length, .slice (some ⟨b4, 0, none⟩) m.gs.length m.gs.length] 27)).heap.size (((w.alloc (.cells #[.string m.nm, .bool m.up, .int .i64 m.ck, .bool m.kn, .int .i64 m.se, .slice (some ⟨b1, 0, none⟩) m.ws.length m.ws.length, .slice (some ⟨b2, 0, none⟩) m.rs.length m.rs.length, .slice (some ⟨b3, 0, none⟩) m.qs.length m.qs.length, .slice (some ⟨b4, 0, none⟩) m.gs.length m.gs.length] 27)).alloc (.cells #[.func (.func 70) #[] #[], .func (.func 71) #[] #[], .func (.func 72) #[] #[], .func (.func 73) #[] #[], .func (.func 74) #[] #[], .func (.func 75) #[] #[]] 33)).alloc (.cells #[.string m.nm, .bool m.up, .int .i64 m.ck, .bool m.kn, .int .i64 m.se, .slice (some ⟨b1, 0, none⟩) m.ws.length m.ws.length, .slice (some ⟨b2, 0, none⟩) m.rs.length m.rs.length, .slice (some ⟨b3, 0, none⟩) m.qs.length m.qs.length, .slice (some ⟨b4, 0, none⟩) m.gs.length m.gs.length] 27)) w') :
    (∀ k, w'.cell? ⟨w.heap.size + 1, k, none⟩ = (#[.func (.func 70) #[] #[], .func (.func 71) #[] #[], .func (.func 72) #[] #[], .func (.func 73) #[] #[], .func (.func 74) #[] #[], .func (.func 75) #[] #[]] : Array Value)[k]?) ∧ (∀ k, w'.cell? ⟨w.heap.size + 1 + 1, k, none⟩ = (#[.string m.nm, .bool m.up, .int .i64 m.ck, .bool m.kn, .int .i64 m.se, .slice (some ⟨b1, 0, none⟩) m.ws.length m.ws.length, .slice (some ⟨b2, 0, none⟩) m.rs.length m.rs.length, .slice (some ⟨b3, 0, none⟩) m.qs.length m.qs.length, .slice (some ⟨b4, 0, none⟩) m.gs.length m.gs.length] : Array Value)[k]?) := by
  constructor
  · intro k
    rw [hb.cell (p := ⟨w.heap.size + 1, k, none⟩) (by simp)]
    simp [go_sem, World.cell?_alloc_past]
  · intro k
    rw [hb.cell (p := ⟨w.heap.size + 1 + 1, k, none⟩) (by simp)]
    simp [go_sem]

set_option maxRecDepth 4000 in
set_option maxHeartbeats 2000000 in
theorem noAsk_any (m : MateD) (b1 b2 b3 b4 : Nat) (w : World) (hL : Lists w m b1 b2 b3 b4) (hf : m.fits) :
    Calls Try.prog 74 #[.agg #[.string m.nm, .bool m.up, .int .i64 m.ck, .bool m.kn, .int .i64 m.se, .slice (some ⟨b1, 0, none⟩) m.ws.length m.ws.length, .slice (some ⟨b2, 0, none⟩) m.rs.length m.rs.length, .slice (some ⟨b3, 0, none⟩) m.qs.length m.qs.length, .slice (some ⟨b4, 0, none⟩) m.gs.length m.gs.length]] w fun e w' => (∃ q : Bool, e = .returned (.bool q) ∧ (q = true ↔ ∀ r ∈ m.qs, ¬ A.HasA m.gs r.h)) ∧ Below w.heap.size w w' := by
  have Hb0 : Hid (Below w.heap.size w (w.alloc (.cells #[.string m.nm, .bool m.up, .int .i64 m.ck, .bool m.kn, .int .i64 m.se, .slice (some ⟨b1, 0, none⟩) m.ws.length m.ws.length, .slice (some ⟨b2, 0, none⟩) m.rs.length m.rs.length, .slice (some ⟨b3, 0, none⟩) m.qs.length m.qs.length, .slice (some ⟨b4, 0, none⟩) m.gs.length m.gs.length] 27))) := bl_alloc (Below.refl _ _) _
  have HL : Hid (Lists (w.alloc (.cells #[.string m.nm, .bool m.up, .int .i64 m.ck, .bool m.kn, .int .i64 m.se, .slice (some ⟨b1, 0, none⟩) m.ws.length m.ws.length, .slice (some ⟨b2, 0, none⟩) m.rs.length m.rs.length, .slice (some ⟨b3, 0, none⟩) m.qs.length m.qs.length, .slice (some ⟨b4, 0, none⟩) m.gs.length m.gs.length] 27)) m b1 b2 b3 b4) := hL.keep Hb0.out
  go_enter Try.func74, Try.ntmps74
  go_wp2_with fail
  refine (A.byName b3 0 _ m.qs _ HL.out.r3 HL.out.l3 hf.f3 hf.k3).mono ?_
  rintro e w1 ⟨rfl, o1, c1⟩
  have k1 := box_keep c1
  have lb : w.heap.size < w1.heap.size := boxlt c1
  have HL1 : Hid _ := HL.out.keep c1
  have C1 : Hid _ := bl_trans Hb0.out c1
  have O1 : Hid (w1.ownsMap Try.prog 9 A.RU (w.heap.size + 1) m.qs.length (A.mapD m.qs)) := by have := o1; simp only [World.size_alloc] at this; exact this
  clear o1 c1
  go_wp2_with fail
  have hb1 : Hid (Below w1.heap.size w1 (w1.alloc (.cells #[.map (some (w.heap.size + 1))] 152))) := bl_alloc (Below.refl _ _) _
  have hck : ∀ x, Below (w1.alloc (.cells #[.map (some (w.heap.size + 1))] 152)).heap.size (w1.alloc (.cells #[.map (some (w.heap.size + 1))] 152)) x → x.cell? ⟨w1.heap.size, 0, none⟩ = some (.map (some (w.heap.size + 1))) := fun x hx => by rw [box_keep hx 0]; simp [go_sem]
  have hlk : ∀ x, Below (w1.alloc (.cells #[.map (some (w.heap.size + 1))] 152)).heap.size (w1.alloc (.cells #[.map (some (w.heap.size + 1))] 152)) x → w1.heap.size < x.heap.size := fun x hx => by have := hx.size; simp at this; omega
  have all := A.allGiven w1.heap.size (fun r => !Maps.has (A.mapD m.qs) (A.keyL r.h)) b4 0 m.gs.length m.gs (w1.alloc (.cells #[.map (some (w.heap.size + 1))] 152)) (HL1.out.keep hb1.out).r4 (HL1.out.keep hb1.out).l4 hf.k4 (fun r hr x hx => A.closGiven r w1.heap.size _ _ _ x (hck x hx) (hlk x hx) (A.owns_map_below (World.ownsMap.alloc O1.out _) hx) (hf.f4 r hr))
  have ALL : Hid _ := all
  clear all hck hlk
  first
  | refine Calls.mono ALL.out ?_
  | (have a2 := ALL.out; simp only [World.size_alloc] at a2; refine Calls.mono a2 ?_)
  rintro e w2 ⟨⟨q2, rfl, h2⟩, c2⟩
  have H2 : Hid _ := h2
  have C2 : Hid _ := bl_trans (bl_trans C1.out hb1.out) c2
  clear h2 c2
  go_wp2
  go_ret
  exact ⟨⟨q2, rfl, H2.out.trans (noboth_iff m.qs m.gs)⟩, C2.out⟩

set_option maxRecDepth 4000 in
set_option maxHeartbeats 2000000 in
theorem implValid (m : MateD) (b1 b2 b3 b4 : Nat) (w : World) (hL : Lists w m b1 b2 b3 b4) (hf : m.fits) :
    Calls Try.prog 21 #[.agg #[.string m.nm, .bool m.up, .int .i64 m.ck, .bool m.kn, .int .i64 m.se, .slice (some ⟨b1, 0, none⟩) m.ws.length m.ws.length, .slice (some ⟨b2, 0, none⟩) m.rs.length m.rs.length, .slice (some ⟨b3, 0, none⟩) m.qs.length m.qs.length, .slice (some ⟨b4, 0, none⟩) m.gs.length m.gs.length]] w fun e w' => (∃ q : Bool, e = .returned (.bool q) ∧ SaysV q m) ∧ Below w.heap.size w w' := by
  have Hb0 : Hid (Below w.heap.size w (w.alloc (.cells #[.string m.nm, .bool m.up, .int .i64 m.ck, .bool m.kn, .int .i64 m.se, .slice (some ⟨b1, 0, none⟩) m.ws.length m.ws.length, .slice (some ⟨b2, 0, none⟩) m.rs.length m.rs.length, .slice (some ⟨b3, 0, none⟩) m.qs.length m.qs.length, .slice (some ⟨b4, 0, none⟩) m.gs.length m.gs.length] 27))) := bl_alloc (Below.refl _ _) _
  have HL : Hid (Lists (w.alloc (.cells #[.string m.nm, .bool m.up, .int .i64 m.ck, .bool m.kn, .int .i64 m.se, .slice (some ⟨b1, 0, none⟩) m.ws.length m.ws.length, .slice (some ⟨b2, 0, none⟩) m.rs.length m.rs.length, .slice (some ⟨b3, 0, none⟩) m.qs.length m.qs.length, .slice (some ⟨b4, 0, none⟩) m.gs.length m.gs.length] 27)) m b1 b2 b3 b4) := hL.keep Hb0.out
  have hbv := build_valid
  have hx0 : Below w.heap.size w (((w.alloc (.cells #[.string m.nm, .bool m.up, .int .i64 m.ck, .bool m.kn, .int .i64 m.se, .slice (some ⟨b1, 0, none⟩) m.ws.length m.ws.length, .slice (some ⟨b2, 0, none⟩) m.rs.length m.rs.length, .slice (some ⟨b3, 0, none⟩) m.qs.length m.qs.length, .slice (some ⟨b4, 0, none⟩) m.gs.length m.gs.length] 27)).alloc (.cells #[.func (.func 70) #[] #[], .func (.func 71) #[] #[], .func (.func 72) #[] #[], .func (.func 73) #[] #[], .func (.func 74) #[] #[], .func (.func 75) #[] #[]] 33)).alloc (.cells #[.string m.nm, .bool m.up, .int .i64 m.ck, .bool m.kn, .int .i64 m.se, .slice (some ⟨b1, 0, none⟩) m.ws.length m.ws.length, .slice (some ⟨b2, 0, none⟩) m.rs.length m.rs.length, .slice (some ⟨b3, 0, none⟩) m.qs.length m.qs.length, .slice (some ⟨b4, 0, none⟩) m.gs.length m.gs.length] 27)) := bl_alloc (bl_alloc (bl_alloc (Below.refl _ _) _) _) _
  have Hx0 : Hid _ := hx0
  have HL0 : Hid _ := hL.keep hx0
  clear hx0
  go_enter Try.func21, Try.ntmps21
  go_wp2_with go_in
  clear hbv
  refine wp_loop_rounds 7 ?_
  rw [rounds_succ]
  go_wp2_with fail
  refine (partsOk_any m b1 b2 b3 b4 _ HL0.out hf).mono ?_
  rintro e w1 ⟨⟨q1, rfl, h1⟩, c1⟩
  have H1 : Hid _ := h1
  have C1 : Hid (Below (((w.alloc (.cells #[.string m.nm, .bool m.up, .int .i64 m.ck, .bool m.kn, .int .i64 m.se, .slice (some ⟨b1, 0, none⟩) m.ws.length m.ws.length, .slice (some ⟨b2, 0, none⟩) m.rs.length m.rs.length, .slice (some ⟨b3, 0, none⟩) m.qs.length m.qs.length, .slice (some ⟨b4, 0, none⟩) m.gs.length m.gs.length] 27)).alloc (.cells #[.func (.func 70) #[] #[], .func (.func 71) #[] #[], .func (.func 72) #[] #[], .func (.func 73) #[] #[], .func (.func 74) #[] #[], .func (.func 75) #[] #[]] 33)).alloc (.cells #[.string m.nm, .bool m.up, .int .i64 m.ck, .bool m.kn, .int .i64 m.se, .slice (some ⟨b1, 0, none⟩) m.ws.length m.ws.length, .slice (some ⟨b2, 0, none⟩) m.rs.length m.rs.length, .slice (some ⟨b3, 0, none⟩) m.qs.length m.qs.length, .slice (some ⟨b4, 0, none⟩) m.gs.length m.gs.length] 27)).heap.size (((w.alloc (.cells #[.string m.nm, .bool m.up, .int .i64 m.ck, .bool m.kn, .int .i64 m.se, .slice (some ⟨b1, 0, none⟩) m.ws.length m.ws.length, .slice (some ⟨b2, 0, none⟩) m.rs.length m.rs.length, .slice (some ⟨b3, 0, none⟩) m.qs.length m.qs.length, .slice (some ⟨b4, 0, none⟩) m.gs.length m.gs.length] 27)).alloc (.cells #[.func (.func 70) #[] #[], .func (.func 71) #[] #[], .func (.func 72) #[] #[], .func (.func 73) #[] #[], .func (.func 74) #[] #[], .func (.func 75) #[] #[]] 33)).alloc (.cells #[.string m.nm, .bool m.up, .int .i64 m.ck, .bool m.kn, .int .i64 m.se, .slice (some ⟨b1, 0, none⟩) m.ws.length m.ws.length, .slice (some ⟨b2, 0, none⟩) m.rs.length m.rs.length, .slice (some ⟨b3, 0, none⟩) m.qs.length m.qs.length, .slice (some ⟨b4, 0, none⟩) m.gs.length m.gs.length] 27)) w1) := c1
  clear h1 c1
  obtain ⟨kf1, km1⟩ := three_boxes C1.out
  cases q1
  · go_wp2
    go_ret
    exact ⟨⟨false, rfl, saysV_no (fun h => by have := H1.out.2 h.1; cases this)⟩, bl_trans Hx0.out C1.out⟩
  have G1 : Hid (partsB m = true) := H1.out.1 rfl
  clear H1
  have HL1 : Hid _ := HL0.out.keep C1.out
  go_wp2_with fail
  rw [rounds_succ]
  go_wp2_with fail
  refine (wantsHeard_any m b1 b2 b3 b4 _ HL1.out hf).mono ?_
  rintro e w2 ⟨⟨q2, rfl, h2⟩, c2⟩
  have H2 : Hid _ := h2
  have C2 : Hid (Below (((w.alloc (.cells #[.string m.nm, .bool m.up, .int .i64 m.ck, .bool m.kn, .int .i64 m.se, .slice (some ⟨b1, 0, none⟩) m.ws.length m.ws.length, .slice (some ⟨b2, 0, none⟩) m.rs.length m.rs.length, .slice (some ⟨b3, 0, none⟩) m.qs.length m.qs.length, .slice (some ⟨b4, 0, none⟩) m.gs.length m.gs.length] 27)).alloc (.cells #[.func (.func 70) #[] #[], .func (.func 71) #[] #[], .func (.func 72) #[] #[], .func (.func 73) #[] #[], .func (.func 74) #[] #[], .func (.func 75) #[] #[]] 33)).alloc (.cells #[.string m.nm, .bool m.up, .int .i64 m.ck, .bool m.kn, .int .i64 m.se, .slice (some ⟨b1, 0, none⟩) m.ws.length m.ws.length, .slice (some ⟨b2, 0, none⟩) m.rs.length m.rs.length, .slice (some ⟨b3, 0, none⟩) m.qs.length m.qs.length, .slice (some ⟨b4, 0, none⟩) m.gs.length m.gs.length] 27)).heap.size (((w.alloc (.cells #[.string m.nm, .bool m.up, .int .i64 m.ck, .bool m.kn, .int .i64 m.se, .slice (some ⟨b1, 0, none⟩) m.ws.length m.ws.length, .slice (some ⟨b2, 0, none⟩) m.rs.length m.rs.length, .slice (some ⟨b3, 0, none⟩) m.qs.length m.qs.length, .slice (some ⟨b4, 0, none⟩) m.gs.length m.gs.length] 27)).alloc (.cells #[.func (.func 70) #[] #[], .func (.func 71) #[] #[], .func (.func 72) #[] #[], .func (.func 73) #[] #[], .func (.func 74) #[] #[], .func (.func 75) #[] #[]] 33)).alloc (.cells #[.string m.nm, .bool m.up, .int .i64 m.ck, .bool m.kn, .int .i64 m.se, .slice (some ⟨b1, 0, none⟩) m.ws.length m.ws.length, .slice (some ⟨b2, 0, none⟩) m.rs.length m.rs.length, .slice (some ⟨b3, 0, none⟩) m.qs.length m.qs.length, .slice (some ⟨b4, 0, none⟩) m.gs.length m.gs.length] 27)) w2) := bl_trans C1.out c2
  clear kf1 km1
  clear h2 c2
  obtain ⟨kf2, km2⟩ := three_boxes C2.out
  cases q2
  · go_wp2
    go_ret
    exact ⟨⟨false, rfl, saysV_no (fun h => by have := H2.out.2 h.2.1; cases this)⟩, bl_trans Hx0.out C2.out⟩
  have G2 : Hid (WantsSay m ∧ (m.kn = true ∨ m.ws.length = 0)) := H2.out.1 rfl
  clear H2
  have HL2 : Hid _ := HL0.out.keep C2.out
  go_wp2_with fail
  rw [rounds_succ]
  go_wp2_with fail
  refine (runsOkNow_any m b1 b2 b3 b4 _ HL2.out hf).mono ?_
  rintro e w3 ⟨⟨q3, rfl, h3⟩, c3⟩
  have H3 : Hid _ := h3
  have C3 : Hid (Below (((w.alloc (.cells #[.string m.nm, .bool m.up, .int .i64 m.ck, .bool m.kn, .int .i64 m.se, .slice (some ⟨b1, 0, none⟩) m.ws.length m.ws.length, .slice (some ⟨b2, 0, none⟩) m.rs.length m.rs.length, .slice (some ⟨b3, 0, none⟩) m.qs.length m.qs.length, .slice (some ⟨b4, 0, none⟩) m.gs.length m.gs.length] 27)).alloc (.cells #[.func (.func 70) #[] #[], .func (.func 71) #[] #[], .func (.func 72) #[] #[], .func (.func 73) #[] #[], .func (.func 74) #[] #[], .func (.func 75) #[] #[]] 33)).alloc (.cells #[.string m.nm, .bool m.up, .int .i64 m.ck, .bool m.kn, .int .i64 m.se, .slice (some ⟨b1, 0, none⟩) m.ws.length m.ws.length, .slice (some ⟨b2, 0, none⟩) m.rs.length m.rs.length, .slice (some ⟨b3, 0, none⟩) m.qs.length m.qs.length, .slice (some ⟨b4, 0, none⟩) m.gs.length m.gs.length] 27)).heap.size (((w.alloc (.cells #[.string m.nm, .bool m.up, .int .i64 m.ck, .bool m.kn, .int .i64 m.se, .slice (some ⟨b1, 0, none⟩) m.ws.length m.ws.length, .slice (some ⟨b2, 0, none⟩) m.rs.length m.rs.length, .slice (some ⟨b3, 0, none⟩) m.qs.length m.qs.length, .slice (some ⟨b4, 0, none⟩) m.gs.length m.gs.length] 27)).alloc (.cells #[.func (.func 70) #[] #[], .func (.func 71) #[] #[], .func (.func 72) #[] #[], .func (.func 73) #[] #[], .func (.func 74) #[] #[], .func (.func 75) #[] #[]] 33)).alloc (.cells #[.string m.nm, .bool m.up, .int .i64 m.ck, .bool m.kn, .int .i64 m.se, .slice (some ⟨b1, 0, none⟩) m.ws.length m.ws.length, .slice (some ⟨b2, 0, none⟩) m.rs.length m.rs.length, .slice (some ⟨b3, 0, none⟩) m.qs.length m.qs.length, .slice (some ⟨b4, 0, none⟩) m.gs.length m.gs.length] 27)) w3) := bl_trans C2.out c3
  clear kf2 km2
  clear h3 c3
  obtain ⟨kf3, km3⟩ := three_boxes C3.out
  cases q3
  · go_wp2
    go_ret
    exact ⟨⟨false, rfl, saysV_no (fun h => by have := H3.out.2 h.2.2.1; cases this)⟩, bl_trans Hx0.out C3.out⟩
  have G3 : Hid (RunsSay m) := H3.out.1 rfl
  clear H3
  have HL3 : Hid _ := HL0.out.keep C3.out
  go_wp2_with fail
  rw [rounds_succ]
  go_wp2_with fail
  refine (asksOk_any m b1 b2 b3 b4 _ HL3.out hf).mono ?_
  rintro e w4 ⟨⟨q4, rfl, h4⟩, c4⟩
  have H4 : Hid _ := h4
  have C4 : Hid (Below (((w.alloc (.cells #[.string m.nm, .bool m.up, .int .i64 m.ck, .bool m.kn, .int .i64 m.se, .slice (some ⟨b1, 0, none⟩) m.ws.length m.ws.length, .slice (some ⟨b2, 0, none⟩) m.rs.length m.rs.length, .slice (some ⟨b3, 0, none⟩) m.qs.length m.qs.length, .slice (some ⟨b4, 0, none⟩) m.gs.length m.gs.length] 27)).alloc (.cells #[.func (.func 70) #[] #[], .func (.func 71) #[] #[], .func (.func 72) #[] #[], .func (.func 73) #[] #[], .func (.func 74) #[] #[], .func (.func 75) #[] #[]] 33)).alloc (.cells #[.string m.nm, .bool m.up, .int .i64 m.ck, .bool m.kn, .int .i64 m.se, .slice (some ⟨b1, 0, none⟩) m.ws.length m.ws.length, .slice (some ⟨b2, 0, none⟩) m.rs.length m.rs.length, .slice (some ⟨b3, 0, none⟩) m.qs.length m.qs.length, .slice (some ⟨b4, 0, none⟩) m.gs.length m.gs.length] 27)).heap.size (((w.alloc (.cells #[.string m.nm, .bool m.up, .int .i64 m.ck, .bool m.kn, .int .i64 m.se, .slice (some ⟨b1, 0, none⟩) m.ws.length m.ws.length, .slice (some ⟨b2, 0, none⟩) m.rs.length m.rs.length, .slice (some ⟨b3, 0, none⟩) m.qs.length m.qs.length, .slice (some ⟨b4, 0, none⟩) m.gs.length m.gs.length] 27)).alloc (.cells #[.func (.func 70) #[] #[], .func (.func 71) #[] #[], .func (.func 72) #[] #[], .func (.func 73) #[] #[], .func (.func 74) #[] #[], .func (.func 75) #[] #[]] 33)).alloc (.cells #[.string m.nm, .bool m.up, .int .i64 m.ck, .bool m.kn, .int .i64 m.se, .slice (some ⟨b1, 0, none⟩) m.ws.length m.ws.length, .slice (some ⟨b2, 0, none⟩) m.rs.length m.rs.length, .slice (some ⟨b3, 0, none⟩) m.qs.length m.qs.length, .slice (some ⟨b4, 0, none⟩) m.gs.length m.gs.length] 27)) w4) := bl_trans C3.out c4
  clear kf3 km3
  clear h4 c4
  obtain ⟨kf4, km4⟩ := three_boxes C4.out
  cases q4
  · go_wp2
    go_ret
    exact ⟨⟨false, rfl, saysV_no (fun h => by have := H4.out.2 h.2.2.2.1; cases this)⟩, bl_trans Hx0.out C4.out⟩
  have G4 : Hid (AskSay m.ck m.qs ∧ AskSay m.ck m.gs) := H4.out.1 rfl
  clear H4
  have HL4 : Hid _ := HL0.out.keep C4.out
  go_wp2_with fail
  rw [rounds_succ]
  go_wp2_with fail
  refine (noAsk_any m b1 b2 b3 b4 _ HL4.out hf).mono ?_
  rintro e w5 ⟨⟨q5, rfl, h5⟩, c5⟩
  have H5 : Hid _ := h5
  have C5 : Hid (Below (((w.alloc (.cells #[.string m.nm, .bool m.up, .int .i64 m.ck, .bool m.kn, .int .i64 m.se, .slice (some ⟨b1, 0, none⟩) m.ws.length m.ws.length, .slice (some ⟨b2, 0, none⟩) m.rs.length m.rs.length, .slice (some ⟨b3, 0, none⟩) m.qs.length m.qs.length, .slice (some ⟨b4, 0, none⟩) m.gs.length m.gs.length] 27)).alloc (.cells #[.func (.func 70) #[] #[], .func (.func 71) #[] #[], .func (.func 72) #[] #[], .func (.func 73) #[] #[], .func (.func 74) #[] #[], .func (.func 75) #[] #[]] 33)).alloc (.cells #[.string m.nm, .bool m.up, .int .i64 m.ck, .bool m.kn, .int .i64 m.se, .slice (some ⟨b1, 0, none⟩) m.ws.length m.ws.length, .slice (some ⟨b2, 0, none⟩) m.rs.length m.rs.length, .slice (some ⟨b3, 0, none⟩) m.qs.length m.qs.length, .slice (some ⟨b4, 0, none⟩) m.gs.length m.gs.length] 27)).heap.size (((w.alloc (.cells #[.string m.nm, .bool m.up, .int .i64 m.ck, .bool m.kn, .int .i64 m.se, .slice (some ⟨b1, 0, none⟩) m.ws.length m.ws.length, .slice (some ⟨b2, 0, none⟩) m.rs.length m.rs.length, .slice (some ⟨b3, 0, none⟩) m.qs.length m.qs.length, .slice (some ⟨b4, 0, none⟩) m.gs.length m.gs.length] 27)).alloc (.cells #[.func (.func 70) #[] #[], .func (.func 71) #[] #[], .func (.func 72) #[] #[], .func (.func 73) #[] #[], .func (.func 74) #[] #[], .func (.func 75) #[] #[]] 33)).alloc (.cells #[.string m.nm, .bool m.up, .int .i64 m.ck, .bool m.kn, .int .i64 m.se, .slice (some ⟨b1, 0, none⟩) m.ws.length m.ws.length, .slice (some ⟨b2, 0, none⟩) m.rs.length m.rs.length, .slice (some ⟨b3, 0, none⟩) m.qs.length m.qs.length, .slice (some ⟨b4, 0, none⟩) m.gs.length m.gs.length] 27)) w5) := bl_trans C4.out c5
  clear kf4 km4
  clear h5 c5
  obtain ⟨kf5, km5⟩ := three_boxes C5.out
  cases q5
  · go_wp2
    go_ret
    exact ⟨⟨false, rfl, saysV_no (fun h => by have := H5.out.2 h.2.2.2.2.1; cases this)⟩, bl_trans Hx0.out C5.out⟩
  have G5 : Hid (∀ r ∈ m.qs, ¬ A.HasA m.gs r.h) := H5.out.1 rfl
  clear H5
  have HL5 : Hid _ := HL0.out.keep C5.out
  go_wp2_with fail
  rw [rounds_succ]
  go_wp2_with fail
  refine (downOk_any m b1 b2 b3 b4 _ HL5.out hf).mono ?_
  rintro e w6 ⟨⟨q6, rfl, h6⟩, c6⟩
  have H6 : Hid _ := h6
  have C6 : Hid (Below (((w.alloc (.cells #[.string m.nm, .bool m.up, .int .i64 m.ck, .bool m.kn, .int .i64 m.se, .slice (some ⟨b1, 0, none⟩) m.ws.length m.ws.length, .slice (some ⟨b2, 0, none⟩) m.rs.length m.rs.length, .slice (some ⟨b3, 0, none⟩) m.qs.length m.qs.length, .slice (some ⟨b4, 0, none⟩) m.gs.length m.gs.length] 27)).alloc (.cells #[.func (.func 70) #[] #[], .func (.func 71) #[] #[], .func (.func 72) #[] #[], .func (.func 73) #[] #[], .func (.func 74) #[] #[], .func (.func 75) #[] #[]] 33)).alloc (.cells #[.string m.nm, .bool m.up, .int .i64 m.ck, .bool m.kn, .int .i64 m.se, .slice (some ⟨b1, 0, none⟩) m.ws.length m.ws.length, .slice (some ⟨b2, 0, none⟩) m.rs.length m.rs.length, .slice (some ⟨b3, 0, none⟩) m.qs.length m.qs.length, .slice (some ⟨b4, 0, none⟩) m.gs.length m.gs.length] 27)).heap.size (((w.alloc (.cells #[.string m.nm, .bool m.up, .int .i64 m.ck, .bool m.kn, .int .i64 m.se, .slice (some ⟨b1, 0, none⟩) m.ws.length m.ws.length, .slice (some ⟨b2, 0, none⟩) m.rs.length m.rs.length, .slice (some ⟨b3, 0, none⟩) m.qs.length m.qs.length, .slice (some ⟨b4, 0, none⟩) m.gs.length m.gs.length] 27)).alloc (.cells #[.func (.func 70) #[] #[], .func (.func 71) #[] #[], .func (.func 72) #[] #[], .func (.func 73) #[] #[], .func (.func 74) #[] #[], .func (.func 75) #[] #[]] 33)).alloc (.cells #[.string m.nm, .bool m.up, .int .i64 m.ck, .bool m.kn, .int .i64 m.se, .slice (some ⟨b1, 0, none⟩) m.ws.length m.ws.length, .slice (some ⟨b2, 0, none⟩) m.rs.length m.rs.length, .slice (some ⟨b3, 0, none⟩) m.qs.length m.qs.length, .slice (some ⟨b4, 0, none⟩) m.gs.length m.gs.length] 27)) w6) := bl_trans C5.out c6
  clear kf5 km5
  clear h6 c6
  obtain ⟨kf6, km6⟩ := three_boxes C6.out
  cases q6
  · go_wp2
    go_ret
    exact ⟨⟨false, rfl, saysV_no (fun h => by have := H6.out.2 h.2.2.2.2.2; cases this)⟩, bl_trans Hx0.out C6.out⟩
  have G6 : Hid (m.up = true ∨ DownSay m) := H6.out.1 rfl
  clear H6
  have HL6 : Hid _ := HL0.out.keep C6.out
  go_wp2_with fail
  rw [rounds_succ]
  go_wp2
  go_ret
  exact ⟨⟨true, rfl, ⟨fun _ => ⟨G1.out, G2.out, G3.out, G4.out, G5.out, G6.out⟩, fun _ => rfl⟩⟩, bl_trans Hx0.out C6.out⟩
end Go.Proofs.Ytkebokkckmgloaa
/- The empty mate, and a struct that is stored whole. -/
namespace Go.Proofs.Ytkebokkckmgloaa
open Go.RowKit
set_option linter.unusedVariables false

def zeroD : MateD := ⟨{ data := #[] }, false, 0, false, 0, [], [], [], []⟩
theorem slm_zero (w : World) (B : Nat) : SlM w zeroD (.slice none 0 0) (.slice none 0 0) (.slice none 0 0) (.slice none 0 0) B :=
  ⟨Or.inl ⟨rfl, rfl⟩, Or.inl ⟨rfl, rfl⟩, Or.inl ⟨rfl, rfl⟩, Or.inl ⟨rfl, rfl⟩, Or.inl rfl, Or.inl rfl, Or.inl rfl, Or.inl rfl, Or.inl rfl, Or.inl rfl⟩
theorem Sc.all {w x : World} {O : Array Value} (h : Sc w O x) (hO : O.size = 9) (l : List Value) (hl : l.length = 9) : Sc w l.toArray (x.setCells w.heap.size 0 l) := by
  have he : Ex w.heap.size x (x.setCells w.heap.size 0 l) := (Ex.refl _ _).cells _ _
  have hf := h.f
  have hth : x.there w.heap.size 0 l.length := fun j hj => by
    have h1 := h.b j
    have h2 : j < O.size := by omega
    rw [Array.getElem?_eq_getElem h2] at h1
    exact ⟨by rw [Nat.zero_add, h1]; rfl, by rw [Nat.zero_add]; exact h.c j⟩
  refine ⟨fun k => ?_, fun k => ?_, there_ex h.d (by omega) he (by omega), Ex.mono h.e he (Nat.le_refl _), Nat.lt_of_lt_of_le hf he.size⟩
  · by_cases e : k < l.length
    · have h1 := World.rangeAt_setCells_same x w.heap.size 0 l hth k l[k] (List.getElem?_eq_getElem e)
      rw [Nat.zero_add] at h1
      rw [h1]; simp [e]
    · rw [World.cell?_setCells_out _ _ _ _ _ (fun _ _ => Or.inr (by show 0 + l.length ≤ k; omega)), h.b k, Array.getElem?_eq_none (by omega), Array.getElem?_eq_none (by simp; omega)]
  · rw [World.frozen?_setCells]; exact h.c k
theorem Sc.box {w x : World} {O : Array Value} (h : Sc w O x) (hO : O.size = 9) : x.there w.heap.size 0 9 := fun j hj => by
  have h1 := h.b j
  have h2 : j < O.size := by omega
  rw [Array.getElem?_eq_getElem h2] at h1
  exact ⟨by rw [Nat.zero_add, h1]; rfl, by rw [Nat.zero_add]; exact h.c j⟩
theorem zeros_one : ∀ u ∈ ([.string { data := #[] }, .bool false, .int .i64 0, .bool false, .int .i64 0, .slice none 0 0, .slice none 0 0, .slice none 0 0, .slice none 0 0] : List Value), u.oneCell' = true := by
  intro u hu
  simp only [List.mem_cons, List.not_mem_nil, or_false] at hu
  rcases hu with rfl | rfl | rfl | rfl | rfl | rfl | rfl | rfl | rfl <;> rfl
theorem SlM.ex {w w' : World} {m : MateD} {s1 s2 s3 s4 : Value} {B k : Nat} (h : SlM w m s1 s2 s3 s4 B) (he : Ex k w w') (hk : k < B) : SlM w' m s1 s2 s3 s4 B :=
  ⟨h.a1.grown (W.ex_grown he) (ob_ne (N := k) (fun g hg => Nat.lt_of_lt_of_le hk (h.a1.lt g hg).1) (Nat.le_refl _)), h.a2.grown (ex_grown he) (ob_ne (N := k) (fun g hg => Nat.lt_of_lt_of_le hk (h.a2.lt g hg).1) (Nat.le_refl _)), h.a3.grown (A.ex_grown he) (ob_ne (N := k) (fun g hg => Nat.lt_of_lt_of_le hk (h.a3.lt g hg).1) (Nat.le_refl _)), h.a4.grown (A.ex_grown he) (ob_ne (N := k) (fun g hg => Nat.lt_of_lt_of_le hk (h.a4.lt g hg).1) (Nat.le_refl _)), h.d12, h.d13, h.d14, h.d23, h.d24, h.d34⟩
theorem SlM.low {w : World} {m : MateD} {s1 s2 s3 s4 : Value} {B B' : Nat} (h : SlM w m s1 s2 s3 s4 B) (hB : B' ≤ B) : SlM w m s1 s2 s3 s4 B' :=
  ⟨h.a1.low hB, h.a2.low hB, h.a3.low hB, h.a4.low hB, h.d12, h.d13, h.d14, h.d23, h.d24, h.d34⟩
theorem Sc.put {w x : World} {O : Array Value} (h : Sc w O x) (l : List Value) : Below w.heap.size w (x.setCells (w.heap.size + 1) 0 l) :=
  Ex.mono h.e ((Ex.refl (w.heap.size + 1) x).cells l 0) (Nat.le_succ _)
theorem saysV_false {m : MateD} (h : SaysV false m) : ¬ Valid m := fun hv => by have := h.2 hv; cases this
end Go.Proofs.Ytkebokkckmgloaa
