import Derived.Test.YtehiopokicegeabJ01
import Derived.Deep.RegionHeld3
import Derived.Laws.Pointers
import Derived.StillTactics
import Derived.Test.YtehiopokicegeabJ02
import Derived.Test.YtehiopokicegeabJ03
/- Equal wants and runs are told to be equal. -/
namespace Go.Proofs.Ytehiopokicegeab
open Go.RowKit

theorem eqWant_same (c h : ByteArray) (v p s d g : Int) (w : World) :
    Calls Try.prog 57 #[.agg #[.string c, .int .i64 v, .string h, .int .i64 p, .int .i64 s, .int .i64 d, .int .i64 g], .agg #[.string c, .int .i64 v, .string h, .int .i64 p, .int .i64 s, .int .i64 d, .int .i64 g]] w fun e w' => e = .returned (.bool true) ∧
      w' = (w.alloc (.cells #[.string c, .int .i64 v, .string h, .int .i64 p, .int .i64 s, .int .i64 d, .int .i64 g] 37)).alloc (.cells #[.string c, .int .i64 v, .string h, .int .i64 p, .int .i64 s, .int .i64 d, .int .i64 g] 37) := by
  go_enter Try.func57, Try.ntmps57
  go_wp2
  go_ret
  exact ⟨rfl, rfl⟩

end Go.Proofs.Ytehiopokicegeab
/- Two lists of the same wants are told to be equal. -/
namespace Go.Proofs.Ytehiopokicegeab.W
open Go.RowKit
set_option linter.unusedVariables false

theorem eqWant_b (c h : ByteArray) (v p s d g : Int) (w : World) :
    Calls Try.prog 57 #[.agg #[.string c, .int .i64 v, .string h, .int .i64 p, .int .i64 s, .int .i64 d, .int .i64 g], .agg #[.string c, .int .i64 v, .string h, .int .i64 p, .int .i64 s, .int .i64 d, .int .i64 g]] w fun e w' => e = .returned (.bool true) ∧ Below w.heap.size w w' := by
  refine (eqWant_same c h v p s d g w).mono ?_
  rintro e w' ⟨rfl, rfl⟩
  exact ⟨rfl, bl_alloc (bl_alloc (Below.refl _ _) _) _⟩
theorem keepR {x w' : World} {b1 o1 b2 o2 k : Nat} {rs : List WantD} {r : WantD} (hk : rs[k]? = some r) (h1 : RowsAt x b1 o1 rs) (h2 : RowsAt x b2 o2 rs) (l1 : b1 < x.heap.size) (l2 : b2 < x.heap.size) (hb : Below x.heap.size x w') :
    Below x.heap.size x w' ∧ (w'.cell? ⟨b1, o1 + k * 7, none⟩ = some (.string r.c) ∧ w'.cell? ⟨b1, o1 + k * 7 + 1, none⟩ = some (.int .i64 r.v) ∧ w'.cell? ⟨b1, o1 + k * 7 + 2, none⟩ = some (.string r.h) ∧ w'.cell? ⟨b1, o1 + k * 7 + 3, none⟩ = some (.int .i64 r.p) ∧ w'.cell? ⟨b1, o1 + k * 7 + 4, none⟩ = some (.int .i64 r.s) ∧ w'.cell? ⟨b1, o1 + k * 7 + 5, none⟩ = some (.int .i64 r.d) ∧ w'.cell? ⟨b1, o1 + k * 7 + 6, none⟩ = some (.int .i64 r.g)) ∧ (w'.cell? ⟨b2, o2 + k * 7, none⟩ = some (.string r.c) ∧ w'.cell? ⟨b2, o2 + k * 7 + 1, none⟩ = some (.int .i64 r.v) ∧ w'.cell? ⟨b2, o2 + k * 7 + 2, none⟩ = some (.string r.h) ∧ w'.cell? ⟨b2, o2 + k * 7 + 3, none⟩ = some (.int .i64 r.p) ∧ w'.cell? ⟨b2, o2 + k * 7 + 4, none⟩ = some (.int .i64 r.s) ∧ w'.cell? ⟨b2, o2 + k * 7 + 5, none⟩ = some (.int .i64 r.d) ∧ w'.cell? ⟨b2, o2 + k * 7 + 6, none⟩ = some (.int .i64 r.g)) :=
  ⟨hb, (h1.keep l1 hb).at hk, (h2.keep l2 hb).at hk⟩

set_option maxHeartbeats 1000000 in
theorem eqWantS (b1 o1 n1 b2 o2 n2 : Nat) (rs : List WantD) (w : World) (h1 : RowsAt w b1 o1 rs) (h2 : RowsAt w b2 o2 rs) (l1 : b1 < w.heap.size) (l2 : b2 < w.heap.size) (hl : rs.length ≤ 1048576) :
    Calls Try.prog 74 #[.slice (some ⟨b1, o1, none⟩) rs.length n1, .slice (some ⟨b2, o2, none⟩) rs.length n2] w fun e w' => e = .returned (.bool true) ∧ Below w.heap.size w w' := by
  go_enter Try.func74, Try.ntmps74
  go_wp2
  go_loopw [5] (fun i wx => ∃ (k : Nat), k ≤ rs.length ∧ i = .int .i64 k ∧ Below w.heap.size w wx) (fun i _ => rs.length - (intOf i).toNat)
  case atStart => exact ⟨0, Nat.zero_le _, rfl, Below.refl _ _⟩
  case round =>
    obtain ⟨k, hk, rfl, hB⟩ := hrel
    by_cases hlt : k < rs.length
    · obtain ⟨r, hr⟩ : ∃ r, rs[k]? = some r := ⟨rs[k], List.getElem?_eq_getElem hlt⟩
      have Hr : Hid _ := hr
      clear hr
      have g1 := h1.keep l1 hB
      have g2 := h2.keep l2 hB
      have z1 : b1 < wr.heap.size := Nat.lt_of_lt_of_le l1 hB.size
      have z2 : b2 < wr.heap.size := Nat.lt_of_lt_of_le l2 hB.size
      have i0 : (0 : Int) ≤ (k : Int) := by omega
      have i1 : (k : Int) < (rs.length : Int) := by omega
      go_wp2_with fail
      go_region_held3 (fun w' => Below wr.heap.size wr w' ∧ (w'.cell? ⟨b1, o1 + k * 7, none⟩ = some (.string r.c) ∧ w'.cell? ⟨b1, o1 + k * 7 + 1, none⟩ = some (.int .i64 r.v) ∧ w'.cell? ⟨b1, o1 + k * 7 + 2, none⟩ = some (.string r.h) ∧ w'.cell? ⟨b1, o1 + k * 7 + 3, none⟩ = some (.int .i64 r.p) ∧ w'.cell? ⟨b1, o1 + k * 7 + 4, none⟩ = some (.int .i64 r.s) ∧ w'.cell? ⟨b1, o1 + k * 7 + 5, none⟩ = some (.int .i64 r.d) ∧ w'.cell? ⟨b1, o1 + k * 7 + 6, none⟩ = some (.int .i64 r.g)) ∧ (w'.cell? ⟨b2, o2 + k * 7, none⟩ = some (.string r.c) ∧ w'.cell? ⟨b2, o2 + k * 7 + 1, none⟩ = some (.int .i64 r.v) ∧ w'.cell? ⟨b2, o2 + k * 7 + 2, none⟩ = some (.string r.h) ∧ w'.cell? ⟨b2, o2 + k * 7 + 3, none⟩ = some (.int .i64 r.p) ∧ w'.cell? ⟨b2, o2 + k * 7 + 4, none⟩ = some (.int .i64 r.s) ∧ w'.cell? ⟨b2, o2 + k * 7 + 5, none⟩ = some (.int .i64 r.d) ∧ w'.cell? ⟨b2, o2 + k * 7 + 6, none⟩ = some (.int .i64 r.g)))
        (first | exact keepR Hr.out g1 g2 z1 z2 (bl_drew (Below.refl _ _)) | exact keepR Hr.out g1 g2 z1 z2 (bl_trans (bl_drew (Below.refl _ _)) hb))
        (first | (go_at_call 57; refine (eqWant_b r.c r.h r.v r.p r.s r.d r.g _).mono ?_; rintro e w' ⟨rfl, hb⟩))
      go_wp2
      exact ⟨⟨k + 1, by omega, by go_num, bl_trans hB (bl_trans (bl_drew (Below.refl _ _)) hb)⟩, by simp [intOf]; omega⟩
    · go_wp2
      go_ret
      exact ⟨rfl, hB⟩
end Go.Proofs.Ytehiopokicegeab.W
/- Two lists of places that say the same are told to be equal. -/
namespace Go.Proofs.Ytehiopokicegeab.P
open Go.RowKit
set_option linter.unusedVariables false

set_option maxHeartbeats 1000000 in
theorem eqPlace (b : ByteArray) (s : Int) (ws : List W.WantD) (g1 c1 g2 c2 : Nat) (w : World) (h1 : W.RowsAt w g1 0 ws) (h2 : W.RowsAt w g2 0 ws) (l1 : g1 < w.heap.size) (l2 : g2 < w.heap.size) (hl : ws.length ≤ 1048576) :
    Calls Try.prog 141 #[.agg #[.string b, .int .i64 s, .slice (some ⟨g1, 0, none⟩) ws.length c1], .agg #[.string b, .int .i64 s, .slice (some ⟨g2, 0, none⟩) ws.length c2]] w fun e w' => e = .returned (.bool true) ∧ Below w.heap.size w w' := by
  go_enter Try.func141, Try.ntmps141
  go_wp2_with fail
  have hb : Below w.heap.size w ((w.alloc (.cells #[.string b, .int .i64 s, .slice (some ⟨g1, 0, none⟩) ws.length c1] 151)).alloc (.cells #[.string b, .int .i64 s, .slice (some ⟨g2, 0, none⟩) ws.length c2] 151)) := bl_alloc (bl_alloc (Below.refl _ _) _) _
  refine (W.eqWantS g1 0 c1 g2 0 c2 ws _ (h1.keep l1 hb) (h2.keep l2 hb) (Nat.lt_of_lt_of_le l1 hb.size) (Nat.lt_of_lt_of_le l2 hb.size) hl).mono ?_
  rintro e w1 ⟨rfl, c⟩
  have C : Hid (Below w.heap.size w w1) := bl_trans hb c
  clear hb c
  go_wp2
  go_ret
  exact ⟨rfl, C.out⟩
theorem keepP {x w' : World} {b1 o1 b2 o2 k : Nat} {ps qs : List PlaceD} {p q : PlaceD} (hp : ps[k]? = some p) (hq : qs[k]? = some q) (h1 : RowsAt x b1 o1 ps) (h2 : RowsAt x b2 o2 qs) (l1 : b1 < x.heap.size) (l2 : b2 < x.heap.size) (hb : Below x.heap.size x w') :
    Below x.heap.size x w' ∧ (w'.cell? ⟨b1, o1 + k * 3, none⟩ = some (.string p.b) ∧ w'.cell? ⟨b1, o1 + k * 3 + 1, none⟩ = some (.int .i64 p.s) ∧ w'.cell? ⟨b1, o1 + k * 3 + 2, none⟩ = some (.slice p.a p.ws.length p.c)) ∧ (w'.cell? ⟨b2, o2 + k * 3, none⟩ = some (.string q.b) ∧ w'.cell? ⟨b2, o2 + k * 3 + 1, none⟩ = some (.int .i64 q.s) ∧ w'.cell? ⟨b2, o2 + k * 3 + 2, none⟩ = some (.slice q.a q.ws.length q.c)) :=
  ⟨hb, (h1.keep l1 hb).at hp, (h2.keep l2 hb).at hq⟩

set_option maxRecDepth 4000 in
set_option maxHeartbeats 2000000 in
theorem eqPlaceS (b1 o1 n1 b2 o2 n2 B1 B2 : Nat) (ps qs : List PlaceD) (w : World) (h1 : RowsAt w b1 o1 ps) (h2 : RowsAt w b2 o2 qs) (l1 : b1 < w.heap.size) (l2 : b2 < w.heap.size) (k1 : ∀ p ∈ ps, p.blk B1 w) (k2 : ∀ q ∈ qs, q.blk B2 w) (hs : Like ps qs) (hl : ps.length ≤ 1048576) (hL : Lns ps) :
    Calls Try.prog 95 #[.slice (some ⟨b1, o1, none⟩) ps.length n1, .slice (some ⟨b2, o2, none⟩) qs.length n2] w fun e w' => e = .returned (.bool true) ∧ Below w.heap.size w w' := by
  have K1 : Hid _ := k1
  have K2 : Hid _ := k2
  have HS : Hid (Like ps qs) := hs
  have HL : Hid _ := hL
  rw [← Like.len hs]
  clear k1 k2 hs hL
  go_enter Try.func95, Try.ntmps95
  go_wp2
  go_loopw [5] (fun i wx => ∃ (k : Nat), k ≤ ps.length ∧ i = .int .i64 k ∧ Below w.heap.size w wx) (fun i _ => ps.length - (intOf i).toNat)
  case atStart => exact ⟨0, Nat.zero_le _, rfl, Below.refl _ _⟩
  case round =>
    obtain ⟨k, hk, rfl, hB⟩ := hrel
    by_cases hlt : k < ps.length
    · obtain ⟨p, hp⟩ : ∃ p, ps[k]? = some p := ⟨ps[k], List.getElem?_eq_getElem hlt⟩
      obtain ⟨q, hq, eb, es, ew⟩ := HS.out.get hp
      have Hp : Hid _ := hp
      have Hq : Hid _ := hq
      have g1 := h1.keep l1 hB
      have g2 := h2.keep l2 hB
      have z1 : b1 < wr.heap.size := Nat.lt_of_lt_of_le l1 hB.size
      have z2 : b2 < wr.heap.size := Nat.lt_of_lt_of_le l2 hB.size
      obtain ⟨f1, a1, -, -, y1, r1⟩ := (K1.out p (List.mem_of_getElem? hp)).keep hB
      obtain ⟨f2, a2, -, -, y2, r2⟩ := (K2.out q (List.mem_of_getElem? hq)).keep hB
      have R1 : Hid (W.RowsAt wr f1 0 p.ws) := r1
      have R2 : Hid (W.RowsAt wr f2 0 p.ws) := by rw [ew]; exact r2
      have hlp : p.ws.length ≤ 1048576 := HL.out p (List.mem_of_getElem? hp)
      clear hp hq r1 r2
      obtain ⟨pb, pn, pa, pc, pw⟩ := p
      obtain ⟨qb, qn, qa, qc, qw⟩ := q
      simp only at eb es ew a1 a2 hlp
      subst eb es ew a1 a2
      have i0 : (0 : Int) ≤ (k : Int) := by omega
      have i1 : (k : Int) < (ps.length : Int) := by omega
      go_wp2_with fail
      go_region_held3 (fun w' => Below wr.heap.size wr w' ∧ (w'.cell? ⟨b1, o1 + k * 3, none⟩ = some (.string pb) ∧ w'.cell? ⟨b1, o1 + k * 3 + 1, none⟩ = some (.int .i64 pn) ∧ w'.cell? ⟨b1, o1 + k * 3 + 2, none⟩ = some (.slice (some ⟨f1, 0, none⟩) pw.length pc)) ∧ (w'.cell? ⟨b2, o2 + k * 3, none⟩ = some (.string pb) ∧ w'.cell? ⟨b2, o2 + k * 3 + 1, none⟩ = some (.int .i64 pn) ∧ w'.cell? ⟨b2, o2 + k * 3 + 2, none⟩ = some (.slice (some ⟨f2, 0, none⟩) pw.length qc)))
        (first | exact keepP Hp.out Hq.out g1 g2 z1 z2 (bl_drew (Below.refl _ _)) | exact keepP Hp.out Hq.out g1 g2 z1 z2 (bl_trans (bl_drew (Below.refl _ _)) hb))
        (first | (go_at_call 141; refine (eqPlace pb pn pw f1 pc f2 qc _ (R1.out.keep y1 (bl_drew (Below.refl _ _))) (R2.out.keep y2 (bl_drew (Below.refl _ _))) y1 y2 hlp).mono ?_; rintro e w' ⟨rfl, hb⟩))
      go_wp2
      exact ⟨⟨k + 1, by omega, by go_num, bl_trans hB (bl_trans (bl_drew (Below.refl _ _)) hb)⟩, by simp [intOf]; omega⟩
    · go_wp2
      go_ret
      exact ⟨rfl, hB⟩
end Go.Proofs.Ytehiopokicegeab.P
/- A book is measured, copied and held against another. -/
namespace Go.Proofs.Ytehiopokicegeab.G
theorem RowsAt.exq {kr : Nat} {w w' : World} {b off : Nat} {rs : List GrantD} (h : RowsAt w b off rs) (hb : b < w.heap.size) (hE : Ex kr w w') (hne : b ≠ kr) : RowsAt w' b off rs :=
  fun k r hk j v hj => (hE.cell (p := ⟨b, off + k * 5 + j, none⟩) hb hne).trans (h k r hk j v hj)
end Go.Proofs.Ytehiopokicegeab.G
namespace Go.Proofs.Ytehiopokicegeab.P
theorem RowsAt.exq {kr : Nat} {w w' : World} {b off : Nat} {rs : List PlaceD} (h : RowsAt w b off rs) (hb : b < w.heap.size) (hE : Ex kr w w') (hne : b ≠ kr) : RowsAt w' b off rs :=
  fun k r hk j v hj => (hE.cell (p := ⟨b, off + k * 3 + j, none⟩) hb hne).trans (h k r hk j v hj)
end Go.Proofs.Ytehiopokicegeab.P
namespace Go.Proofs.Ytehiopokicegeab.P
open Go.RowKit
set_option linter.unusedVariables false

/-- The lists of a book lie in blocks. -/
structure LandAt (w : World) (gs : List G.GrantD) (ps : List PlaceD) (b1 b2 : Nat) : Prop where
  g : G.RowsAt w b1 0 gs
  g1 : b1 < w.heap.size
  p : RowsAt w b2 0 ps
  p1 : b2 < w.heap.size
  k : ∀ r ∈ ps, r.blk 0 w
theorem LandAt.keep {w w' : World} {gs : List G.GrantD} {ps : List PlaceD} {b1 b2 : Nat} (h : LandAt w gs ps b1 b2) (hb : Below w.heap.size w w') : LandAt w' gs ps b1 b2 :=
  ⟨h.g.keep h.g1 hb, Nat.lt_of_lt_of_le h.g1 hb.size, h.p.keep h.p1 hb, Nat.lt_of_lt_of_le h.p1 hb.size, fun r hr => (h.k r hr).keep hb⟩
theorem land_box {w w' : World} {t : Int} {v1 v2 : Value} (hb : Below (w.alloc (.cells #[.int .i64 t, v1, v2] 66)).heap.size (w.alloc (.cells #[.int .i64 t, v1, v2] 66)) w') : ∀ k, w'.cell? ⟨w.heap.size, k, none⟩ = (#[.int .i64 t, v1, v2] : Array Value)[k]? := by
  intro k
  rw [hb.cell (p := ⟨w.heap.size, k, none⟩) (by simp)]
  simp [go_sem]

set_option maxRecDepth 4000 in
set_option maxHeartbeats 2000000 in
theorem szLand (t : Int) (gs : List G.GrantD) (ps : List PlaceD) (v1 v2 : Value) (w : World) (i1 : G.In w v1 gs) (i2 : In w v2 ps) :
    Calls Try.prog 37 #[.agg #[.int .i64 t, v1, v2], .int .i64 1048576] w fun e w' => (e = .returned (.int .i64 (-1)) ∨ ∃ x : Int, e = .returned (.int .i64 x) ∧ 0 ≤ x ∧ gs.length ≤ 1048576 ∧ ps.length ≤ 1048576 ∧ Lns ps) ∧ Below w.heap.size w w' := by
  have Hb0 : Hid (Below w.heap.size w (w.alloc (.cells #[.int .i64 t, v1, v2] 66))) := bl_alloc (Below.refl _ _) _
  go_enter Try.func37, Try.ntmps37
  go_wp2_with fail
  refine (G.sz_in (i1.keep Hb0.out) 1048576 (by omega) (by omega)).mono ?_
  rintro e w1 ⟨hx1, c1⟩
  have C1 : Hid (Below w.heap.size w w1) := bl_trans Hb0.out c1
  have kb1 := land_box c1
  clear c1
  rcases hx1 with rfl | ⟨x1, rfl, p1, r1, l1⟩
  · go_wp2
    go_ret
    exact ⟨Or.inl rfl, C1.out⟩
  go_wp2_with fail
  refine (sz_in (i2.keep C1.out) x1 (by omega) (by omega)).mono ?_
  rintro e w2 ⟨hx2, c2⟩
  have C2 : Hid (Below w.heap.size w w2) := bl_trans C1.out c2
  clear c2 kb1
  rcases hx2 with rfl | ⟨x2, rfl, p2, r2, l2, hL⟩
  · go_wp2
    go_ret
    exact ⟨Or.inl rfl, C2.out⟩
  have HL : Hid _ := hL
  clear hL
  go_wp2
  go_ret
  exact ⟨Or.inr ⟨x2, rfl, p2, l1, l2, HL.out⟩, C2.out⟩

theorem st_land (t : Int) (v1 v2 : Value) (w : World) : St3 w #[.int .i64 t, v1, v2] #[.int .i64 t, .slice none 0 0, .slice none 0 0] (((w.alloc (.cells #[.int .i64 t, v1, v2] 66)).alloc (.cells #[.int .i64 0, .slice none 0 0, .slice none 0 0] 72)).alloc (.cells #[.int .i64 t, .slice none 0 0, .slice none 0 0] 72)) := by
  refine ⟨fun k => by simp [go_sem, World.cell?_alloc_past], fun k => by simp [go_sem], fun k => by simp [go_sem], fun j hj => ⟨by simp [go_sem, World.cell?_alloc_past] <;> omega, by simp [go_sem]⟩, bl_alloc (bl_alloc (bl_alloc (Below.refl _ _) _) _) _, by simp⟩

set_option maxRecDepth 4000 in
set_option maxHeartbeats 4000000 in
theorem toLand (t : Int) (gs : List G.GrantD) (ps : List PlaceD) (v1 v2 : Value) (w : World) (i1 : G.In w v1 gs) (i2 : In w v2 ps) (l1 : gs.length ≤ 1048576) (l2 : ps.length ≤ 1048576) (hL : Lns ps) :
    Calls Try.prog 39 #[.agg #[.int .i64 t, v1, v2]] w fun e w' => (∃ b1 b2 qs, e = .returned (.agg #[.int .i64 t, .slice (some ⟨b1, 0, none⟩) gs.length gs.length, .slice (some ⟨b2, 0, none⟩) qs.length qs.length]) ∧ Like qs ps ∧ LandAt w' gs qs b1 b2) ∧ Below w.heap.size w w' := by
  have S0 : Hid (St3 w #[.int .i64 t, v1, v2] #[.int .i64 t, .slice none 0 0, .slice none 0 0] (((w.alloc (.cells #[.int .i64 t, v1, v2] 66)).alloc (.cells #[.int .i64 0, .slice none 0 0, .slice none 0 0] 72)).alloc (.cells #[.int .i64 t, .slice none 0 0, .slice none 0 0] 72))) := st_land t v1 v2 w
  have HL : Hid _ := hL
  clear hL
  have hinfo : (Try.prog.info? 72).map (·.size) = some 3 := by kernel_rfl
  go_enter Try.func39, Try.ntmps39
  go_wp2_with fail
  have hto1 := G.to_in (i1.keep S0.out.e) l1
  refine hto1.mono ?_
  clear hto1
  rintro e w1 ⟨rfl, r1, z1, c1⟩
  have T1 : Hid (St3 w #[.int .i64 t, v1, v2] #[.int .i64 t, .slice none 0 0, .slice none 0 0] w1) := S0.out.below c1
  have ka1 := T1.out.a
  have ko1 := T1.out.b
  have kf1 := T1.out.c
  have kz1 := T1.out.f
  obtain ⟨B1, hB1⟩ : ∃ B, B = (((w.alloc (.cells #[.int .i64 t, v1, v2] 66)).alloc (.cells #[.int .i64 0, .slice none 0 0, .slice none 0 0] 72)).alloc (.cells #[.int .i64 t, .slice none 0 0, .slice none 0 0] 72)).heap.size := ⟨_, rfl⟩
  have HB1 : Hid (w.heap.size + 1 + 1 < B1) := by rw [hB1]; exact S0.out.f
  have Q1 : Hid (G.RowsAt w1 B1 0 gs) := by rw [hB1]; exact r1
  have LT1 : Hid (B1 < w1.heap.size) := by rw [hB1]; exact z1
  rw [← hB1]
  clear hB1 r1 z1 c1
  have S1 : Hid (St3 w #[.int .i64 t, v1, v2] #[.int .i64 t, (.slice (some ⟨B1, 0, none⟩) gs.length gs.length), .slice none 0 0] (w1.setCell ⟨w.heap.size + 1 + 1, 1, none⟩ (.slice (some ⟨B1, 0, none⟩) gs.length gs.length))) := T1.out.set 1 (by simp) _
  have X1 : Hid (Ex (w.heap.size + 1 + 1) w1 (w1.setCell ⟨w.heap.size + 1 + 1, 1, none⟩ (.slice (some ⟨B1, 0, none⟩) gs.length gs.length))) := Ex.set (Ex.refl _ _) 1 _
  have Q1' : Hid (G.RowsAt (w1.setCell ⟨w.heap.size + 1 + 1, 1, none⟩ (.slice (some ⟨B1, 0, none⟩) gs.length gs.length)) B1 0 gs) := Q1.out.exq LT1.out X1.out (by have := HB1.out; omega)
  have LT1' : Hid (B1 < (w1.setCell ⟨w.heap.size + 1 + 1, 1, none⟩ (.slice (some ⟨B1, 0, none⟩) gs.length gs.length)).heap.size) := Nat.lt_of_lt_of_le LT1.out X1.out.size
  clear X1 Q1 LT1
  go_wp2_with fail
  clear ka1 ko1 kf1 kz1
  have hto2 := to_in (i2.keep S1.out.e) l2 HL.out
  refine hto2.mono ?_
  clear hto2
  rintro e w2 ⟨⟨qs, hs, rfl, r2, k2, z2⟩, c2⟩
  have T2 : Hid (St3 w #[.int .i64 t, v1, v2] #[.int .i64 t, (.slice (some ⟨B1, 0, none⟩) gs.length gs.length), .slice none 0 0] w2) := S1.out.below c2
  have ka2 := T2.out.a
  have ko2 := T2.out.b
  have kf2 := T2.out.c
  have kz2 := T2.out.f
  obtain ⟨B2, hB2⟩ : ∃ B, B = (w1.setCell ⟨w.heap.size + 1 + 1, 1, none⟩ (.slice (some ⟨B1, 0, none⟩) gs.length gs.length)).heap.size := ⟨_, rfl⟩
  have HB2 : Hid (w.heap.size + 1 + 1 < B2) := by rw [hB2]; exact S1.out.f
  have Q2 : Hid (RowsAt w2 B2 0 qs) := by rw [hB2]; exact r2
  have K2 : Hid (∀ q ∈ qs, q.blk B2 w2) := by rw [hB2]; exact k2
  have LT2 : Hid (B2 < w2.heap.size) := by rw [hB2]; exact z2
  have HS : Hid (Like qs ps) := hs
  have Q12 : Hid (G.RowsAt w2 B1 0 gs) := Q1'.out.keep LT1'.out c2
  have LT12 : Hid (B1 < w2.heap.size) := Nat.lt_of_lt_of_le LT1'.out c2.size
  rw [← hB2]
  clear hB2 r2 z2 c2 k2 hs Q1' LT1'
  have S2 : Hid (St3 w #[.int .i64 t, v1, v2] #[.int .i64 t, (.slice (some ⟨B1, 0, none⟩) gs.length gs.length), (.slice (some ⟨B2, 0, none⟩) qs.length qs.length)] (w2.setCell ⟨w.heap.size + 1 + 1, 2, none⟩ (.slice (some ⟨B2, 0, none⟩) qs.length qs.length))) := T2.out.set 2 (by simp) _
  have X2 : Hid (Ex (w.heap.size + 1 + 1) w2 (w2.setCell ⟨w.heap.size + 1 + 1, 2, none⟩ (.slice (some ⟨B2, 0, none⟩) qs.length qs.length))) := Ex.set (Ex.refl _ _) 2 _
  have X3 : Hid (Ex (w.heap.size + 1) (w2.setCell ⟨w.heap.size + 1 + 1, 2, none⟩ (.slice (some ⟨B2, 0, none⟩) qs.length qs.length)) (World.setCells (w2.setCell ⟨w.heap.size + 1 + 1, 2, none⟩ (.slice (some ⟨B2, 0, none⟩) qs.length qs.length)) (w.heap.size + 1) 0 [.int .i64 t, (.slice (some ⟨B1, 0, none⟩) gs.length gs.length), (.slice (some ⟨B2, 0, none⟩) qs.length qs.length)])) := (Ex.refl _ _).cells _ _
  have LA2 : Hid (LandAt (World.setCells (w2.setCell ⟨w.heap.size + 1 + 1, 2, none⟩ (.slice (some ⟨B2, 0, none⟩) qs.length qs.length)) (w.heap.size + 1) 0 [.int .i64 t, (.slice (some ⟨B1, 0, none⟩) gs.length gs.length), (.slice (some ⟨B2, 0, none⟩) qs.length qs.length)]) gs qs B1 B2) := ⟨G.RowsAt.exq (G.RowsAt.exq Q12.out LT12.out X2.out (by have := HB1.out; omega)) (Nat.lt_of_lt_of_le LT12.out X2.out.size) X3.out (by have := HB1.out; omega), Nat.lt_of_lt_of_le (Nat.lt_of_lt_of_le LT12.out X2.out.size) X3.out.size,
    RowsAt.exq (RowsAt.exq Q2.out LT2.out X2.out (by have := HB2.out; omega)) (Nat.lt_of_lt_of_le LT2.out X2.out.size) X3.out (by have := HB2.out; omega), Nat.lt_of_lt_of_le (Nat.lt_of_lt_of_le LT2.out X2.out.size) X3.out.size,
    fun q hq => (((K2.out q hq).ex X2.out (by have := HB2.out; omega)).ex X3.out (by have := HB2.out; omega)).low (Nat.zero_le _)⟩
  have RG : Hid _ := World.rangeAt_setCells_same (w2.setCell ⟨w.heap.size + 1 + 1, 2, none⟩ (.slice (some ⟨B2, 0, none⟩) qs.length qs.length)) (w.heap.size + 1) 0 [.int .i64 t, (.slice (some ⟨B1, 0, none⟩) gs.length gs.length), (.slice (some ⟨B2, 0, none⟩) qs.length qs.length)] S2.out.d
  have BE : Hid (Below w.heap.size w (World.setCells (w2.setCell ⟨w.heap.size + 1 + 1, 2, none⟩ (.slice (some ⟨B2, 0, none⟩) qs.length qs.length)) (w.heap.size + 1) 0 [.int .i64 t, (.slice (some ⟨B1, 0, none⟩) gs.length gs.length), (.slice (some ⟨B2, 0, none⟩) qs.length qs.length)])) := Ex.mono S2.out.e X3.out (Nat.le_succ _)
  clear X2 X3 Q2 K2 Q12 LT12 LT2
  go_wp2_with (refine wpList_store_mid (by rfl) 72 _ _ (by rfl) (w.heap.size + 1) 0 #[.int .i64 t, (.slice (some ⟨B1, 0, none⟩) gs.length gs.length), (.slice (some ⟨B2, 0, none⟩) qs.length qs.length)] (by rfl) (by rfl) (by exact S2.out.d) hinfo (by simp [Value.oneCell']) ?_)
  have hrg := RG.out
  have d0 := hrg 0 _ rfl
  have d1 := hrg 1 _ rfl
  have d2 := hrg 2 _ rfl
  simp only [Nat.zero_add] at d0 d1 d2
  exact bodyPost_ret (v := .agg #[.int .i64 t, (.slice (some ⟨B1, 0, none⟩) gs.length gs.length), (.slice (some ⟨B2, 0, none⟩) qs.length qs.length)]) (by simp [results, Try.results39, go_sem, d0, d1, d2]) rfl ⟨⟨B1, B2, qs, rfl, HS.out, LA2.out⟩, BE.out⟩

theorem land_boxes {w w' : World} {t : Int} {gs : List G.GrantD} {ps qs : List PlaceD} {b1 b2 e1 e2 : Nat} (hb : Below ((w.alloc (.cells #[.int .i64 t, .slice (some ⟨b1, 0, none⟩) gs.length gs.length, .slice (some ⟨b2, 0, none⟩) ps.length ps.length] 72)).alloc (.cells #[.int .i64 t, .slice (some ⟨e1, 0, none⟩) gs.length gs.length, .slice (some ⟨e2, 0, none⟩) qs.length qs.length] 72)).heap.size ((w.alloc (.cells #[.int .i64 t, .slice (some ⟨b1, 0, none⟩) gs.length gs.length, .slice (some ⟨b2, 0, none⟩) ps.length ps.length] 72)).alloc (.cells #[.int .i64 t, .slice (some ⟨e1, 0, none⟩) gs.length gs.length, .slice (some ⟨e2, 0, none⟩) qs.length qs.length] 72)) w') :
    (∀ k, w'.cell? ⟨w.heap.size, k, none⟩ = (#[.int .i64 t, .slice (some ⟨b1, 0, none⟩) gs.length gs.length, .slice (some ⟨b2, 0, none⟩) ps.length ps.length] : Array Value)[k]?) ∧ (∀ k, w'.cell? ⟨w.heap.size + 1, k, none⟩ = (#[.int .i64 t, .slice (some ⟨e1, 0, none⟩) gs.length gs.length, .slice (some ⟨e2, 0, none⟩) qs.length qs.length] : Array Value)[k]?) := by
  constructor
  · intro k
    rw [hb.cell (p := ⟨w.heap.size, k, none⟩) (by simp; omega)]
    simp [go_sem]
  · intro k
    rw [hb.cell (p := ⟨w.heap.size + 1, k, none⟩) (by simp)]
    simp [go_sem]

set_option maxRecDepth 4000 in
set_option maxHeartbeats 2000000 in
theorem eqLand (t : Int) (gs : List G.GrantD) (ps qs : List PlaceD) (b1 b2 e1 e2 : Nat) (w : World) (h1 : LandAt w gs ps b1 b2) (h2 : LandAt w gs qs e1 e2) (hs : Like ps qs) (l1 : gs.length ≤ 1048576) (l2 : ps.length ≤ 1048576) (hL : Lns ps) :
    Calls Try.prog 41 #[.agg #[.int .i64 t, .slice (some ⟨b1, 0, none⟩) gs.length gs.length, .slice (some ⟨b2, 0, none⟩) ps.length ps.length], .agg #[.int .i64 t, .slice (some ⟨e1, 0, none⟩) gs.length gs.length, .slice (some ⟨e2, 0, none⟩) qs.length qs.length]] w fun e w' => e = .returned (.bool true) ∧ Below w.heap.size w w' := by
  have Hb0 : Hid (Below w.heap.size w ((w.alloc (.cells #[.int .i64 t, .slice (some ⟨b1, 0, none⟩) gs.length gs.length, .slice (some ⟨b2, 0, none⟩) ps.length ps.length] 72)).alloc (.cells #[.int .i64 t, .slice (some ⟨e1, 0, none⟩) gs.length gs.length, .slice (some ⟨e2, 0, none⟩) qs.length qs.length] 72))) := bl_alloc (bl_alloc (Below.refl _ _) _) _
  have P0 : Hid _ := h1.keep Hb0.out
  have Q0 : Hid _ := h2.keep Hb0.out
  have HS : Hid (Like ps qs) := hs
  have HL : Hid _ := hL
  clear h1 h2 hs hL
  go_enter Try.func41, Try.ntmps41
  go_wp2_with fail
  refine (G.eqGrantS b1 0 _ e1 0 _ gs _ P0.out.g Q0.out.g P0.out.g1 Q0.out.g1 l1).mono ?_
  rintro e w1 ⟨rfl, c1⟩
  have D1 : Hid (Below ((w.alloc (.cells #[.int .i64 t, .slice (some ⟨b1, 0, none⟩) gs.length gs.length, .slice (some ⟨b2, 0, none⟩) ps.length ps.length] 72)).alloc (.cells #[.int .i64 t, .slice (some ⟨e1, 0, none⟩) gs.length gs.length, .slice (some ⟨e2, 0, none⟩) qs.length qs.length] 72)).heap.size ((w.alloc (.cells #[.int .i64 t, .slice (some ⟨b1, 0, none⟩) gs.length gs.length, .slice (some ⟨b2, 0, none⟩) ps.length ps.length] 72)).alloc (.cells #[.int .i64 t, .slice (some ⟨e1, 0, none⟩) gs.length gs.length, .slice (some ⟨e2, 0, none⟩) qs.length qs.length] 72)) w1) := c1
  clear c1
  obtain ⟨ka1, kb1⟩ := land_boxes D1.out
  go_wp2_with fail
  have P1 := P0.out.keep D1.out
  have Q1 := Q0.out.keep D1.out
  refine (eqPlaceS b2 0 _ e2 0 _ 0 0 ps qs _ P1.p Q1.p P1.p1 Q1.p1 P1.k Q1.k HS.out l2 HL.out).mono ?_
  rintro e w2 ⟨rfl, c2⟩
  have D2 : Hid (Below w.heap.size w w2) := bl_trans Hb0.out (bl_trans D1.out c2)
  clear c2 P1 Q1 ka1 kb1
  go_wp2
  go_ret
  exact ⟨rfl, D2.out⟩
end Go.Proofs.Ytehiopokicegeab.P
/- all and ascends, at grants. -/
namespace Go.Proofs.Ytehiopokicegeab.G
open Go.RowKit
set_option linter.unusedVariables false

set_option maxRecDepth 4000 in
set_option maxHeartbeats 1000000 in
theorem allOk (bk : Nat) (P : GrantD → Bool) (b off cap : Nat) (rs : List GrantD) (w : World) (hR : RowsAt w b off rs) (l1 : b < w.heap.size) (hl : rs.length ≤ 1048576)
    (hF : ∀ r ∈ rs, ∀ x, Below w.heap.size w x → Calls Try.prog 133 #[.agg #[.string r.h, .string r.b, .string r.c, .int .i64 r.t, .int .i64 r.u], .pointer (some ⟨bk, 0, none⟩)] x fun e x' => e = .returned (.bool (P r)) ∧ Below x.heap.size x x') :
    Calls Try.prog 132 #[.slice (some ⟨b, off, none⟩) rs.length cap, .func (.func 133) #[] #[.pointer (some ⟨bk, 0, none⟩)]] w fun e w' => (∃ q : Bool, e = .returned (.bool q) ∧ (q = true ↔ ∀ r ∈ rs, P r = true)) ∧ Below w.heap.size w w' := by
  have HF : Hid _ := hF
  clear hF
  go_enter Try.func132, Try.ntmps132
  go_wp2
  go_loopw [9] (fun i wx => ∃ (k : Nat), k ≤ rs.length ∧ i = .int .i64 k ∧ Hid (∀ j r, j < k → rs[j]? = some r → P r = true) ∧ Below w.heap.size w wx) (fun i _ => rs.length - (intOf i).toNat)
  case atStart => exact ⟨0, Nat.zero_le _, rfl, fun j r h => by omega, Below.refl _ _⟩
  case round =>
    obtain ⟨k, hk, rfl, Ha, hB⟩ := hrel
    by_cases hlt : k < rs.length
    · obtain ⟨r, hr⟩ : ∃ r, rs[k]? = some r := ⟨rs[k], List.getElem?_eq_getElem hlt⟩
      have Hr : Hid _ := hr
      clear hr
      obtain ⟨c0, c1, c2, c3, c4⟩ := (hR.keep l1 hB).at Hr.out
      go_wp2_with fail
      refine (HF.out r (List.mem_of_getElem? Hr.out) _ (bl_alloc hB _)).mono ?_
      rintro e w1 ⟨rfl, hb⟩
      have hB1 := bl_trans (bl_alloc hB _) hb
      have Hb1 : Hid _ := hB1
      clear hB hb hB1
      cases hP : P r
      · go_wp2
        go_ret
        exact ⟨⟨false, rfl, ⟨fun h => (by cases h), fun h => by have := h r (List.mem_of_getElem? Hr.out); rw [hP] at this; cases this⟩⟩, Hb1.out⟩
      · go_wp2
        exact ⟨⟨k + 1, by omega, by go_num, (fun j q hj hq => by
          by_cases e : j = k
          · subst e; have hh := Hr.out; rw [hh] at hq; cases hq; exact hP
          · exact Ha.out j q (by omega) hq), Hb1.out⟩, by simp [intOf]; omega⟩
    · go_wp2
      go_ret
      exact ⟨⟨true, rfl, ⟨fun _ r hr => by
        obtain ⟨j, hj⟩ := List.getElem?_of_mem hr
        have hjl : j < rs.length := (List.getElem?_eq_some_iff.1 hj).1
        exact Ha.out j r (by omega) hj, fun _ => rfl⟩⟩, hB⟩

theorem name_any (r : GrantD) (w : World) :
    Calls Try.prog 131 #[.agg #[.string r.h, .string r.b, .string r.c, .int .i64 r.t, .int .i64 r.u]] w fun e w' => e = .returned (.string r.h) ∧ Below w.heap.size w w' := by
  go_enter Try.func131, Try.ntmps131
  go_wp2
  go_ret
  exact ⟨rfl, by repeat (first | exact Below.refl _ _ | refine bl_alloc ?_ _)⟩
/-- Ascending by their names, the first n. -/
def AscN (rs : List GrantD) (n : Nat) : Prop := ∀ j q r, j + 1 < n → rs[j]? = some q → rs[j + 1]? = some r → Op.bytesLess q.h.toList r.h.toList = true
theorem AscN.step {rs : List GrantD} {k : Nat} {q r : GrantD} (h : AscN rs (k + 1)) (hq : rs[k]? = some q) (hr : rs[k + 1]? = some r) (hs : Op.bytesLess q.h.toList r.h.toList = true) : AscN rs (k + 1 + 1) := by
  intro j q' r' hj hq' hr'
  by_cases e : j = k
  · subst e; rw [hq] at hq'; rw [hr] at hr'; cases hq'; cases hr'; exact hs
  · exact h j q' r' (by omega) hq' hr'
theorem keepAsc {x w' : World} {b off m : Nat} {rs : List GrantD} {r q : GrantD} (hk : rs[m + 1]? = some r) (hq : rs[m]? = some q) (h1 : RowsAt x b off rs) (l1 : b < x.heap.size) (hb : Below x.heap.size x w') :
    Below x.heap.size x w' ∧ (w'.cell? ⟨b, off + (m + 1) * 5, none⟩ = some (.string r.h) ∧ w'.cell? ⟨b, off + (m + 1) * 5 + 1, none⟩ = some (.string r.b) ∧ w'.cell? ⟨b, off + (m + 1) * 5 + 2, none⟩ = some (.string r.c) ∧ w'.cell? ⟨b, off + (m + 1) * 5 + 3, none⟩ = some (.int .i64 r.t) ∧ w'.cell? ⟨b, off + (m + 1) * 5 + 4, none⟩ = some (.int .i64 r.u)) ∧ (w'.cell? ⟨b, off + m * 5, none⟩ = some (.string q.h) ∧ w'.cell? ⟨b, off + m * 5 + 1, none⟩ = some (.string q.b) ∧ w'.cell? ⟨b, off + m * 5 + 2, none⟩ = some (.string q.c) ∧ w'.cell? ⟨b, off + m * 5 + 3, none⟩ = some (.int .i64 q.t) ∧ w'.cell? ⟨b, off + m * 5 + 4, none⟩ = some (.int .i64 q.u)) := ⟨hb, (h1.keep l1 hb).at hk, (h1.keep l1 hb).at hq⟩

set_option maxRecDepth 4000 in
set_option maxHeartbeats 2000000 in
theorem ascends (b off cap : Nat) (rs : List GrantD) (w : World) (hR : RowsAt w b off rs) (l1 : b < w.heap.size) (hl : rs.length ≤ 1048576) :
    Calls Try.prog 130 #[.slice (some ⟨b, off, none⟩) rs.length cap, .func (.func 131) #[] #[]] w fun e w' => (∃ q : Bool, e = .returned (.bool q) ∧ (q = true ↔ AscN rs rs.length)) ∧ Below w.heap.size w w' := by
  go_enter Try.func130, Try.ntmps130
  go_wp2
  go_loopw [5] (fun i wx => ∃ (m : Nat), m ≤ rs.length ∧ i = .int .i64 ((m : Int) + 1) ∧ Hid (AscN rs (m + 1)) ∧ Below w.heap.size w wx) (fun i _ => rs.length + 1 - (intOf i).toNat)
  case atStart => exact ⟨0, Nat.zero_le _, rfl, (fun j q r hj _ _ => by omega), Below.refl _ _⟩
  case round =>
    obtain ⟨m, hk, rfl, Ha, hB⟩ := hrel
    by_cases hlt : m + 1 < rs.length
    · obtain ⟨r, hr⟩ : ∃ r, rs[m + 1]? = some r := ⟨rs[m + 1], List.getElem?_eq_getElem hlt⟩
      obtain ⟨q, hq⟩ : ∃ q, rs[m]? = some q := ⟨rs[m], List.getElem?_eq_getElem (by omega)⟩
      have Hr : Hid _ := hr
      have Hq : Hid _ := hq
      clear hr hq
      have g1 := hR.keep l1 hB
      have z1 : b < wr.heap.size := Nat.lt_of_lt_of_le l1 hB.size
      have i0 : (0 : Int) ≤ (m : Int) := by omega
      have i1 : (m : Int) + 1 < (rs.length : Int) := by omega
      have i2 : (m : Int) < (rs.length : Int) := by omega
      have i3 : (0 : Int) ≤ (m : Int) + 1 := by omega
      have iw : IntKind.i64.wrap (m : Int) = (m : Int) := by rw [IntKind.wrap_i64]; omega
      cases hasc : Op.bytesLess q.h.toList r.h.toList
      · go_wp2_with fail
        go_region_held3 (fun w' => Below wr.heap.size wr w' ∧ (w'.cell? ⟨b, off + (m + 1) * 5, none⟩ = some (.string r.h) ∧ w'.cell? ⟨b, off + (m + 1) * 5 + 1, none⟩ = some (.string r.b) ∧ w'.cell? ⟨b, off + (m + 1) * 5 + 2, none⟩ = some (.string r.c) ∧ w'.cell? ⟨b, off + (m + 1) * 5 + 3, none⟩ = some (.int .i64 r.t) ∧ w'.cell? ⟨b, off + (m + 1) * 5 + 4, none⟩ = some (.int .i64 r.u)) ∧ (w'.cell? ⟨b, off + m * 5, none⟩ = some (.string q.h) ∧ w'.cell? ⟨b, off + m * 5 + 1, none⟩ = some (.string q.b) ∧ w'.cell? ⟨b, off + m * 5 + 2, none⟩ = some (.string q.c) ∧ w'.cell? ⟨b, off + m * 5 + 3, none⟩ = some (.int .i64 q.t) ∧ w'.cell? ⟨b, off + m * 5 + 4, none⟩ = some (.int .i64 q.u)))
          (first | exact keepAsc Hr.out Hq.out g1 z1 (bl_drew (Below.refl _ _)) | exact keepAsc Hr.out Hq.out g1 z1 (bl_trans (bl_drew (Below.refl _ _)) hx) | exact keepAsc Hr.out Hq.out g1 z1 (bl_trans (bl_trans (bl_drew (Below.refl _ _)) hx) hy))
          (first | (go_at_call 131; refine (name_any q _).mono ?_; rintro e w' ⟨rfl, hx⟩) | (go_at_call 131; refine (name_any r _).mono ?_; rintro e w'' ⟨rfl, hy⟩))
        have y1 := bl_trans (bl_trans (bl_drew (Below.refl _ wr)) hx) hy
        have Hb1 : Hid _ := bl_trans hB y1
        clear hx hy y1 hB g1
        go_wp2
        go_ret
        exact ⟨⟨false, rfl, ⟨fun h => (by cases h), fun h => by have := h m q r (by omega) Hq.out Hr.out; rw [hasc] at this; cases this⟩⟩, Hb1.out⟩
      · go_wp2_with fail
        go_region_held3 (fun w' => Below wr.heap.size wr w' ∧ (w'.cell? ⟨b, off + (m + 1) * 5, none⟩ = some (.string r.h) ∧ w'.cell? ⟨b, off + (m + 1) * 5 + 1, none⟩ = some (.string r.b) ∧ w'.cell? ⟨b, off + (m + 1) * 5 + 2, none⟩ = some (.string r.c) ∧ w'.cell? ⟨b, off + (m + 1) * 5 + 3, none⟩ = some (.int .i64 r.t) ∧ w'.cell? ⟨b, off + (m + 1) * 5 + 4, none⟩ = some (.int .i64 r.u)) ∧ (w'.cell? ⟨b, off + m * 5, none⟩ = some (.string q.h) ∧ w'.cell? ⟨b, off + m * 5 + 1, none⟩ = some (.string q.b) ∧ w'.cell? ⟨b, off + m * 5 + 2, none⟩ = some (.string q.c) ∧ w'.cell? ⟨b, off + m * 5 + 3, none⟩ = some (.int .i64 q.t) ∧ w'.cell? ⟨b, off + m * 5 + 4, none⟩ = some (.int .i64 q.u)))
          (first | exact keepAsc Hr.out Hq.out g1 z1 (bl_drew (Below.refl _ _)) | exact keepAsc Hr.out Hq.out g1 z1 (bl_trans (bl_drew (Below.refl _ _)) hx) | exact keepAsc Hr.out Hq.out g1 z1 (bl_trans (bl_trans (bl_drew (Below.refl _ _)) hx) hy))
          (first | (go_at_call 131; refine (name_any q _).mono ?_; rintro e w' ⟨rfl, hx⟩) | (go_at_call 131; refine (name_any r _).mono ?_; rintro e w'' ⟨rfl, hy⟩))
        have y1 := bl_trans (bl_trans (bl_drew (Below.refl _ wr)) hx) hy
        have Hb1 : Hid _ := bl_trans hB y1
        clear hx hy y1 hB g1
        go_wp2
        exact ⟨⟨m + 1, by omega, by go_num, Ha.out.step Hq.out Hr.out hasc, Hb1.out⟩, by simp [intOf]; omega⟩
    · go_wp2
      go_ret
      exact ⟨⟨true, rfl, ⟨fun _ j q r hj hq hr => Ha.out j q r (by omega) hq hr, fun _ => rfl⟩⟩, hB⟩
end Go.Proofs.Ytehiopokicegeab.G
/- all and ascends, at places. -/
namespace Go.Proofs.Ytehiopokicegeab.P
open Go.RowKit
set_option linter.unusedVariables false

set_option maxRecDepth 4000 in
set_option maxHeartbeats 1000000 in
theorem allOk (P : PlaceD → Bool) (b off cap : Nat) (rs : List PlaceD) (w : World) (hR : RowsAt w b off rs) (l1 : b < w.heap.size) (hl : rs.length ≤ 1048576)
    (hF : ∀ r ∈ rs, ∀ x, Below w.heap.size w x → Calls Try.prog 138 #[.agg #[.string r.b, .int .i64 r.s, .slice r.a r.ws.length r.c]] x fun e x' => e = .returned (.bool (P r)) ∧ Below x.heap.size x x') :
    Calls Try.prog 137 #[.slice (some ⟨b, off, none⟩) rs.length cap, .func (.func 138) #[] #[]] w fun e w' => (∃ q : Bool, e = .returned (.bool q) ∧ (q = true ↔ ∀ r ∈ rs, P r = true)) ∧ Below w.heap.size w w' := by
  have HF : Hid _ := hF
  clear hF
  go_enter Try.func137, Try.ntmps137
  go_wp2
  go_loopw [9] (fun i wx => ∃ (k : Nat), k ≤ rs.length ∧ i = .int .i64 k ∧ Hid (∀ j r, j < k → rs[j]? = some r → P r = true) ∧ Below w.heap.size w wx) (fun i _ => rs.length - (intOf i).toNat)
  case atStart => exact ⟨0, Nat.zero_le _, rfl, fun j r h => by omega, Below.refl _ _⟩
  case round =>
    obtain ⟨k, hk, rfl, Ha, hB⟩ := hrel
    by_cases hlt : k < rs.length
    · obtain ⟨r, hr⟩ : ∃ r, rs[k]? = some r := ⟨rs[k], List.getElem?_eq_getElem hlt⟩
      have Hr : Hid _ := hr
      clear hr
      obtain ⟨c0, c1, c2⟩ := (hR.keep l1 hB).at Hr.out
      go_wp2_with fail
      refine (HF.out r (List.mem_of_getElem? Hr.out) _ (bl_alloc hB _)).mono ?_
      rintro e w1 ⟨rfl, hb⟩
      have hB1 := bl_trans (bl_alloc hB _) hb
      have Hb1 : Hid _ := hB1
      clear hB hb hB1
      cases hP : P r
      · go_wp2
        go_ret
        exact ⟨⟨false, rfl, ⟨fun h => (by cases h), fun h => by have := h r (List.mem_of_getElem? Hr.out); rw [hP] at this; cases this⟩⟩, Hb1.out⟩
      · go_wp2
        exact ⟨⟨k + 1, by omega, by go_num, (fun j q hj hq => by
          by_cases e : j = k
          · subst e; have hh := Hr.out; rw [hh] at hq; cases hq; exact hP
          · exact Ha.out j q (by omega) hq), Hb1.out⟩, by simp [intOf]; omega⟩
    · go_wp2
      go_ret
      exact ⟨⟨true, rfl, ⟨fun _ r hr => by
        obtain ⟨j, hj⟩ := List.getElem?_of_mem hr
        have hjl : j < rs.length := (List.getElem?_eq_some_iff.1 hj).1
        exact Ha.out j r (by omega) hj, fun _ => rfl⟩⟩, hB⟩

theorem name_any (r : PlaceD) (w : World) :
    Calls Try.prog 136 #[.agg #[.string r.b, .int .i64 r.s, .slice r.a r.ws.length r.c]] w fun e w' => e = .returned (.string r.b) ∧ Below w.heap.size w w' := by
  go_enter Try.func136, Try.ntmps136
  go_wp2
  go_ret
  exact ⟨rfl, by repeat (first | exact Below.refl _ _ | refine bl_alloc ?_ _)⟩
/-- Ascending by their names, the first n. -/
def AscN (rs : List PlaceD) (n : Nat) : Prop := ∀ j q r, j + 1 < n → rs[j]? = some q → rs[j + 1]? = some r → Op.bytesLess q.b.toList r.b.toList = true
theorem AscN.step {rs : List PlaceD} {k : Nat} {q r : PlaceD} (h : AscN rs (k + 1)) (hq : rs[k]? = some q) (hr : rs[k + 1]? = some r) (hs : Op.bytesLess q.b.toList r.b.toList = true) : AscN rs (k + 1 + 1) := by
  intro j q' r' hj hq' hr'
  by_cases e : j = k
  · subst e; rw [hq] at hq'; rw [hr] at hr'; cases hq'; cases hr'; exact hs
  · exact h j q' r' (by omega) hq' hr'
theorem keepAsc {x w' : World} {b off m : Nat} {rs : List PlaceD} {r q : PlaceD} (hk : rs[m + 1]? = some r) (hq : rs[m]? = some q) (h1 : RowsAt x b off rs) (l1 : b < x.heap.size) (hb : Below x.heap.size x w') :
    Below x.heap.size x w' ∧ (w'.cell? ⟨b, off + (m + 1) * 3, none⟩ = some (.string r.b) ∧ w'.cell? ⟨b, off + (m + 1) * 3 + 1, none⟩ = some (.int .i64 r.s) ∧ w'.cell? ⟨b, off + (m + 1) * 3 + 2, none⟩ = some (.slice r.a r.ws.length r.c)) ∧ (w'.cell? ⟨b, off + m * 3, none⟩ = some (.string q.b) ∧ w'.cell? ⟨b, off + m * 3 + 1, none⟩ = some (.int .i64 q.s) ∧ w'.cell? ⟨b, off + m * 3 + 2, none⟩ = some (.slice q.a q.ws.length q.c)) := ⟨hb, (h1.keep l1 hb).at hk, (h1.keep l1 hb).at hq⟩

set_option maxRecDepth 4000 in
set_option maxHeartbeats 2000000 in
theorem ascends (b off cap : Nat) (rs : List PlaceD) (w : World) (hR : RowsAt w b off rs) (l1 : b < w.heap.size) (hl : rs.length ≤ 1048576) :
    Calls Try.prog 135 #[.slice (some ⟨b, off, none⟩) rs.length cap, .func (.func 136) #[] #[]] w fun e w' => (∃ q : Bool, e = .returned (.bool q) ∧ (q = true ↔ AscN rs rs.length)) ∧ Below w.heap.size w w' := by
  go_enter Try.func135, Try.ntmps135
  go_wp2
  go_loopw [5] (fun i wx => ∃ (m : Nat), m ≤ rs.length ∧ i = .int .i64 ((m : Int) + 1) ∧ Hid (AscN rs (m + 1)) ∧ Below w.heap.size w wx) (fun i _ => rs.length + 1 - (intOf i).toNat)
  case atStart => exact ⟨0, Nat.zero_le _, rfl, (fun j q r hj _ _ => by omega), Below.refl _ _⟩
  case round =>
    obtain ⟨m, hk, rfl, Ha, hB⟩ := hrel
    by_cases hlt : m + 1 < rs.length
    · obtain ⟨r, hr⟩ : ∃ r, rs[m + 1]? = some r := ⟨rs[m + 1], List.getElem?_eq_getElem hlt⟩
      obtain ⟨q, hq⟩ : ∃ q, rs[m]? = some q := ⟨rs[m], List.getElem?_eq_getElem (by omega)⟩
      have Hr : Hid _ := hr
      have Hq : Hid _ := hq
      clear hr hq
      have g1 := hR.keep l1 hB
      have z1 : b < wr.heap.size := Nat.lt_of_lt_of_le l1 hB.size
      have i0 : (0 : Int) ≤ (m : Int) := by omega
      have i1 : (m : Int) + 1 < (rs.length : Int) := by omega
      have i2 : (m : Int) < (rs.length : Int) := by omega
      have i3 : (0 : Int) ≤ (m : Int) + 1 := by omega
      have iw : IntKind.i64.wrap (m : Int) = (m : Int) := by rw [IntKind.wrap_i64]; omega
      cases hasc : Op.bytesLess q.b.toList r.b.toList
      · go_wp2_with fail
        go_region_held3 (fun w' => Below wr.heap.size wr w' ∧ (w'.cell? ⟨b, off + (m + 1) * 3, none⟩ = some (.string r.b) ∧ w'.cell? ⟨b, off + (m + 1) * 3 + 1, none⟩ = some (.int .i64 r.s) ∧ w'.cell? ⟨b, off + (m + 1) * 3 + 2, none⟩ = some (.slice r.a r.ws.length r.c)) ∧ (w'.cell? ⟨b, off + m * 3, none⟩ = some (.string q.b) ∧ w'.cell? ⟨b, off + m * 3 + 1, none⟩ = some (.int .i64 q.s) ∧ w'.cell? ⟨b, off + m * 3 + 2, none⟩ = some (.slice q.a q.ws.length q.c)))
          (first | exact keepAsc Hr.out Hq.out g1 z1 (bl_drew (Below.refl _ _)) | exact keepAsc Hr.out Hq.out g1 z1 (bl_trans (bl_drew (Below.refl _ _)) hx) | exact keepAsc Hr.out Hq.out g1 z1 (bl_trans (bl_trans (bl_drew (Below.refl _ _)) hx) hy))
          (first | (go_at_call 136; refine (name_any q _).mono ?_; rintro e w' ⟨rfl, hx⟩) | (go_at_call 136; refine (name_any r _).mono ?_; rintro e w'' ⟨rfl, hy⟩))
        have y1 := bl_trans (bl_trans (bl_drew (Below.refl _ wr)) hx) hy
        have Hb1 : Hid _ := bl_trans hB y1
        clear hx hy y1 hB g1
        go_wp2
        go_ret
        exact ⟨⟨false, rfl, ⟨fun h => (by cases h), fun h => by have := h m q r (by omega) Hq.out Hr.out; rw [hasc] at this; cases this⟩⟩, Hb1.out⟩
      · go_wp2_with fail
        go_region_held3 (fun w' => Below wr.heap.size wr w' ∧ (w'.cell? ⟨b, off + (m + 1) * 3, none⟩ = some (.string r.b) ∧ w'.cell? ⟨b, off + (m + 1) * 3 + 1, none⟩ = some (.int .i64 r.s) ∧ w'.cell? ⟨b, off + (m + 1) * 3 + 2, none⟩ = some (.slice r.a r.ws.length r.c)) ∧ (w'.cell? ⟨b, off + m * 3, none⟩ = some (.string q.b) ∧ w'.cell? ⟨b, off + m * 3 + 1, none⟩ = some (.int .i64 q.s) ∧ w'.cell? ⟨b, off + m * 3 + 2, none⟩ = some (.slice q.a q.ws.length q.c)))
          (first | exact keepAsc Hr.out Hq.out g1 z1 (bl_drew (Below.refl _ _)) | exact keepAsc Hr.out Hq.out g1 z1 (bl_trans (bl_drew (Below.refl _ _)) hx) | exact keepAsc Hr.out Hq.out g1 z1 (bl_trans (bl_trans (bl_drew (Below.refl _ _)) hx) hy))
          (first | (go_at_call 136; refine (name_any q _).mono ?_; rintro e w' ⟨rfl, hx⟩) | (go_at_call 136; refine (name_any r _).mono ?_; rintro e w'' ⟨rfl, hy⟩))
        have y1 := bl_trans (bl_trans (bl_drew (Below.refl _ wr)) hx) hy
        have Hb1 : Hid _ := bl_trans hB y1
        clear hx hy y1 hB g1
        go_wp2
        exact ⟨⟨m + 1, by omega, by go_num, Ha.out.step Hq.out Hr.out hasc, Hb1.out⟩, by simp [intOf]; omega⟩
    · go_wp2
      go_ret
      exact ⟨⟨true, rfl, ⟨fun _ j q r hj hq hr => Ha.out j q r (by omega) hq hr, fun _ => rfl⟩⟩, hB⟩
end Go.Proofs.Ytehiopokicegeab.P
