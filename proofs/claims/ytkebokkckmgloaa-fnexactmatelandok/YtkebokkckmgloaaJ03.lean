import Derived.Test.YtkebokkckmgloaaJ02
import Derived.Test.YtkebokkckmgloaaJ01
import Derived.Deep.RegionHeld3
import Derived.Laws.Pointers
import Derived.StillTactics
/- A list of places is copied. -/
namespace Go.Proofs.Ytkebokkckmgloaa.P
open Go.RowKit
set_option linter.unusedVariables false

theorem make_places (n : Nat) (hn : n ≤ 1048576) : ∃ C : Array Value, C.size = n * 3 ∧ ∀ w : World, Sem.run Try.prog (Instr.makeSlice 83 (.int .i64 (n : Int)) (.int .i64 (n : Int))) w = .ok (.slice (some ⟨w.heap.size, 0, none⟩) n n) (w.alloc (.cells C 176)) := by
  have hq : (Try.prog.info? 176).map (fun i => (i.size, i.bytes, i.zero)) = some (3, 48, some (.agg #[.string ⟨#[]⟩, .int .i64 0, .slice none 0 0])) := by kernel_rfl
  cases hi : Try.prog.info? 176 with
  | none => rw [hi] at hq; simp at hq
  | some i =>
    rw [hi] at hq
    simp only [Option.map_some, Option.some.injEq, Prod.mk.injEq] at hq
    obtain ⟨h1, h2, h3⟩ := hq
    refine ⟨madeCells (Value.cells (.agg #[.string ⟨#[]⟩, .int .i64 0, .slice none 0 0])) (n * i.size), (size_madeCells _ _).trans (by rw [h1]), fun w => ?_⟩
    have := run_make (P := Try.prog) w 83 176 i _ Try.underlying83 hi h3 .i64 .i64 n n (by omega) (by omega) (by rw [h2]; omega) (by omega)
    simpa using this

theorem there_part {x : World} {g n k : Nat} (h : x.there g 0 (n * 3)) (hk : k < n) : x.there g (k * 3) 3 :=
  fun j hj => by have := h (k * 3 + j) (by omega); simpa using this
theorem there_new {w : World} {C : Array Value} {t : TypeId} {n : Nat} (hC : C.size = n * 3) : (w.alloc (.cells C t)).there w.heap.size 0 (n * 3) :=
  fun j hj => ⟨by simp [go_sem]; omega, by simp [go_sem]⟩
theorem rows_snoc {x : World} {g : Nat} {qs : List PlaceD} {q : PlaceD} (h : RowsAt x g 0 qs) (ht : x.there g (qs.length * 3) 3) : RowsAt (x.setCells g (qs.length * 3) q.cells) g 0 (qs ++ [q]) := by
  intro j p hj
  by_cases e : j < qs.length
  · have hj' : qs[j]? = some p := by rw [List.getElem?_append_left e] at hj; exact hj
    exact World.rangeAt_setCells_apart (h j p hj') g (qs.length * 3) q.cells (Or.inr (Or.inl (by show 0 + j * 3 + 3 ≤ qs.length * 3; omega)))
  · rw [List.getElem?_append_right (by omega)] at hj
    have hz : j - qs.length = 0 := by
      have := (List.getElem?_eq_some_iff.1 hj).1
      simp at this; omega
    rw [hz] at hj
    cases hj
    have e2 : j = qs.length := by omega
    subst e2
    have := World.rangeAt_setCells_same x g (qs.length * 3) q.cells ht
    simpa using this
theorem PlaceD.blk.ex {B k : Nat} {w w' : World} {r : PlaceD} (h : r.blk B w) (he : Ex k w w') (hk : k ≤ B) : r.blk B w' := by
  obtain ⟨g, h1, hc, h2, h3, h4⟩ := h
  exact ⟨g, h1, hc, h2, Nat.lt_of_lt_of_le h3 he.size, W.RowsAt.exq h4 h3 he (by omega)⟩
/-- While a mate is copied: what came in, what is laid out so far. -/
structure St3 (w : World) (L O : Array Value) (x : World) : Prop where
  a : ∀ k, x.cell? ⟨w.heap.size, k, none⟩ = L[k]?
  b : ∀ k, x.cell? ⟨w.heap.size + 1 + 1, k, none⟩ = O[k]?
  c : ∀ k, x.frozen? ⟨w.heap.size + 1 + 1, k, none⟩ = false
  d : x.there (w.heap.size + 1) 0 3
  e : Below w.heap.size w x
  f : w.heap.size + 1 + 1 < x.heap.size
theorem St3.below {w x y : World} {L O : Array Value} (h : St3 w L O x) (hb : Below x.heap.size x y) : St3 w L O y :=
  have hf := h.f
  ⟨fun k => (hb.cell (p := ⟨w.heap.size, k, none⟩) (by show w.heap.size < _; omega)).trans (h.a k), fun k => (hb.cell (p := ⟨w.heap.size + 1 + 1, k, none⟩) hf).trans (h.b k), fun k => (hb.frozen (p := ⟨w.heap.size + 1 + 1, k, none⟩) hf).trans (h.c k),
    fun j hj => ⟨by rw [hb.cell (p := ⟨w.heap.size + 1, 0 + j, none⟩) (by show w.heap.size + 1 < _; omega)]; exact (h.d j hj).1, by rw [hb.frozen (p := ⟨w.heap.size + 1, 0 + j, none⟩) (by show w.heap.size + 1 < _; omega)]; exact (h.d j hj).2⟩,
    bl_trans h.e hb, Nat.lt_of_lt_of_le hf hb.size⟩
theorem St3.set {w x : World} {L O : Array Value} (h : St3 w L O x) (j : Nat) (hj : j < O.size) (u : Value) : St3 w L (O.setIfInBounds j u) (x.setCell ⟨w.heap.size + 1 + 1, j, none⟩ u) := by
  have he : Ex (w.heap.size + 1 + 1) x (x.setCell ⟨w.heap.size + 1 + 1, j, none⟩ u) := (Ex.refl _ _).set j u
  have hf := h.f
  refine ⟨fun k => (he.cell (p := ⟨w.heap.size, k, none⟩) (by show w.heap.size < _; omega) (by show w.heap.size ≠ _; omega)).trans (h.a k), fun k => ?_, fun k => ?_, there_ex h.d (by omega) he (by omega), bl_set (p := ⟨w.heap.size + 1 + 1, j, none⟩) h.e (by show w.heap.size ≤ w.heap.size + 1 + 1; omega) u, Nat.lt_of_lt_of_le hf he.size⟩
  · by_cases e : k = j
    · subst e
      have h1 := h.b k
      have h2 := h.c k
      rw [Array.getElem?_eq_getElem hj] at h1
      rw [Array.getElem?_setIfInBounds_self_of_lt hj]
      exact World.cell?_setCell_same _ _ _ h1
    · rw [Array.getElem?_setIfInBounds_ne (fun h' => e h'.symm), ← h.b k]
      exact World.cell?_setCell_other _ _ _ _ (fun h' => e (by have := congrArg Addr.off h'; exact this.symm))
  · rw [World.frozen?_setCell]; exact h.c k
theorem st3_new (r : PlaceD) (w : World) : St3 w #[.string r.b, .int .i64 r.s, .slice r.a r.ws.length r.c] #[.string r.b, .int .i64 r.s, .slice none 0 0] (((w.alloc (.cells #[.string r.b, .int .i64 r.s, .slice r.a r.ws.length r.c] 174)).alloc (.cells #[.string { data := #[] }, .int .i64 0, .slice none 0 0] 176)).alloc (.cells #[.string r.b, .int .i64 r.s, .slice none 0 0] 176)) := by
  refine ⟨fun k => by simp [go_sem, World.cell?_alloc_past], fun k => by simp [go_sem], fun k => by simp [go_sem], fun j hj => ⟨by simp [go_sem, World.cell?_alloc_past] <;> omega, by simp [go_sem]⟩, bl_alloc (bl_alloc (bl_alloc (Below.refl _ _) _) _) _, by simp⟩

set_option maxRecDepth 4000 in
set_option maxHeartbeats 4000000 in
theorem toPlace (r : PlaceD) (w : World) (hi : r.inn w) (hl : r.ws.length ≤ 1048576) :
    Calls Try.prog 156 #[.agg #[.string r.b, .int .i64 r.s, .slice r.a r.ws.length r.c]] w fun e w' => (∃ g, e = .returned (.agg #[.string r.b, .int .i64 r.s, .slice (some ⟨g, 0, none⟩) r.ws.length r.ws.length]) ∧ w.heap.size ≤ g ∧ g < w'.heap.size ∧ W.RowsAt w' g 0 r.ws) ∧ Below w.heap.size w w' := by
  have S0 : Hid (St3 w #[.string r.b, .int .i64 r.s, .slice r.a r.ws.length r.c] #[.string r.b, .int .i64 r.s, .slice none 0 0] (((w.alloc (.cells #[.string r.b, .int .i64 r.s, .slice r.a r.ws.length r.c] 174)).alloc (.cells #[.string { data := #[] }, .int .i64 0, .slice none 0 0] 176)).alloc (.cells #[.string r.b, .int .i64 r.s, .slice none 0 0] 176))) := st3_new r w
  have Hi : Hid (r.inn w) := hi
  clear hi
  have hinfo : (Try.prog.info? 176).map (·.size) = some 3 := by kernel_rfl
  go_enter Try.func156, Try.ntmps156
  go_wp2_with fail
  have hto1 := W.to_in (Hi.out.2.keep S0.out.e) hl
  refine hto1.mono ?_
  clear hto1
  rintro e w1 ⟨rfl, r1, z1, c1⟩
  have T1 : Hid (St3 w #[.string r.b, .int .i64 r.s, .slice r.a r.ws.length r.c] #[.string r.b, .int .i64 r.s, .slice none 0 0] w1) := S0.out.below c1
  have ka1 := T1.out.a
  have ko1 := T1.out.b
  have kf1 := T1.out.c
  have kz1 := T1.out.f
  obtain ⟨B, hB1⟩ : ∃ B, B = (((w.alloc (.cells #[.string r.b, .int .i64 r.s, .slice r.a r.ws.length r.c] 174)).alloc (.cells #[.string { data := #[] }, .int .i64 0, .slice none 0 0] 176)).alloc (.cells #[.string r.b, .int .i64 r.s, .slice none 0 0] 176)).heap.size := ⟨_, rfl⟩
  have HB1 : Hid (w.heap.size + 1 + 1 < B) := by rw [hB1]; exact S0.out.f
  have Q1 : Hid (W.RowsAt w1 B 0 r.ws) := by rw [hB1]; exact r1
  have LT1 : Hid (B < w1.heap.size) := by rw [hB1]; exact z1
  rw [← hB1]
  clear hB1 r1 z1 c1
  have S1 : Hid (St3 w #[.string r.b, .int .i64 r.s, .slice r.a r.ws.length r.c] #[.string r.b, .int .i64 r.s, .slice (some ⟨B, 0, none⟩) r.ws.length r.ws.length] (w1.setCell ⟨w.heap.size + 1 + 1, 2, none⟩ (.slice (some ⟨B, 0, none⟩) r.ws.length r.ws.length))) := T1.out.set 2 (by simp) _
  have X1 : Hid (Ex (w.heap.size + 1 + 1) w1 (w1.setCell ⟨w.heap.size + 1 + 1, 2, none⟩ (.slice (some ⟨B, 0, none⟩) r.ws.length r.ws.length))) := Ex.set (Ex.refl _ _) 2 _
  have hx2 : Hid (Ex (w.heap.size + 1) (w1.setCell ⟨w.heap.size + 1 + 1, 2, none⟩ (.slice (some ⟨B, 0, none⟩) r.ws.length r.ws.length)) (World.setCells (w1.setCell ⟨w.heap.size + 1 + 1, 2, none⟩ (.slice (some ⟨B, 0, none⟩) r.ws.length r.ws.length)) (w.heap.size + 1) 0 [.string r.b, .int .i64 r.s, .slice (some ⟨B, 0, none⟩) r.ws.length r.ws.length])) := (Ex.refl _ _).cells _ _
  have RG : Hid _ := World.rangeAt_setCells_same (w1.setCell ⟨w.heap.size + 1 + 1, 2, none⟩ (.slice (some ⟨B, 0, none⟩) r.ws.length r.ws.length)) (w.heap.size + 1) 0 [.string r.b, .int .i64 r.s, .slice (some ⟨B, 0, none⟩) r.ws.length r.ws.length] S1.out.d
  have BE : Hid (Below w.heap.size w (World.setCells (w1.setCell ⟨w.heap.size + 1 + 1, 2, none⟩ (.slice (some ⟨B, 0, none⟩) r.ws.length r.ws.length)) (w.heap.size + 1) 0 [.string r.b, .int .i64 r.s, .slice (some ⟨B, 0, none⟩) r.ws.length r.ws.length])) := Ex.mono S1.out.e hx2.out (Nat.le_succ _)
  have RW : Hid (W.RowsAt (World.setCells (w1.setCell ⟨w.heap.size + 1 + 1, 2, none⟩ (.slice (some ⟨B, 0, none⟩) r.ws.length r.ws.length)) (w.heap.size + 1) 0 [.string r.b, .int .i64 r.s, .slice (some ⟨B, 0, none⟩) r.ws.length r.ws.length]) B 0 r.ws) := W.RowsAt.exq (W.RowsAt.exq Q1.out LT1.out X1.out (by have := HB1.out; omega)) (Nat.lt_of_lt_of_le LT1.out X1.out.size) hx2.out (by have := HB1.out; omega)
  have LB : Hid (w.heap.size ≤ B ∧ B < (World.setCells (w1.setCell ⟨w.heap.size + 1 + 1, 2, none⟩ (.slice (some ⟨B, 0, none⟩) r.ws.length r.ws.length)) (w.heap.size + 1) 0 [.string r.b, .int .i64 r.s, .slice (some ⟨B, 0, none⟩) r.ws.length r.ws.length]).heap.size) := ⟨by have := HB1.out; omega, Nat.lt_of_lt_of_le (Nat.lt_of_lt_of_le LT1.out X1.out.size) hx2.out.size⟩
  go_wp2_with (refine wpList_store_mid (by rfl) 176 _ _ (by rfl) (w.heap.size + 1) 0 #[.string r.b, .int .i64 r.s, .slice (some ⟨B, 0, none⟩) r.ws.length r.ws.length] (by rfl) (by rfl) (by exact S1.out.d) hinfo (by simp [Value.oneCell']) ?_)
  have hrg := RG.out
  have d0 := hrg 0 _ rfl
  have d1 := hrg 1 _ rfl
  have d2 := hrg 2 _ rfl
  simp only [Nat.zero_add] at d0 d1 d2
  exact bodyPost_ret (v := .agg #[.string r.b, .int .i64 r.s, .slice (some ⟨B, 0, none⟩) r.ws.length r.ws.length]) (by simp [results, Try.results156, go_sem, d0, d1, d2]) rfl ⟨⟨B, rfl, LB.out.1, LB.out.2, RW.out⟩, BE.out⟩

set_option maxRecDepth 4000 in
set_option maxHeartbeats 2000000 in
theorem toPlaceS (b off cap : Nat) (rs : List PlaceD) (w : World) (hR : RowsAt w b off rs) (hb : b < w.heap.size) (hf : ∀ r ∈ rs, r.inn w) (hl : rs.length ≤ 1048576) (hL : Lns rs) :
    Calls Try.prog 113 #[.slice (some ⟨b, off, none⟩) rs.length cap] w fun e w' => (∃ qs : List PlaceD, Like qs rs ∧ e = .returned (.slice (some ⟨w.heap.size, 0, none⟩) qs.length qs.length) ∧ RowsAt w' w.heap.size 0 qs ∧ (∀ q ∈ qs, q.blk w.heap.size w') ∧ w.heap.size < w'.heap.size) ∧ Below w.heap.size w w' := by
  obtain ⟨C, hC, hmk⟩ := make_places rs.length hl
  have hinfo : (Try.prog.info? 176).map (·.size) = some 3 := by kernel_rfl
  have HF : Hid _ := hf
  have HL : Hid _ := hL
  clear hf hL
  go_enter Try.func113, Try.ntmps113
  go_wp2
  go_loopw [4] (fun i wx => ∃ (k : Nat), k ≤ rs.length ∧ i = .int .i64 k ∧ Hid (∃ qs : List PlaceD, Like qs (rs.take k) ∧ RowsAt wx w.heap.size 0 qs ∧ ∀ q ∈ qs, q.blk w.heap.size wx) ∧ wx.there w.heap.size 0 (rs.length * 3) ∧ w.heap.size < wx.heap.size ∧ Below w.heap.size w wx) (fun i _ => rs.length - (intOf i).toNat)
  case atStart => exact ⟨0, Nat.zero_le _, rfl, ⟨[], rfl, (fun k r h => by simp at h), fun q hq => by cases hq⟩, there_new hC, by simp, bl_alloc (Below.refl _ _) _⟩
  case round =>
    obtain ⟨k, hk, rfl, Hq, hth, hgz, hB⟩ := hrel
    clear hmk
    by_cases hlt : k < rs.length
    · obtain ⟨r, hr⟩ : ∃ r, rs[k]? = some r := ⟨rs[k], List.getElem?_eq_getElem hlt⟩
      obtain ⟨c0, c1, c2⟩ := (hR.keep hb hB).at hr
      have Hr : Hid _ := hr
      clear hr
      go_wp2_with fail
      refine (toPlace r _ ((HF.out r (List.mem_of_getElem? Hr.out)).keep hB) (HL.out r (List.mem_of_getElem? Hr.out))).mono ?_
      rintro e w1 ⟨⟨g, rfl, g0, g1, hrw⟩, hb1⟩
      clear c0 c1 c2
      have hth1 : w1.there w.heap.size 0 (rs.length * 3) := fun j hj => ⟨by rw [hb1.cell (p := ⟨w.heap.size, 0 + j, none⟩) hgz]; exact (hth j hj).1, by rw [hb1.frozen (p := ⟨w.heap.size, 0 + j, none⟩) hgz]; exact (hth j hj).2⟩
      have hB1 := bl_trans hB hb1
      have hgz1 : w.heap.size < w1.heap.size := Nat.lt_of_lt_of_le hgz hb1.size
      have Hrw : Hid (w.heap.size < g ∧ g < w1.heap.size ∧ W.RowsAt w1 g 0 r.ws) := ⟨Nat.lt_of_lt_of_le hgz g0, g1, hrw⟩
      have Hq1 : Hid (∃ qs : List PlaceD, Like qs (rs.take k) ∧ RowsAt w1 w.heap.size 0 qs ∧ ∀ q ∈ qs, q.blk w.heap.size w1) := by
        obtain ⟨qs, q1, q2, q3⟩ := Hq.out
        exact ⟨qs, q1, q2.keep hgz hb1, fun q hq => (q3 q hq).keep hb1⟩
      clear hth hB hb1 hrw g0 g1 Hq
      go_wp2_with (refine wpList_store_mid (by rfl) 176 _ _ (by rfl) w.heap.size (k * 3) #[.string r.b, .int .i64 r.s, .slice (some ⟨g, 0, none⟩) r.ws.length r.ws.length] (by rfl) (by rfl) (by exact there_part hth1 hlt) hinfo (by simp [Value.oneCell']) ?_)
      have hex : Ex w.heap.size w1 (w1.setCells w.heap.size (k * 3) [.string r.b, .int .i64 r.s, .slice (some ⟨g, 0, none⟩) r.ws.length r.ws.length]) := (Ex.refl _ _).cells _ _
      refine ⟨⟨k + 1, by omega, by go_num, ?_, World.there_setCells hth1 _ _ _, Nat.lt_of_lt_of_le hgz1 hex.size, Ex.mono hB1 hex (Nat.le_refl _)⟩, by simp [intOf]; omega⟩
      obtain ⟨qs, q1, q2, q3⟩ := Hq1.out
      have hz : qs.length = k := by have := q1.len; rw [List.length_take] at this; omega
      refine ⟨qs ++ [⟨r.b, r.s, some ⟨g, 0, none⟩, r.ws.length, r.ws⟩], ?_, ?_, ?_⟩
      · have hr := Hr.out
        have he : rs[k] = r := by rw [List.getElem?_eq_getElem hlt] at hr; exact Option.some.inj hr
        unfold Like at q1 ⊢
        rw [List.take_succ_eq_append_getElem hlt, List.map_append, List.map_append, q1, he]
        rfl
      · have := rows_snoc (q := ⟨r.b, r.s, some ⟨g, 0, none⟩, r.ws.length, r.ws⟩) q2 (by rw [hz]; exact there_part hth1 hlt)
        rw [hz] at this
        exact this
      · intro q hq
        rcases List.mem_append.1 hq with h | h
        · exact (q3 q h).ex hex (Nat.le_refl _)
        · obtain rfl := List.mem_singleton.1 h
          exact PlaceD.blk.ex ⟨g, rfl, rfl, Hrw.out.1, Hrw.out.2.1, Hrw.out.2.2⟩ hex (Nat.le_refl _)
    · go_wp2
      go_ret
      have e : rs.take k = rs := List.take_of_length_le (by omega)
      obtain ⟨qs, q1, q2, q3⟩ := Hq.out
      rw [e] at q1
      exact ⟨⟨qs, q1, by rw [q1.len]; rfl, q2, q3, hgz⟩, hB⟩
theorem to_nil (a : Option Addr) (cap : Nat) (w : World) :
    Calls Try.prog 113 #[.slice a 0 cap] w fun e w' => e = .returned (.slice (some ⟨w.heap.size, 0, none⟩) 0 0) ∧ w.heap.size < w'.heap.size ∧ Below w.heap.size w w' := by
  obtain ⟨C, hC, hmk0⟩ := make_places 0 (by omega)
  have hmk : ∀ w : World, Sem.run Try.prog (Instr.makeSlice 83 (.int .i64 0) (.int .i64 0)) w = .ok (.slice (some ⟨w.heap.size, 0, none⟩) 0 0) (w.alloc (.cells C 176)) := fun w => hmk0 w
  clear hmk0 hC
  go_enter Try.func113, Try.ntmps113
  go_wp2
  refine wp_loop_rounds 1 ?_
  rw [rounds_succ]
  go_wp2
  go_ret
  exact ⟨rfl, by simp, bl_alloc (Below.refl _ _) _⟩
theorem to_in {w : World} {v : Value} {l : List PlaceD} (h : In w v l) (hl : l.length ≤ 1048576) (hL : Lns l) :
    Calls Try.prog 113 #[v] w fun e w' => (∃ qs : List PlaceD, Like qs l ∧ e = .returned (.slice (some ⟨w.heap.size, 0, none⟩) qs.length qs.length) ∧ RowsAt w' w.heap.size 0 qs ∧ (∀ q ∈ qs, q.blk w.heap.size w') ∧ w.heap.size < w'.heap.size) ∧ Below w.heap.size w w' := by
  rcases h with ⟨rfl, a, cap, rfl⟩ | ⟨b, off, cap, rfl, k2, k3, k4, k5⟩
  · refine (to_nil a cap w).mono ?_
    rintro e w' ⟨rfl, h1, h2⟩
    exact ⟨⟨[], rfl, rfl, (fun k r h => by simp at h), (fun q hq => by cases hq), h1⟩, h2⟩
  · exact toPlaceS b off cap l w k4 k3 k5 hl hL
end Go.Proofs.Ytkebokkckmgloaa.P
/- Equal wants and runs are told to be equal. -/
namespace Go.Proofs.Ytkebokkckmgloaa
open Go.RowKit

theorem eqWant_same (c h : ByteArray) (v p s d g : Int) (w : World) :
    Calls Try.prog 91 #[.agg #[.string c, .int .i64 v, .string h, .int .i64 p, .int .i64 s, .int .i64 d, .int .i64 g], .agg #[.string c, .int .i64 v, .string h, .int .i64 p, .int .i64 s, .int .i64 d, .int .i64 g]] w fun e w' => e = .returned (.bool true) ∧
      w' = (w.alloc (.cells #[.string c, .int .i64 v, .string h, .int .i64 p, .int .i64 s, .int .i64 d, .int .i64 g] 36)).alloc (.cells #[.string c, .int .i64 v, .string h, .int .i64 p, .int .i64 s, .int .i64 d, .int .i64 g] 36) := by
  go_enter Try.func91, Try.ntmps91
  go_wp2
  go_ret
  exact ⟨rfl, rfl⟩

end Go.Proofs.Ytkebokkckmgloaa
/- Two lists of the same wants are told to be equal. -/
namespace Go.Proofs.Ytkebokkckmgloaa.W
open Go.RowKit
set_option linter.unusedVariables false

theorem eqWant_b (c h : ByteArray) (v p s d g : Int) (w : World) :
    Calls Try.prog 91 #[.agg #[.string c, .int .i64 v, .string h, .int .i64 p, .int .i64 s, .int .i64 d, .int .i64 g], .agg #[.string c, .int .i64 v, .string h, .int .i64 p, .int .i64 s, .int .i64 d, .int .i64 g]] w fun e w' => e = .returned (.bool true) ∧ Below w.heap.size w w' := by
  refine (eqWant_same c h v p s d g w).mono ?_
  rintro e w' ⟨rfl, rfl⟩
  exact ⟨rfl, bl_alloc (bl_alloc (Below.refl _ _) _) _⟩
theorem keepR {x w' : World} {b1 o1 b2 o2 k : Nat} {rs : List WantD} {r : WantD} (hk : rs[k]? = some r) (h1 : RowsAt x b1 o1 rs) (h2 : RowsAt x b2 o2 rs) (l1 : b1 < x.heap.size) (l2 : b2 < x.heap.size) (hb : Below x.heap.size x w') :
    Below x.heap.size x w' ∧ (w'.cell? ⟨b1, o1 + k * 7, none⟩ = some (.string r.c) ∧ w'.cell? ⟨b1, o1 + k * 7 + 1, none⟩ = some (.int .i64 r.v) ∧ w'.cell? ⟨b1, o1 + k * 7 + 2, none⟩ = some (.string r.h) ∧ w'.cell? ⟨b1, o1 + k * 7 + 3, none⟩ = some (.int .i64 r.p) ∧ w'.cell? ⟨b1, o1 + k * 7 + 4, none⟩ = some (.int .i64 r.s) ∧ w'.cell? ⟨b1, o1 + k * 7 + 5, none⟩ = some (.int .i64 r.d) ∧ w'.cell? ⟨b1, o1 + k * 7 + 6, none⟩ = some (.int .i64 r.g)) ∧ (w'.cell? ⟨b2, o2 + k * 7, none⟩ = some (.string r.c) ∧ w'.cell? ⟨b2, o2 + k * 7 + 1, none⟩ = some (.int .i64 r.v) ∧ w'.cell? ⟨b2, o2 + k * 7 + 2, none⟩ = some (.string r.h) ∧ w'.cell? ⟨b2, o2 + k * 7 + 3, none⟩ = some (.int .i64 r.p) ∧ w'.cell? ⟨b2, o2 + k * 7 + 4, none⟩ = some (.int .i64 r.s) ∧ w'.cell? ⟨b2, o2 + k * 7 + 5, none⟩ = some (.int .i64 r.d) ∧ w'.cell? ⟨b2, o2 + k * 7 + 6, none⟩ = some (.int .i64 r.g)) :=
  ⟨hb, (h1.keep l1 hb).at hk, (h2.keep l2 hb).at hk⟩

set_option maxHeartbeats 1000000 in
theorem eqWantS (b1 o1 n1 b2 o2 n2 : Nat) (rs : List WantD) (w : World) (h1 : RowsAt w b1 o1 rs) (h2 : RowsAt w b2 o2 rs) (l1 : b1 < w.heap.size) (l2 : b2 < w.heap.size) (hl : rs.length ≤ 1048576) :
    Calls Try.prog 32 #[.slice (some ⟨b1, o1, none⟩) rs.length n1, .slice (some ⟨b2, o2, none⟩) rs.length n2] w fun e w' => e = .returned (.bool true) ∧ Below w.heap.size w w' := by
  go_enter Try.func32, Try.ntmps32
  go_wp2
  go_loopw [5] (fun i wx => ∃ (k : Nat), k ≤ rs.length ∧ i = .int .i64 k ∧ Below w.heap.size w wx) (fun i _ => rs.length - (intOf i).toNat)
  case atStart => exact ⟨0, Nat.zero_le _, rfl, Below.refl _ _⟩
  case round =>
    obtain ⟨k, hk, rfl, hB⟩ := hrel
    by_cases hlt : k < rs.length
    · obtain ⟨r, hr⟩ : ∃ r, rs[k]? = some r := ⟨rs[k], List.getElem?_eq_getElem hlt⟩
      have Hr : Hid _ := hr
      clear hr
      have g1 := h1.keep l1 hB
      have g2 := h2.keep l2 hB
      have z1 : b1 < wr.heap.size := Nat.lt_of_lt_of_le l1 hB.size
      have z2 : b2 < wr.heap.size := Nat.lt_of_lt_of_le l2 hB.size
      have i0 : (0 : Int) ≤ (k : Int) := by omega
      have i1 : (k : Int) < (rs.length : Int) := by omega
      go_wp2_with fail
      go_region_held3 (fun w' => Below wr.heap.size wr w' ∧ (w'.cell? ⟨b1, o1 + k * 7, none⟩ = some (.string r.c) ∧ w'.cell? ⟨b1, o1 + k * 7 + 1, none⟩ = some (.int .i64 r.v) ∧ w'.cell? ⟨b1, o1 + k * 7 + 2, none⟩ = some (.string r.h) ∧ w'.cell? ⟨b1, o1 + k * 7 + 3, none⟩ = some (.int .i64 r.p) ∧ w'.cell? ⟨b1, o1 + k * 7 + 4, none⟩ = some (.int .i64 r.s) ∧ w'.cell? ⟨b1, o1 + k * 7 + 5, none⟩ = some (.int .i64 r.d) ∧ w'.cell? ⟨b1, o1 + k * 7 + 6, none⟩ = some (.int .i64 r.g)) ∧ (w'.cell? ⟨b2, o2 + k * 7, none⟩ = some (.string r.c) ∧ w'.cell? ⟨b2, o2 + k * 7 + 1, none⟩ = some (.int .i64 r.v) ∧ w'.cell? ⟨b2, o2 + k * 7 + 2, none⟩ = some (.string r.h) ∧ w'.cell? ⟨b2, o2 + k * 7 + 3, none⟩ = some (.int .i64 r.p) ∧ w'.cell? ⟨b2, o2 + k * 7 + 4, none⟩ = some (.int .i64 r.s) ∧ w'.cell? ⟨b2, o2 + k * 7 + 5, none⟩ = some (.int .i64 r.d) ∧ w'.cell? ⟨b2, o2 + k * 7 + 6, none⟩ = some (.int .i64 r.g)))
        (first | exact keepR Hr.out g1 g2 z1 z2 (bl_drew (Below.refl _ _)) | exact keepR Hr.out g1 g2 z1 z2 (bl_trans (bl_drew (Below.refl _ _)) hb))
        (first | (go_at_call 91; refine (eqWant_b r.c r.h r.v r.p r.s r.d r.g _).mono ?_; rintro e w' ⟨rfl, hb⟩))
      go_wp2
      exact ⟨⟨k + 1, by omega, by go_num, bl_trans hB (bl_trans (bl_drew (Below.refl _ _)) hb)⟩, by simp [intOf]; omega⟩
    · go_wp2
      go_ret
      exact ⟨rfl, hB⟩
end Go.Proofs.Ytkebokkckmgloaa.W
/- Two lists of places that say the same are told to be equal. -/
namespace Go.Proofs.Ytkebokkckmgloaa.P
open Go.RowKit
set_option linter.unusedVariables false

set_option maxHeartbeats 1000000 in
theorem eqPlace (b : ByteArray) (s : Int) (ws : List W.WantD) (g1 c1 g2 c2 : Nat) (w : World) (h1 : W.RowsAt w g1 0 ws) (h2 : W.RowsAt w g2 0 ws) (l1 : g1 < w.heap.size) (l2 : g2 < w.heap.size) (hl : ws.length ≤ 1048576) :
    Calls Try.prog 167 #[.agg #[.string b, .int .i64 s, .slice (some ⟨g1, 0, none⟩) ws.length c1], .agg #[.string b, .int .i64 s, .slice (some ⟨g2, 0, none⟩) ws.length c2]] w fun e w' => e = .returned (.bool true) ∧ Below w.heap.size w w' := by
  go_enter Try.func167, Try.ntmps167
  go_wp2_with fail
  have hb : Below w.heap.size w ((w.alloc (.cells #[.string b, .int .i64 s, .slice (some ⟨g1, 0, none⟩) ws.length c1] 176)).alloc (.cells #[.string b, .int .i64 s, .slice (some ⟨g2, 0, none⟩) ws.length c2] 176)) := bl_alloc (bl_alloc (Below.refl _ _) _) _
  refine (W.eqWantS g1 0 c1 g2 0 c2 ws _ (h1.keep l1 hb) (h2.keep l2 hb) (Nat.lt_of_lt_of_le l1 hb.size) (Nat.lt_of_lt_of_le l2 hb.size) hl).mono ?_
  rintro e w1 ⟨rfl, c⟩
  have C : Hid (Below w.heap.size w w1) := bl_trans hb c
  clear hb c
  go_wp2
  go_ret
  exact ⟨rfl, C.out⟩
theorem keepP {x w' : World} {b1 o1 b2 o2 k : Nat} {ps qs : List PlaceD} {p q : PlaceD} (hp : ps[k]? = some p) (hq : qs[k]? = some q) (h1 : RowsAt x b1 o1 ps) (h2 : RowsAt x b2 o2 qs) (l1 : b1 < x.heap.size) (l2 : b2 < x.heap.size) (hb : Below x.heap.size x w') :
    Below x.heap.size x w' ∧ (w'.cell? ⟨b1, o1 + k * 3, none⟩ = some (.string p.b) ∧ w'.cell? ⟨b1, o1 + k * 3 + 1, none⟩ = some (.int .i64 p.s) ∧ w'.cell? ⟨b1, o1 + k * 3 + 2, none⟩ = some (.slice p.a p.ws.length p.c)) ∧ (w'.cell? ⟨b2, o2 + k * 3, none⟩ = some (.string q.b) ∧ w'.cell? ⟨b2, o2 + k * 3 + 1, none⟩ = some (.int .i64 q.s) ∧ w'.cell? ⟨b2, o2 + k * 3 + 2, none⟩ = some (.slice q.a q.ws.length q.c)) :=
  ⟨hb, (h1.keep l1 hb).at hp, (h2.keep l2 hb).at hq⟩

set_option maxRecDepth 4000 in
set_option maxHeartbeats 2000000 in
theorem eqPlaceS (b1 o1 n1 b2 o2 n2 B1 B2 : Nat) (ps qs : List PlaceD) (w : World) (h1 : RowsAt w b1 o1 ps) (h2 : RowsAt w b2 o2 qs) (l1 : b1 < w.heap.size) (l2 : b2 < w.heap.size) (k1 : ∀ p ∈ ps, p.blk B1 w) (k2 : ∀ q ∈ qs, q.blk B2 w) (hs : Like ps qs) (hl : ps.length ≤ 1048576) (hL : Lns ps) :
    Calls Try.prog 120 #[.slice (some ⟨b1, o1, none⟩) ps.length n1, .slice (some ⟨b2, o2, none⟩) qs.length n2] w fun e w' => e = .returned (.bool true) ∧ Below w.heap.size w w' := by
  have K1 : Hid _ := k1
  have K2 : Hid _ := k2
  have HS : Hid (Like ps qs) := hs
  have HL : Hid _ := hL
  rw [← Like.len hs]
  clear k1 k2 hs hL
  go_enter Try.func120, Try.ntmps120
  go_wp2
  go_loopw [5] (fun i wx => ∃ (k : Nat), k ≤ ps.length ∧ i = .int .i64 k ∧ Below w.heap.size w wx) (fun i _ => ps.length - (intOf i).toNat)
  case atStart => exact ⟨0, Nat.zero_le _, rfl, Below.refl _ _⟩
  case round =>
    obtain ⟨k, hk, rfl, hB⟩ := hrel
    by_cases hlt : k < ps.length
    · obtain ⟨p, hp⟩ : ∃ p, ps[k]? = some p := ⟨ps[k], List.getElem?_eq_getElem hlt⟩
      obtain ⟨q, hq, eb, es, ew⟩ := HS.out.get hp
      have Hp : Hid _ := hp
      have Hq : Hid _ := hq
      have g1 := h1.keep l1 hB
      have g2 := h2.keep l2 hB
      have z1 : b1 < wr.heap.size := Nat.lt_of_lt_of_le l1 hB.size
      have z2 : b2 < wr.heap.size := Nat.lt_of_lt_of_le l2 hB.size
      obtain ⟨f1, a1, -, -, y1, r1⟩ := (K1.out p (List.mem_of_getElem? hp)).keep hB
      obtain ⟨f2, a2, -, -, y2, r2⟩ := (K2.out q (List.mem_of_getElem? hq)).keep hB
      have R1 : Hid (W.RowsAt wr f1 0 p.ws) := r1
      have R2 : Hid (W.RowsAt wr f2 0 p.ws) := by rw [ew]; exact r2
      have hlp : p.ws.length ≤ 1048576 := HL.out p (List.mem_of_getElem? hp)
      clear hp hq r1 r2
      obtain ⟨pb, pn, pa, pc, pw⟩ := p
      obtain ⟨qb, qn, qa, qc, qw⟩ := q
      simp only at eb es ew a1 a2 hlp
      subst eb es ew a1 a2
      have i0 : (0 : Int) ≤ (k : Int) := by omega
      have i1 : (k : Int) < (ps.length : Int) := by omega
      go_wp2_with fail
      go_region_held3 (fun w' => Below wr.heap.size wr w' ∧ (w'.cell? ⟨b1, o1 + k * 3, none⟩ = some (.string pb) ∧ w'.cell? ⟨b1, o1 + k * 3 + 1, none⟩ = some (.int .i64 pn) ∧ w'.cell? ⟨b1, o1 + k * 3 + 2, none⟩ = some (.slice (some ⟨f1, 0, none⟩) pw.length pc)) ∧ (w'.cell? ⟨b2, o2 + k * 3, none⟩ = some (.string pb) ∧ w'.cell? ⟨b2, o2 + k * 3 + 1, none⟩ = some (.int .i64 pn) ∧ w'.cell? ⟨b2, o2 + k * 3 + 2, none⟩ = some (.slice (some ⟨f2, 0, none⟩) pw.length qc)))
        (first | exact keepP Hp.out Hq.out g1 g2 z1 z2 (bl_drew (Below.refl _ _)) | exact keepP Hp.out Hq.out g1 g2 z1 z2 (bl_trans (bl_drew (Below.refl _ _)) hb))
        (first | (go_at_call 167; refine (eqPlace pb pn pw f1 pc f2 qc _ (R1.out.keep y1 (bl_drew (Below.refl _ _))) (R2.out.keep y2 (bl_drew (Below.refl _ _))) y1 y2 hlp).mono ?_; rintro e w' ⟨rfl, hb⟩))
      go_wp2
      exact ⟨⟨k + 1, by omega, by go_num, bl_trans hB (bl_trans (bl_drew (Below.refl _ _)) hb)⟩, by simp [intOf]; omega⟩
    · go_wp2
      go_ret
      exact ⟨rfl, hB⟩
end Go.Proofs.Ytkebokkckmgloaa.P
/- A book is measured, copied and held against another. -/
namespace Go.Proofs.Ytkebokkckmgloaa.G
theorem RowsAt.exq {kr : Nat} {w w' : World} {b off : Nat} {rs : List GrantD} (h : RowsAt w b off rs) (hb : b < w.heap.size) (hE : Ex kr w w') (hne : b ≠ kr) : RowsAt w' b off rs :=
  fun k r hk j v hj => (hE.cell (p := ⟨b, off + k * 5 + j, none⟩) hb hne).trans (h k r hk j v hj)
end Go.Proofs.Ytkebokkckmgloaa.G
namespace Go.Proofs.Ytkebokkckmgloaa.P
theorem RowsAt.exq {kr : Nat} {w w' : World} {b off : Nat} {rs : List PlaceD} (h : RowsAt w b off rs) (hb : b < w.heap.size) (hE : Ex kr w w') (hne : b ≠ kr) : RowsAt w' b off rs :=
  fun k r hk j v hj => (hE.cell (p := ⟨b, off + k * 3 + j, none⟩) hb hne).trans (h k r hk j v hj)
end Go.Proofs.Ytkebokkckmgloaa.P
namespace Go.Proofs.Ytkebokkckmgloaa.P
open Go.RowKit
set_option linter.unusedVariables false

/-- The lists of a book lie in blocks. -/
structure LandAt (w : World) (gs : List G.GrantD) (ps : List PlaceD) (b1 b2 : Nat) : Prop where
  g : G.RowsAt w b1 0 gs
  g1 : b1 < w.heap.size
  p : RowsAt w b2 0 ps
  p1 : b2 < w.heap.size
  k : ∀ r ∈ ps, r.blk 0 w
theorem LandAt.keep {w w' : World} {gs : List G.GrantD} {ps : List PlaceD} {b1 b2 : Nat} (h : LandAt w gs ps b1 b2) (hb : Below w.heap.size w w') : LandAt w' gs ps b1 b2 :=
  ⟨h.g.keep h.g1 hb, Nat.lt_of_lt_of_le h.g1 hb.size, h.p.keep h.p1 hb, Nat.lt_of_lt_of_le h.p1 hb.size, fun r hr => (h.k r hr).keep hb⟩
theorem land_box {w w' : World} {t : Int} {v1 v2 : Value} (hb : Below (w.alloc (.cells #[.int .i64 t, v1, v2] 79)).heap.size (w.alloc (.cells #[.int .i64 t, v1, v2] 79)) w') : ∀ k, w'.cell? ⟨w.heap.size, k, none⟩ = (#[.int .i64 t, v1, v2] : Array Value)[k]? := by
  intro k
  rw [hb.cell (p := ⟨w.heap.size, k, none⟩) (by simp)]
  simp [go_sem]

set_option maxRecDepth 4000 in
set_option maxHeartbeats 2000000 in
theorem szLand_le (t : Int) (gs : List G.GrantD) (ps : List PlaceD) (v1 v2 : Value) (w : World) (i1 : G.In w v1 gs) (i2 : In w v2 ps) :
    Calls Try.prog 52 #[.agg #[.int .i64 t, v1, v2], .int .i64 1048576] w fun e w' => (e = .returned (.int .i64 (-1)) ∨ ∃ x : Int, e = .returned (.int .i64 x) ∧ 0 ≤ x ∧ x ≤ 1048576 ∧ gs.length ≤ 1048576 ∧ ps.length ≤ 1048576 ∧ Lns ps) ∧ Below w.heap.size w w' := by
  have Hb0 : Hid (Below w.heap.size w (w.alloc (.cells #[.int .i64 t, v1, v2] 79))) := bl_alloc (Below.refl _ _) _
  go_enter Try.func52, Try.ntmps52
  go_wp2_with fail
  refine (G.sz_in (i1.keep Hb0.out) 1048576 (by omega) (by omega)).mono ?_
  rintro e w1 ⟨hx1, c1⟩
  have C1 : Hid (Below w.heap.size w w1) := bl_trans Hb0.out c1
  have kb1 := land_box c1
  clear c1
  rcases hx1 with rfl | ⟨x1, rfl, p1, r1, l1⟩
  · go_wp2
    go_ret
    exact ⟨Or.inl rfl, C1.out⟩
  go_wp2_with fail
  refine (sz_in (i2.keep C1.out) x1 (by omega) (by omega)).mono ?_
  rintro e w2 ⟨hx2, c2⟩
  have C2 : Hid (Below w.heap.size w w2) := bl_trans C1.out c2
  clear c2 kb1
  rcases hx2 with rfl | ⟨x2, rfl, p2, r2, l2, hL⟩
  · go_wp2
    go_ret
    exact ⟨Or.inl rfl, C2.out⟩
  have HL : Hid _ := hL
  clear hL
  go_wp2
  go_ret
  exact ⟨Or.inr ⟨x2, rfl, p2, r2, l1, l2, HL.out⟩, C2.out⟩
theorem szLand (t : Int) (gs : List G.GrantD) (ps : List PlaceD) (v1 v2 : Value) (w : World) (i1 : G.In w v1 gs) (i2 : In w v2 ps) :
    Calls Try.prog 52 #[.agg #[.int .i64 t, v1, v2], .int .i64 1048576] w fun e w' => (e = .returned (.int .i64 (-1)) ∨ ∃ x : Int, e = .returned (.int .i64 x) ∧ 0 ≤ x ∧ gs.length ≤ 1048576 ∧ ps.length ≤ 1048576 ∧ Lns ps) ∧ Below w.heap.size w w' := (szLand_le t gs ps v1 v2 w i1 i2).mono (by rintro e w' ⟨h | ⟨x, h1, h2, -, h4⟩, hb⟩; exact ⟨Or.inl h, hb⟩; exact ⟨Or.inr ⟨x, h1, h2, h4⟩, hb⟩)
theorem st_land (t : Int) (v1 v2 : Value) (w : World) : St3 w #[.int .i64 t, v1, v2] #[.int .i64 t, .slice none 0 0, .slice none 0 0] (((w.alloc (.cells #[.int .i64 t, v1, v2] 79)).alloc (.cells #[.int .i64 0, .slice none 0 0, .slice none 0 0] 85)).alloc (.cells #[.int .i64 t, .slice none 0 0, .slice none 0 0] 85)) := by
  refine ⟨fun k => by simp [go_sem, World.cell?_alloc_past], fun k => by simp [go_sem], fun k => by simp [go_sem], fun j hj => ⟨by simp [go_sem, World.cell?_alloc_past] <;> omega, by simp [go_sem]⟩, bl_alloc (bl_alloc (bl_alloc (Below.refl _ _) _) _) _, by simp⟩

set_option maxRecDepth 4000 in
set_option maxHeartbeats 4000000 in
theorem toLand_own (t : Int) (gs : List G.GrantD) (ps : List PlaceD) (v1 v2 : Value) (w : World) (i1 : G.In w v1 gs) (i2 : In w v2 ps) (l1 : gs.length ≤ 1048576) (l2 : ps.length ≤ 1048576) (hL : Lns ps) :
    Calls Try.prog 54 #[.agg #[.int .i64 t, v1, v2]] w fun e w' => (∃ b1 b2 qs, e = .returned (.agg #[.int .i64 t, .slice (some ⟨b1, 0, none⟩) gs.length gs.length, .slice (some ⟨b2, 0, none⟩) qs.length qs.length]) ∧ Like qs ps ∧ LandAt w' gs qs b1 b2 ∧ w.heap.size ≤ b1 ∧ w.heap.size ≤ b2 ∧ ∀ q ∈ qs, q.blk w.heap.size w') ∧ Below w.heap.size w w' := by
  have S0 : Hid (St3 w #[.int .i64 t, v1, v2] #[.int .i64 t, .slice none 0 0, .slice none 0 0] (((w.alloc (.cells #[.int .i64 t, v1, v2] 79)).alloc (.cells #[.int .i64 0, .slice none 0 0, .slice none 0 0] 85)).alloc (.cells #[.int .i64 t, .slice none 0 0, .slice none 0 0] 85))) := st_land t v1 v2 w
  have HL : Hid _ := hL
  clear hL
  have hinfo : (Try.prog.info? 85).map (·.size) = some 3 := by kernel_rfl
  go_enter Try.func54, Try.ntmps54
  go_wp2_with fail
  have hto1 := G.to_in (i1.keep S0.out.e) l1
  refine hto1.mono ?_
  clear hto1
  rintro e w1 ⟨rfl, r1, z1, c1⟩
  have T1 : Hid (St3 w #[.int .i64 t, v1, v2] #[.int .i64 t, .slice none 0 0, .slice none 0 0] w1) := S0.out.below c1
  have ka1 := T1.out.a
  have ko1 := T1.out.b
  have kf1 := T1.out.c
  have kz1 := T1.out.f
  obtain ⟨B1, hB1⟩ : ∃ B, B = (((w.alloc (.cells #[.int .i64 t, v1, v2] 79)).alloc (.cells #[.int .i64 0, .slice none 0 0, .slice none 0 0] 85)).alloc (.cells #[.int .i64 t, .slice none 0 0, .slice none 0 0] 85)).heap.size := ⟨_, rfl⟩
  have HB1 : Hid (w.heap.size + 1 + 1 < B1) := by rw [hB1]; exact S0.out.f
  have Q1 : Hid (G.RowsAt w1 B1 0 gs) := by rw [hB1]; exact r1
  have LT1 : Hid (B1 < w1.heap.size) := by rw [hB1]; exact z1
  rw [← hB1]
  clear hB1 r1 z1 c1
  have S1 : Hid (St3 w #[.int .i64 t, v1, v2] #[.int .i64 t, (.slice (some ⟨B1, 0, none⟩) gs.length gs.length), .slice none 0 0] (w1.setCell ⟨w.heap.size + 1 + 1, 1, none⟩ (.slice (some ⟨B1, 0, none⟩) gs.length gs.length))) := T1.out.set 1 (by simp) _
  have X1 : Hid (Ex (w.heap.size + 1 + 1) w1 (w1.setCell ⟨w.heap.size + 1 + 1, 1, none⟩ (.slice (some ⟨B1, 0, none⟩) gs.length gs.length))) := Ex.set (Ex.refl _ _) 1 _
  have Q1' : Hid (G.RowsAt (w1.setCell ⟨w.heap.size + 1 + 1, 1, none⟩ (.slice (some ⟨B1, 0, none⟩) gs.length gs.length)) B1 0 gs) := Q1.out.exq LT1.out X1.out (by have := HB1.out; omega)
  have LT1' : Hid (B1 < (w1.setCell ⟨w.heap.size + 1 + 1, 1, none⟩ (.slice (some ⟨B1, 0, none⟩) gs.length gs.length)).heap.size) := Nat.lt_of_lt_of_le LT1.out X1.out.size
  clear X1 Q1 LT1
  go_wp2_with fail
  clear ka1 ko1 kf1 kz1
  have hto2 := to_in (i2.keep S1.out.e) l2 HL.out
  refine hto2.mono ?_
  clear hto2
  rintro e w2 ⟨⟨qs, hs, rfl, r2, k2, z2⟩, c2⟩
  have T2 : Hid (St3 w #[.int .i64 t, v1, v2] #[.int .i64 t, (.slice (some ⟨B1, 0, none⟩) gs.length gs.length), .slice none 0 0] w2) := S1.out.below c2
  have ka2 := T2.out.a
  have ko2 := T2.out.b
  have kf2 := T2.out.c
  have kz2 := T2.out.f
  obtain ⟨B2, hB2⟩ : ∃ B, B = (w1.setCell ⟨w.heap.size + 1 + 1, 1, none⟩ (.slice (some ⟨B1, 0, none⟩) gs.length gs.length)).heap.size := ⟨_, rfl⟩
  have HB2 : Hid (w.heap.size + 1 + 1 < B2) := by rw [hB2]; exact S1.out.f
  have Q2 : Hid (RowsAt w2 B2 0 qs) := by rw [hB2]; exact r2
  have K2 : Hid (∀ q ∈ qs, q.blk B2 w2) := by rw [hB2]; exact k2
  have LT2 : Hid (B2 < w2.heap.size) := by rw [hB2]; exact z2
  have HS : Hid (Like qs ps) := hs
  have Q12 : Hid (G.RowsAt w2 B1 0 gs) := Q1'.out.keep LT1'.out c2
  have LT12 : Hid (B1 < w2.heap.size) := Nat.lt_of_lt_of_le LT1'.out c2.size
  rw [← hB2]
  clear hB2 r2 z2 c2 k2 hs Q1' LT1'
  have S2 : Hid (St3 w #[.int .i64 t, v1, v2] #[.int .i64 t, (.slice (some ⟨B1, 0, none⟩) gs.length gs.length), (.slice (some ⟨B2, 0, none⟩) qs.length qs.length)] (w2.setCell ⟨w.heap.size + 1 + 1, 2, none⟩ (.slice (some ⟨B2, 0, none⟩) qs.length qs.length))) := T2.out.set 2 (by simp) _
  have X2 : Hid (Ex (w.heap.size + 1 + 1) w2 (w2.setCell ⟨w.heap.size + 1 + 1, 2, none⟩ (.slice (some ⟨B2, 0, none⟩) qs.length qs.length))) := Ex.set (Ex.refl _ _) 2 _
  have X3 : Hid (Ex (w.heap.size + 1) (w2.setCell ⟨w.heap.size + 1 + 1, 2, none⟩ (.slice (some ⟨B2, 0, none⟩) qs.length qs.length)) (World.setCells (w2.setCell ⟨w.heap.size + 1 + 1, 2, none⟩ (.slice (some ⟨B2, 0, none⟩) qs.length qs.length)) (w.heap.size + 1) 0 [.int .i64 t, (.slice (some ⟨B1, 0, none⟩) gs.length gs.length), (.slice (some ⟨B2, 0, none⟩) qs.length qs.length)])) := (Ex.refl _ _).cells _ _
  have LA2 : Hid (LandAt (World.setCells (w2.setCell ⟨w.heap.size + 1 + 1, 2, none⟩ (.slice (some ⟨B2, 0, none⟩) qs.length qs.length)) (w.heap.size + 1) 0 [.int .i64 t, (.slice (some ⟨B1, 0, none⟩) gs.length gs.length), (.slice (some ⟨B2, 0, none⟩) qs.length qs.length)]) gs qs B1 B2) := ⟨G.RowsAt.exq (G.RowsAt.exq Q12.out LT12.out X2.out (by have := HB1.out; omega)) (Nat.lt_of_lt_of_le LT12.out X2.out.size) X3.out (by have := HB1.out; omega), Nat.lt_of_lt_of_le (Nat.lt_of_lt_of_le LT12.out X2.out.size) X3.out.size,
    RowsAt.exq (RowsAt.exq Q2.out LT2.out X2.out (by have := HB2.out; omega)) (Nat.lt_of_lt_of_le LT2.out X2.out.size) X3.out (by have := HB2.out; omega), Nat.lt_of_lt_of_le (Nat.lt_of_lt_of_le LT2.out X2.out.size) X3.out.size,
    fun q hq => (((K2.out q hq).ex X2.out (by have := HB2.out; omega)).ex X3.out (by have := HB2.out; omega)).low (Nat.zero_le _)⟩
  have RG : Hid _ := World.rangeAt_setCells_same (w2.setCell ⟨w.heap.size + 1 + 1, 2, none⟩ (.slice (some ⟨B2, 0, none⟩) qs.length qs.length)) (w.heap.size + 1) 0 [.int .i64 t, (.slice (some ⟨B1, 0, none⟩) gs.length gs.length), (.slice (some ⟨B2, 0, none⟩) qs.length qs.length)] S2.out.d
  have BE : Hid (Below w.heap.size w (World.setCells (w2.setCell ⟨w.heap.size + 1 + 1, 2, none⟩ (.slice (some ⟨B2, 0, none⟩) qs.length qs.length)) (w.heap.size + 1) 0 [.int .i64 t, (.slice (some ⟨B1, 0, none⟩) gs.length gs.length), (.slice (some ⟨B2, 0, none⟩) qs.length qs.length)])) := Ex.mono S2.out.e X3.out (Nat.le_succ _)
  have KE : Hid ((w.heap.size ≤ B1 ∧ w.heap.size ≤ B2) ∧ ∀ q ∈ qs, q.blk w.heap.size (World.setCells (w2.setCell ⟨w.heap.size + 1 + 1, 2, none⟩ (.slice (some ⟨B2, 0, none⟩) qs.length qs.length)) (w.heap.size + 1) 0 [.int .i64 t, (.slice (some ⟨B1, 0, none⟩) gs.length gs.length), (.slice (some ⟨B2, 0, none⟩) qs.length qs.length)])) := ⟨⟨by have := HB1.out; omega, by have := HB2.out; omega⟩, fun q hq => (((K2.out q hq).ex X2.out (by have := HB2.out; omega)).ex X3.out (by have := HB2.out; omega)).low (by have := HB2.out; omega)⟩
  clear X2 X3 Q2 K2 Q12 LT12 LT2
  go_wp2_with (refine wpList_store_mid (by rfl) 85 _ _ (by rfl) (w.heap.size + 1) 0 #[.int .i64 t, (.slice (some ⟨B1, 0, none⟩) gs.length gs.length), (.slice (some ⟨B2, 0, none⟩) qs.length qs.length)] (by rfl) (by rfl) (by exact S2.out.d) hinfo (by simp [Value.oneCell']) ?_)
  have hrg := RG.out
  have d0 := hrg 0 _ rfl
  have d1 := hrg 1 _ rfl
  have d2 := hrg 2 _ rfl
  simp only [Nat.zero_add] at d0 d1 d2
  exact bodyPost_ret (v := .agg #[.int .i64 t, (.slice (some ⟨B1, 0, none⟩) gs.length gs.length), (.slice (some ⟨B2, 0, none⟩) qs.length qs.length)]) (by simp [results, Try.results54, go_sem, d0, d1, d2]) rfl ⟨⟨B1, B2, qs, rfl, HS.out, LA2.out, KE.out.1.1, KE.out.1.2, KE.out.2⟩, BE.out⟩
theorem toLand (t : Int) (gs : List G.GrantD) (ps : List PlaceD) (v1 v2 : Value) (w : World) (i1 : G.In w v1 gs) (i2 : In w v2 ps) (l1 : gs.length ≤ 1048576) (l2 : ps.length ≤ 1048576) (hL : Lns ps) :
    Calls Try.prog 54 #[.agg #[.int .i64 t, v1, v2]] w fun e w' => (∃ b1 b2 qs, e = .returned (.agg #[.int .i64 t, .slice (some ⟨b1, 0, none⟩) gs.length gs.length, .slice (some ⟨b2, 0, none⟩) qs.length qs.length]) ∧ Like qs ps ∧ LandAt w' gs qs b1 b2) ∧ Below w.heap.size w w' := (toLand_own t gs ps v1 v2 w i1 i2 l1 l2 hL).mono (by rintro e w' ⟨⟨b1, b2, qs, h1, h2, h3, -, -, -⟩, h4⟩; exact ⟨⟨b1, b2, qs, h1, h2, h3⟩, h4⟩)

theorem land_boxes {w w' : World} {t : Int} {gs : List G.GrantD} {ps qs : List PlaceD} {b1 b2 e1 e2 : Nat} (hb : Below ((w.alloc (.cells #[.int .i64 t, .slice (some ⟨b1, 0, none⟩) gs.length gs.length, .slice (some ⟨b2, 0, none⟩) ps.length ps.length] 85)).alloc (.cells #[.int .i64 t, .slice (some ⟨e1, 0, none⟩) gs.length gs.length, .slice (some ⟨e2, 0, none⟩) qs.length qs.length] 85)).heap.size ((w.alloc (.cells #[.int .i64 t, .slice (some ⟨b1, 0, none⟩) gs.length gs.length, .slice (some ⟨b2, 0, none⟩) ps.length ps.length] 85)).alloc (.cells #[.int .i64 t, .slice (some ⟨e1, 0, none⟩) gs.length gs.length, .slice (some ⟨e2, 0, none⟩) qs.length qs.length] 85)) w') :
    (∀ k, w'.cell? ⟨w.heap.size, k, none⟩ = (#[.int .i64 t, .slice (some ⟨b1, 0, none⟩) gs.length gs.length, .slice (some ⟨b2, 0, none⟩) ps.length ps.length] : Array Value)[k]?) ∧ (∀ k, w'.cell? ⟨w.heap.size + 1, k, none⟩ = (#[.int .i64 t, .slice (some ⟨e1, 0, none⟩) gs.length gs.length, .slice (some ⟨e2, 0, none⟩) qs.length qs.length] : Array Value)[k]?) := by
  constructor
  · intro k
    rw [hb.cell (p := ⟨w.heap.size, k, none⟩) (by simp; omega)]
    simp [go_sem]
  · intro k
    rw [hb.cell (p := ⟨w.heap.size + 1, k, none⟩) (by simp)]
    simp [go_sem]

set_option maxRecDepth 4000 in
set_option maxHeartbeats 2000000 in
theorem eqLand (t : Int) (gs : List G.GrantD) (ps qs : List PlaceD) (b1 b2 e1 e2 : Nat) (w : World) (h1 : LandAt w gs ps b1 b2) (h2 : LandAt w gs qs e1 e2) (hs : Like ps qs) (l1 : gs.length ≤ 1048576) (l2 : ps.length ≤ 1048576) (hL : Lns ps) :
    Calls Try.prog 56 #[.agg #[.int .i64 t, .slice (some ⟨b1, 0, none⟩) gs.length gs.length, .slice (some ⟨b2, 0, none⟩) ps.length ps.length], .agg #[.int .i64 t, .slice (some ⟨e1, 0, none⟩) gs.length gs.length, .slice (some ⟨e2, 0, none⟩) qs.length qs.length]] w fun e w' => e = .returned (.bool true) ∧ Below w.heap.size w w' := by
  have Hb0 : Hid (Below w.heap.size w ((w.alloc (.cells #[.int .i64 t, .slice (some ⟨b1, 0, none⟩) gs.length gs.length, .slice (some ⟨b2, 0, none⟩) ps.length ps.length] 85)).alloc (.cells #[.int .i64 t, .slice (some ⟨e1, 0, none⟩) gs.length gs.length, .slice (some ⟨e2, 0, none⟩) qs.length qs.length] 85))) := bl_alloc (bl_alloc (Below.refl _ _) _) _
  have P0 : Hid _ := h1.keep Hb0.out
  have Q0 : Hid _ := h2.keep Hb0.out
  have HS : Hid (Like ps qs) := hs
  have HL : Hid _ := hL
  clear h1 h2 hs hL
  go_enter Try.func56, Try.ntmps56
  go_wp2_with fail
  refine (G.eqGrantS b1 0 _ e1 0 _ gs _ P0.out.g Q0.out.g P0.out.g1 Q0.out.g1 l1).mono ?_
  rintro e w1 ⟨rfl, c1⟩
  have D1 : Hid (Below ((w.alloc (.cells #[.int .i64 t, .slice (some ⟨b1, 0, none⟩) gs.length gs.length, .slice (some ⟨b2, 0, none⟩) ps.length ps.length] 85)).alloc (.cells #[.int .i64 t, .slice (some ⟨e1, 0, none⟩) gs.length gs.length, .slice (some ⟨e2, 0, none⟩) qs.length qs.length] 85)).heap.size ((w.alloc (.cells #[.int .i64 t, .slice (some ⟨b1, 0, none⟩) gs.length gs.length, .slice (some ⟨b2, 0, none⟩) ps.length ps.length] 85)).alloc (.cells #[.int .i64 t, .slice (some ⟨e1, 0, none⟩) gs.length gs.length, .slice (some ⟨e2, 0, none⟩) qs.length qs.length] 85)) w1) := c1
  clear c1
  obtain ⟨ka1, kb1⟩ := land_boxes D1.out
  go_wp2_with fail
  have P1 := P0.out.keep D1.out
  have Q1 := Q0.out.keep D1.out
  refine (eqPlaceS b2 0 _ e2 0 _ 0 0 ps qs _ P1.p Q1.p P1.p1 Q1.p1 P1.k Q1.k HS.out l2 HL.out).mono ?_
  rintro e w2 ⟨rfl, c2⟩
  have D2 : Hid (Below w.heap.size w w2) := bl_trans Hb0.out (bl_trans D1.out c2)
  clear c2 P1 Q1 ka1 kb1
  go_wp2
  go_ret
  exact ⟨rfl, D2.out⟩
end Go.Proofs.Ytkebokkckmgloaa.P
/- all and ascends, at grants. -/
namespace Go.Proofs.Ytkebokkckmgloaa.G
open Go.RowKit
set_option linter.unusedVariables false

set_option maxRecDepth 4000 in
set_option maxHeartbeats 1000000 in
theorem allOk (bk : Nat) (P : GrantD → Bool) (b off cap : Nat) (rs : List GrantD) (w : World) (hR : RowsAt w b off rs) (l1 : b < w.heap.size) (hl : rs.length ≤ 1048576)
    (hF : ∀ r ∈ rs, ∀ x, Below w.heap.size w x → Calls Try.prog 160 #[.agg #[.string r.h, .string r.b, .string r.c, .int .i64 r.t, .int .i64 r.u], .pointer (some ⟨bk, 0, none⟩)] x fun e x' => e = .returned (.bool (P r)) ∧ Below x.heap.size x x') :
    Calls Try.prog 159 #[.slice (some ⟨b, off, none⟩) rs.length cap, .func (.func 160) #[] #[.pointer (some ⟨bk, 0, none⟩)]] w fun e w' => (∃ q : Bool, e = .returned (.bool q) ∧ (q = true ↔ ∀ r ∈ rs, P r = true)) ∧ Below w.heap.size w w' := by
  have HF : Hid _ := hF
  clear hF
  go_enter Try.func159, Try.ntmps159
  go_wp2
  go_loopw [9] (fun i wx => ∃ (k : Nat), k ≤ rs.length ∧ i = .int .i64 k ∧ Hid (∀ j r, j < k → rs[j]? = some r → P r = true) ∧ Below w.heap.size w wx) (fun i _ => rs.length - (intOf i).toNat)
  case atStart => exact ⟨0, Nat.zero_le _, rfl, fun j r h => by omega, Below.refl _ _⟩
  case round =>
    obtain ⟨k, hk, rfl, Ha, hB⟩ := hrel
    by_cases hlt : k < rs.length
    · obtain ⟨r, hr⟩ : ∃ r, rs[k]? = some r := ⟨rs[k], List.getElem?_eq_getElem hlt⟩
      have Hr : Hid _ := hr
      clear hr
      obtain ⟨c0, c1, c2, c3, c4⟩ := (hR.keep l1 hB).at Hr.out
      go_wp2_with fail
      refine (HF.out r (List.mem_of_getElem? Hr.out) _ (bl_alloc hB _)).mono ?_
      rintro e w1 ⟨rfl, hb⟩
      have hB1 := bl_trans (bl_alloc hB _) hb
      have Hb1 : Hid _ := hB1
      clear hB hb hB1
      cases hP : P r
      · go_wp2
        go_ret
        exact ⟨⟨false, rfl, ⟨fun h => (by cases h), fun h => by have := h r (List.mem_of_getElem? Hr.out); rw [hP] at this; cases this⟩⟩, Hb1.out⟩
      · go_wp2
        exact ⟨⟨k + 1, by omega, by go_num, (fun j q hj hq => by
          by_cases e : j = k
          · subst e; have hh := Hr.out; rw [hh] at hq; cases hq; exact hP
          · exact Ha.out j q (by omega) hq), Hb1.out⟩, by simp [intOf]; omega⟩
    · go_wp2
      go_ret
      exact ⟨⟨true, rfl, ⟨fun _ r hr => by
        obtain ⟨j, hj⟩ := List.getElem?_of_mem hr
        have hjl : j < rs.length := (List.getElem?_eq_some_iff.1 hj).1
        exact Ha.out j r (by omega) hj, fun _ => rfl⟩⟩, hB⟩

theorem name_any (r : GrantD) (w : World) :
    Calls Try.prog 158 #[.agg #[.string r.h, .string r.b, .string r.c, .int .i64 r.t, .int .i64 r.u]] w fun e w' => e = .returned (.string r.h) ∧ Below w.heap.size w w' := by
  go_enter Try.func158, Try.ntmps158
  go_wp2
  go_ret
  exact ⟨rfl, by repeat (first | exact Below.refl _ _ | refine bl_alloc ?_ _)⟩
/-- Ascending by their names, the first n. -/
def AscN (rs : List GrantD) (n : Nat) : Prop := ∀ j q r, j + 1 < n → rs[j]? = some q → rs[j + 1]? = some r → Op.bytesLess q.h.toList r.h.toList = true
theorem AscN.step {rs : List GrantD} {k : Nat} {q r : GrantD} (h : AscN rs (k + 1)) (hq : rs[k]? = some q) (hr : rs[k + 1]? = some r) (hs : Op.bytesLess q.h.toList r.h.toList = true) : AscN rs (k + 1 + 1) := by
  intro j q' r' hj hq' hr'
  by_cases e : j = k
  · subst e; rw [hq] at hq'; rw [hr] at hr'; cases hq'; cases hr'; exact hs
  · exact h j q' r' (by omega) hq' hr'
theorem keepAsc {x w' : World} {b off m : Nat} {rs : List GrantD} {r q : GrantD} (hk : rs[m + 1]? = some r) (hq : rs[m]? = some q) (h1 : RowsAt x b off rs) (l1 : b < x.heap.size) (hb : Below x.heap.size x w') :
    Below x.heap.size x w' ∧ (w'.cell? ⟨b, off + (m + 1) * 5, none⟩ = some (.string r.h) ∧ w'.cell? ⟨b, off + (m + 1) * 5 + 1, none⟩ = some (.string r.b) ∧ w'.cell? ⟨b, off + (m + 1) * 5 + 2, none⟩ = some (.string r.c) ∧ w'.cell? ⟨b, off + (m + 1) * 5 + 3, none⟩ = some (.int .i64 r.t) ∧ w'.cell? ⟨b, off + (m + 1) * 5 + 4, none⟩ = some (.int .i64 r.u)) ∧ (w'.cell? ⟨b, off + m * 5, none⟩ = some (.string q.h) ∧ w'.cell? ⟨b, off + m * 5 + 1, none⟩ = some (.string q.b) ∧ w'.cell? ⟨b, off + m * 5 + 2, none⟩ = some (.string q.c) ∧ w'.cell? ⟨b, off + m * 5 + 3, none⟩ = some (.int .i64 q.t) ∧ w'.cell? ⟨b, off + m * 5 + 4, none⟩ = some (.int .i64 q.u)) := ⟨hb, (h1.keep l1 hb).at hk, (h1.keep l1 hb).at hq⟩

set_option maxRecDepth 4000 in
set_option maxHeartbeats 2000000 in
theorem ascends (b off cap : Nat) (rs : List GrantD) (w : World) (hR : RowsAt w b off rs) (l1 : b < w.heap.size) (hl : rs.length ≤ 1048576) :
    Calls Try.prog 157 #[.slice (some ⟨b, off, none⟩) rs.length cap, .func (.func 158) #[] #[]] w fun e w' => (∃ q : Bool, e = .returned (.bool q) ∧ (q = true ↔ AscN rs rs.length)) ∧ Below w.heap.size w w' := by
  go_enter Try.func157, Try.ntmps157
  go_wp2
  go_loopw [5] (fun i wx => ∃ (m : Nat), m ≤ rs.length ∧ i = .int .i64 ((m : Int) + 1) ∧ Hid (AscN rs (m + 1)) ∧ Below w.heap.size w wx) (fun i _ => rs.length + 1 - (intOf i).toNat)
  case atStart => exact ⟨0, Nat.zero_le _, rfl, (fun j q r hj _ _ => by omega), Below.refl _ _⟩
  case round =>
    obtain ⟨m, hk, rfl, Ha, hB⟩ := hrel
    by_cases hlt : m + 1 < rs.length
    · obtain ⟨r, hr⟩ : ∃ r, rs[m + 1]? = some r := ⟨rs[m + 1], List.getElem?_eq_getElem hlt⟩
      obtain ⟨q, hq⟩ : ∃ q, rs[m]? = some q := ⟨rs[m], List.getElem?_eq_getElem (by omega)⟩
      have Hr : Hid _ := hr
      have Hq : Hid _ := hq
      clear hr hq
      have g1 := hR.keep l1 hB
      have z1 : b < wr.heap.size := Nat.lt_of_lt_of_le l1 hB.size
      have i0 : (0 : Int) ≤ (m : Int) := by omega
      have i1 : (m : Int) + 1 < (rs.length : Int) := by omega
      have i2 : (m : Int) < (rs.length : Int) := by omega
      have i3 : (0 : Int) ≤ (m : Int) + 1 := by omega
      have iw : IntKind.i64.wrap (m : Int) = (m : Int) := by rw [IntKind.wrap_i64]; omega
      cases hasc : Op.bytesLess q.h.toList r.h.toList
      · go_wp2_with fail
        go_region_held3 (fun w' => Below wr.heap.size wr w' ∧ (w'.cell? ⟨b, off + (m + 1) * 5, none⟩ = some (.string r.h) ∧ w'.cell? ⟨b, off + (m + 1) * 5 + 1, none⟩ = some (.string r.b) ∧ w'.cell? ⟨b, off + (m + 1) * 5 + 2, none⟩ = some (.string r.c) ∧ w'.cell? ⟨b, off + (m + 1) * 5 + 3, none⟩ = some (.int .i64 r.t) ∧ w'.cell? ⟨b, off + (m + 1) * 5 + 4, none⟩ = some (.int .i64 r.u)) ∧ (w'.cell? ⟨b, off + m * 5, none⟩ = some (.string q.h) ∧ w'.cell? ⟨b, off + m * 5 + 1, none⟩ = some (.string q.b) ∧ w'.cell? ⟨b, off + m * 5 + 2, none⟩ = some (.string q.c) ∧ w'.cell? ⟨b, off + m * 5 + 3, none⟩ = some (.int .i64 q.t) ∧ w'.cell? ⟨b, off + m * 5 + 4, none⟩ = some (.int .i64 q.u)))
          (first | exact keepAsc Hr.out Hq.out g1 z1 (bl_drew (Below.refl _ _)) | exact keepAsc Hr.out Hq.out g1 z1 (bl_trans (bl_drew (Below.refl _ _)) hx) | exact keepAsc Hr.out Hq.out g1 z1 (bl_trans (bl_trans (bl_drew (Below.refl _ _)) hx) hy))
          (first | (go_at_call 158; refine (name_any q _).mono ?_; rintro e w' ⟨rfl, hx⟩) | (go_at_call 158; refine (name_any r _).mono ?_; rintro e w'' ⟨rfl, hy⟩))
        have y1 := bl_trans (bl_trans (bl_drew (Below.refl _ wr)) hx) hy
        have Hb1 : Hid _ := bl_trans hB y1
        clear hx hy y1 hB g1
        go_wp2
        go_ret
        exact ⟨⟨false, rfl, ⟨fun h => (by cases h), fun h => by have := h m q r (by omega) Hq.out Hr.out; rw [hasc] at this; cases this⟩⟩, Hb1.out⟩
      · go_wp2_with fail
        go_region_held3 (fun w' => Below wr.heap.size wr w' ∧ (w'.cell? ⟨b, off + (m + 1) * 5, none⟩ = some (.string r.h) ∧ w'.cell? ⟨b, off + (m + 1) * 5 + 1, none⟩ = some (.string r.b) ∧ w'.cell? ⟨b, off + (m + 1) * 5 + 2, none⟩ = some (.string r.c) ∧ w'.cell? ⟨b, off + (m + 1) * 5 + 3, none⟩ = some (.int .i64 r.t) ∧ w'.cell? ⟨b, off + (m + 1) * 5 + 4, none⟩ = some (.int .i64 r.u)) ∧ (w'.cell? ⟨b, off + m * 5, none⟩ = some (.string q.h) ∧ w'.cell? ⟨b, off + m * 5 + 1, none⟩ = some (.string q.b) ∧ w'.cell? ⟨b, off + m * 5 + 2, none⟩ = some (.string q.c) ∧ w'.cell? ⟨b, off + m * 5 + 3, none⟩ = some (.int .i64 q.t) ∧ w'.cell? ⟨b, off + m * 5 + 4, none⟩ = some (.int .i64 q.u)))
          (first | exact keepAsc Hr.out Hq.out g1 z1 (bl_drew (Below.refl _ _)) | exact keepAsc Hr.out Hq.out g1 z1 (bl_trans (bl_drew (Below.refl _ _)) hx) | exact keepAsc Hr.out Hq.out g1 z1 (bl_trans (bl_trans (bl_drew (Below.refl _ _)) hx) hy))
          (first | (go_at_call 158; refine (name_any q _).mono ?_; rintro e w' ⟨rfl, hx⟩) | (go_at_call 158; refine (name_any r _).mono ?_; rintro e w'' ⟨rfl, hy⟩))
        have y1 := bl_trans (bl_trans (bl_drew (Below.refl _ wr)) hx) hy
        have Hb1 : Hid _ := bl_trans hB y1
        clear hx hy y1 hB g1
        go_wp2
        exact ⟨⟨m + 1, by omega, by go_num, Ha.out.step Hq.out Hr.out hasc, Hb1.out⟩, by simp [intOf]; omega⟩
    · go_wp2
      go_ret
      exact ⟨⟨true, rfl, ⟨fun _ j q r hj hq hr => Ha.out j q r (by omega) hq hr, fun _ => rfl⟩⟩, hB⟩
end Go.Proofs.Ytkebokkckmgloaa.G
