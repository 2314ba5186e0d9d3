import Derived.Test.YtdkjhonaafadjaaGreatJ20
import Derived.Test.YtdkjhonaafadjaaGreatJ23
import Derived.Test.YtdkjhonaafadjaaGreatJ22
import Derived.Deep.RegionHeld3
import Derived.Laws.Pointers
import Derived.StillTactics
import Derived.Test.YtdkjhonaafadjaaGreatJ21
import Derived.Test.YtdkjhonaafadjaaGreatJ11
/- MateNewWorld: the specification's side. -/
namespace Go.Proofs.YtdkjhonaafadjaaGreat
open Go.RowKit
set_option linter.unusedVariables false

theorem if_wanted {c : Bool} {p q : Prop} (h : c = true) (hp : p) : if c = true then p else q := by rw [if_pos h]; exact hp

set_option maxRecDepth 4000 in
set_option maxHeartbeats 4000000 in
theorem specNewWorld (b off cap : Nat) (xs : List ByteArray) (w : World) (hR : Tx.RowsAt w b off xs) (hb : b < w.heap.size) (hf : ∀ x ∈ xs, x.size ≤ maxLen) (hl : xs.length ≤ 1048576) :
    Calls Tryz.prog 8 #[.slice (some ⟨b, off, none⟩) xs.length cap] w fun e w' => ∃ ys a c, e = .returned (.agg #[.int .i64 0, .slice none 0 0, .slice none 0 0, .slice a ys.length c, .slice none 0 0]) ∧ ((NewOk xs ∧ ys = xs) ∨ (¬ NewOk xs ∧ ys = [])) ∧ SlN w' (.slice a ys.length c) ys w.heap.size ∧ Below w.heap.size w w' := by
  obtain ⟨im, him, hz0, hz1, hz2⟩ := info_parts infoM
  have hinfo : (Tryz.prog.info? 30).map (·.size) = some 5 := by kernel_rfl
  have HR : Hid (Tx.RowsAt w b off xs) := hR
  have HF : Hid (∀ x ∈ xs, x.size ≤ maxLen) := hf
  clear hR hf
  go_enter Tryz.func8, Tryz.ntmps8
  go_wp2_with fail
  go_loopw [4] (fun i wx => ∃ (k : Nat), k ≤ xs.length ∧ i = .int .i64 k ∧ ∃ a c, Nb w (.slice a k c) wx ∧ wx.ownsRow (w.heap.size + 2) 52 9 (.slice a k c) k (flatN (xs.take k))) (fun i _ => xs.length - (intOf i).toNat)
  case atStart => exact ⟨0, Nat.zero_le _, rfl, none, 0, nb_new w, World.ownsRow_nil _ _ _ _⟩
  case round =>
    obtain ⟨k, hk, rfl, a, c, hN, hown⟩ := hrel
    have HN : Hid (Nb w (.slice a k c) wr) := hN
    have HO : Hid (wr.ownsRow (w.heap.size + 2) 52 9 (.slice a k c) k (flatN (xs.take k))) := hown
    have kb := hN.b
    have kf := hN.c
    have kz := hN.f
    clear hN hown
    by_cases hlt : k < xs.length
    · obtain ⟨x, hx⟩ : ∃ x, xs[k]? = some x := ⟨xs[k], List.getElem?_eq_getElem hlt⟩
      have c0 := (HR.out.keep hb HN.out.e) k x hx
      have Hx : Hid (xs[k]? = some x) := hx
      obtain ⟨zs, hzs⟩ : ∃ zs, zs = flatN (xs.take k) := ⟨_, rfl⟩
      have HO1 : Hid (wr.ownsRow (w.heap.size + 2) 52 9 (.slice a k c) k zs) := by rw [hzs]; exact HO.out
      have Hzs : Hid (zs = flatN (xs.take k)) := hzs
      clear hx hzs HO
      have HC : Hid (∀ y, Below wr.heap.size wr y → y.cell? ⟨b, off + k, none⟩ = some (.string x)) := fun y hy => (hy.cell (p := ⟨b, off + k, none⟩) (Nat.lt_of_lt_of_le hb HN.out.e.size)).trans c0
      have i0 : (0 : Int) ≤ (k : Int) := by omega
      have i1 : (k : Int) < (xs.length : Int) := by omega
      clear c0
      go_wp2_with fail
      refine wp_region_noPanic ?_
      refine wp_region_held_drew (S := (fun y => y.cell? ⟨b, off + k, none⟩ = some (.string x))) (by kernel_rfl) (HC.out _ (bl_drew (Below.refl _ _))) (fun hHeld => ?_)
      refine wpAnyH_take (i := 0) (v := ?vx145) rfl (by kernel_rfl) (by kernel_rfl) (by kernel_rfl) (fun _ _ _ h => h) (Or.inl ⟨by rfl, ?hx145⟩) (by assumption) ?rx145
      case hx145 => (intro w hSw; (try dsimp only at hSw); go_simp; try (with_reducible rfl))
      try simp only [Act.put, List.setIfInBounds_toArray, List.set_cons_zero, List.set_cons_succ, List.getElem_toArray, List.getElem_cons_zero]
      refine wpAnyH_take (i := 2) (v := ?vx146) rfl (by kernel_rfl) (by kernel_rfl) (by kernel_rfl) (fun _ _ _ h => h) (Or.inl ⟨by rfl, ?hx146⟩) (by assumption) ?rx146
      case hx146 => (intro w hSw; (try dsimp only at hSw); go_simp; try (with_reducible rfl))
      try simp only [Act.put, List.setIfInBounds_toArray, List.set_cons_zero, List.set_cons_succ, List.getElem_toArray, List.getElem_cons_zero, List.getElem_cons_succ]
      refine wpAnyH_take (i := 3) (v := ?vx147) rfl (by kernel_rfl) (by kernel_rfl) (by kernel_rfl) (fun _ _ _ h => h) (Or.inl ⟨by rfl, ?hx147⟩) (by assumption) ?rx147
      case hx147 => (intro w hSw; (try dsimp only at hSw); go_simp; try (with_reducible rfl))
      try simp only [Act.put, List.setIfInBounds_toArray, List.set_cons_zero, List.set_cons_succ, List.getElem_toArray, List.getElem_cons_zero, List.getElem_cons_succ]
      refine wpAnyH_take (i := 4) (v := ?vx148) rfl (by kernel_rfl) (by kernel_rfl) (by kernel_rfl) (fun _ _ _ h => h) (Or.inl ⟨by rfl, ?hx148⟩) (by assumption) ?rx148
      case hx148 => (intro w hSw; (try dsimp only at hSw); go_simp; try (with_reducible rfl))
      try simp only [Act.put, List.setIfInBounds_toArray, List.set_cons_zero, List.set_cons_succ, List.getElem_toArray, List.getElem_cons_zero, List.getElem_cons_succ]
      refine wpAnyH_take (i := 5) (v := ?vx149) rfl (by kernel_rfl) (by kernel_rfl) (by kernel_rfl) (fun _ _ _ h => h) (Or.inl ⟨by rfl, ?hx149⟩) (by assumption) ?rx149
      case hx149 => (intro w hSw; (try dsimp only at hSw); go_simp; try (with_reducible rfl))
      try simp only [Act.put, List.setIfInBounds_toArray, List.set_cons_zero, List.set_cons_succ, List.getElem_toArray, List.getElem_cons_zero, List.getElem_cons_succ]
      refine wpAnyH_take (i := 6) (v := ?vx150) rfl (by kernel_rfl) (by kernel_rfl) (by kernel_rfl) (fun _ _ _ h => h) (Or.inl ⟨by rfl, ?hx150⟩) (by assumption) ?rx150
      case hx150 => (intro w hSw; (try dsimp only at hSw); go_simp; try (with_reducible rfl))
      try simp only [Act.put, List.setIfInBounds_toArray, List.set_cons_zero, List.set_cons_succ, List.getElem_toArray, List.getElem_cons_zero, List.getElem_cons_succ]
      refine wpAnyH_ready (rs := [1, 7]) (by kernel_rfl) (by simp) ?_
      refine AllReadyH.cons rfl (fun K hK => ?_) (AllReadyH.cons rfl (fun K hK => ?_) AllReadyH.nil)
      · go_simp
        refine hK.out _ _ (HC.out _ (bl_drew (Below.refl _ _))) (fun hA1 => ?_)
        clear hK K hHeld
        try simp only [Act.put, List.setIfInBounds_toArray, List.set_cons_zero, List.set_cons_succ, List.getElem_toArray, List.getElem_cons_zero, List.getElem_cons_succ]
        refine wpAnyH_ready (rs := [7]) (by kernel_rfl) (by simp) ?_
        refine AllReadyH.cons rfl (fun K hK => ?_) AllReadyH.nil
        go_simp
        refine hK.out _ _ (HC.out _ (bl_drew (bl_alloc (Below.refl _ _) _))) (fun hA2 => ?_)
        clear hK K hA1
        try simp only [Act.put, List.setIfInBounds_toArray, List.set_cons_zero, List.set_cons_succ, List.getElem_toArray, List.getElem_cons_zero, List.getElem_cons_succ]
        refine wpAnyH_ready (rs := [8]) (by kernel_rfl) (by simp) ?_
        refine AllReadyH.cons rfl (fun K hK => ?_) AllReadyH.nil
        refine if_wanted (by rfl) ?_
        refine wp_append_own _ _ _ 28 rfl (w.heap.size + 2) 52 im _ 9 144 Tryz.underlying28 him hz0 hz1 hz2 rfl (by decide) (.slice a k c) k zs rfl (by exact owns_below HO1.out (bl_drew (bl_alloc (Below.refl _ _) _))) ⟨_, 0, none⟩ 1 1 (newCells x) rfl rfl (by exact new_cells wr wr.heap.size rfl #[.string x, .bool true, .int .i64 0, .bool false, .int .i64 0, .slice none 0 0, .slice none 0 0, .slice none 0 0, .slice none 0 0] 52 (newCells x) rfl) (by intro u hu; exact flatN_one [x] u (by simpa [flatN] using hu)) (by unfold maxLen; omega) (by omega) (by show w.heap.size + 2 ≤ (wr.alloc (.cells #[.string x, .bool true, .int .i64 0, .bool false, .int .i64 0, .slice none 0 0, .slice none 0 0, .slice none 0 0, .slice none 0 0] 52)).heap.size; rw [World.size_alloc]; omega) ?_
        intro v' w3 ho hg hn
        obtain ⟨a9, p9, hs9⟩ := own_shape ho
        subst hs9
        have N3 : Hid (Nb w (.slice a k c) w3) := (HN.out.below (bl_drew (bl_alloc (Below.refl _ _) (.cells #[.string x, .bool true, .int .i64 0, .bool false, .int .i64 0, .slice none 0 0, .slice none 0 0, .slice none 0 0, .slice none 0 0] 52)))).off hg (fun z hz => by have := owns_ge HO1.out z hz; omega)
        have O3 : Hid (w3.ownsRow (w.heap.size + 2) 52 9 (.slice a9 (k + 1) p9) (k + 1) (zs ++ newCells x)) := ho
        have kb3 := N3.out.b
        have kf3 := N3.out.c
        have kz3 := N3.out.f
        clear ho hg hn
        refine hK.out _ _ ((HR.out.keep hb N3.out.e) k x Hx.out) (fun hA3 => ?_)
        clear hK K hA2
        try simp only [Act.put, List.setIfInBounds_toArray, List.set_cons_zero, List.set_cons_succ, List.getElem_toArray, List.getElem_cons_zero, List.getElem_cons_succ]
        refine wpAnyH_take (i := 9) (v := ?vx151) rfl (by kernel_rfl) (by kernel_rfl) (by kernel_rfl) (fun _ _ _ h => h) (Or.inl ⟨by rfl, ?hx151⟩) (by assumption) ?rx151
        case hx151 => (intro w hSw; (try dsimp only at hSw); go_simp; try (with_reducible rfl))
        try simp only [Act.put, List.setIfInBounds_toArray, List.set_cons_zero, List.set_cons_succ, List.getElem_toArray, List.getElem_cons_zero, List.getElem_cons_succ]
        refine wpAnyH_ready (rs := [10]) (by kernel_rfl) (by simp) ?_
        refine AllReadyH.cons rfl (fun K hK => ?_) AllReadyH.nil
        go_simp
        refine hK.out _ _ ((HR.out.keep hb (N3.out.set (.slice a9 (k + 1) p9)).e) k x Hx.out) (fun hZ => ?_)
        clear hK K hA3
        try simp only [Act.put, List.setIfInBounds_toArray, List.set_cons_zero, List.set_cons_succ, List.getElem_toArray, List.getElem_cons_zero, List.getElem_cons_succ]
        refine wpAnyH_done (by kernel_rfl) ?_ _
        refine NoPanic.normal ?_
        clear hZ
        go_wp2
        refine ⟨⟨k + 1, by omega, by go_num, a9, p9, N3.out.set _, ?_⟩, by simp [intOf]; omega⟩
        have he : xs[k] = x := by have := Hx.out; rw [List.getElem?_eq_getElem hlt] at this; exact Option.some.inj this
        rw [List.take_succ_eq_append_getElem hlt, he, flatN_append, ← Hzs.out, show flatN [x] = newCells x from by simp [flatN]]
        exact own_ex O3.out ((Ex.refl _ _).set 3 _) (by omega)
      · go_simp
        refine hK.out _ _ (HC.out _ (bl_drew (bl_alloc (Below.refl _ _) _))) (fun hA1 => ?_)
        clear hK K hHeld
        try simp only [Act.put, List.setIfInBounds_toArray, List.set_cons_zero, List.set_cons_succ, List.getElem_toArray, List.getElem_cons_zero, List.getElem_cons_succ]
        refine wpAnyH_ready (rs := [1]) (by kernel_rfl) (by simp) ?_
        refine AllReadyH.cons rfl (fun K hK => ?_) AllReadyH.nil
        go_simp
        refine hK.out _ _ (HC.out _ (bl_drew (bl_alloc (Below.refl _ _) _))) (fun hA2 => ?_)
        clear hK K hA1
        try simp only [Act.put, List.setIfInBounds_toArray, List.set_cons_zero, List.set_cons_succ, List.getElem_toArray, List.getElem_cons_zero, List.getElem_cons_succ]
        refine wpAnyH_ready (rs := [8]) (by kernel_rfl) (by simp) ?_
        refine AllReadyH.cons rfl (fun K hK => ?_) AllReadyH.nil
        refine if_wanted (by rfl) ?_
        refine wp_append_own _ _ _ 28 rfl (w.heap.size + 2) 52 im _ 9 144 Tryz.underlying28 him hz0 hz1 hz2 rfl (by decide) (.slice a k c) k zs rfl (by exact owns_below HO1.out (bl_drew (bl_alloc (Below.refl _ _) _))) ⟨_, 0, none⟩ 1 1 (newCells x) rfl rfl (by exact new_cells wr wr.heap.size rfl #[.string x, .bool true, .int .i64 0, .bool false, .int .i64 0, .slice none 0 0, .slice none 0 0, .slice none 0 0, .slice none 0 0] 52 (newCells x) rfl) (by intro u hu; exact flatN_one [x] u (by simpa [flatN] using hu)) (by unfold maxLen; omega) (by omega) (by show w.heap.size + 2 ≤ (wr.alloc (.cells #[.string x, .bool true, .int .i64 0, .bool false, .int .i64 0, .slice none 0 0, .slice none 0 0, .slice none 0 0, .slice none 0 0] 52)).heap.size; rw [World.size_alloc]; omega) ?_
        intro v' w3 ho hg hn
        obtain ⟨a9, p9, hs9⟩ := own_shape ho
        subst hs9
        have N3 : Hid (Nb w (.slice a k c) w3) := (HN.out.below (bl_drew (bl_alloc (Below.refl _ _) (.cells #[.string x, .bool true, .int .i64 0, .bool false, .int .i64 0, .slice none 0 0, .slice none 0 0, .slice none 0 0, .slice none 0 0] 52)))).off hg (fun z hz => by have := owns_ge HO1.out z hz; omega)
        have O3 : Hid (w3.ownsRow (w.heap.size + 2) 52 9 (.slice a9 (k + 1) p9) (k + 1) (zs ++ newCells x)) := ho
        have kb3 := N3.out.b
        have kf3 := N3.out.c
        have kz3 := N3.out.f
        clear ho hg hn
        refine hK.out _ _ ((HR.out.keep hb N3.out.e) k x Hx.out) (fun hA3 => ?_)
        clear hK K hA2
        try simp only [Act.put, List.setIfInBounds_toArray, List.set_cons_zero, List.set_cons_succ, List.getElem_toArray, List.getElem_cons_zero, List.getElem_cons_succ]
        refine wpAnyH_take (i := 9) (v := ?vx152) rfl (by kernel_rfl) (by kernel_rfl) (by kernel_rfl) (fun _ _ _ h => h) (Or.inl ⟨by rfl, ?hx152⟩) (by assumption) ?rx152
        case hx152 => (intro w hSw; (try dsimp only at hSw); go_simp; try (with_reducible rfl))
        try simp only [Act.put, List.setIfInBounds_toArray, List.set_cons_zero, List.set_cons_succ, List.getElem_toArray, List.getElem_cons_zero, List.getElem_cons_succ]
        refine wpAnyH_ready (rs := [10]) (by kernel_rfl) (by simp) ?_
        refine AllReadyH.cons rfl (fun K hK => ?_) AllReadyH.nil
        go_simp
        refine hK.out _ _ ((HR.out.keep hb (N3.out.set (.slice a9 (k + 1) p9)).e) k x Hx.out) (fun hZ => ?_)
        clear hK K hA3
        try simp only [Act.put, List.setIfInBounds_toArray, List.set_cons_zero, List.set_cons_succ, List.getElem_toArray, List.getElem_cons_zero, List.getElem_cons_succ]
        refine wpAnyH_done (by kernel_rfl) ?_ _
        refine NoPanic.normal ?_
        clear hZ
        go_wp2
        refine ⟨⟨k + 1, by omega, by go_num, a9, p9, N3.out.set _, ?_⟩, by simp [intOf]; omega⟩
        have he : xs[k] = x := by have := Hx.out; rw [List.getElem?_eq_getElem hlt] at this; exact Option.some.inj this
        rw [List.take_succ_eq_append_getElem hlt, he, flatN_append, ← Hzs.out, show flatN [x] = newCells x from by simp [flatN]]
        exact own_ex O3.out ((Ex.refl _ _).set 3 _) (by omega)
    have e : k = xs.length := by omega
    subst e
    rw [List.take_of_length_le (Nat.le_refl _)] at HO
    have HS : Hid (SlN wr (.slice a xs.length c) xs (w.heap.size + 2)) := rows_of_ownsN HO.out
    clear HO
    go_wp2_with fail
    refine (specWorldNew a c xs _ HS.out.gv HF.out hl).mono ?_
    rintro e w1 ⟨⟨q, rfl, hq⟩, c1⟩
    have Hq : Hid (q = true ↔ NewOk xs) := hq
    have N1 : Hid (Nb w (.slice a xs.length c) w1) := HN.out.below c1
    have S1 : Hid (SlN w1 (.slice a xs.length c) xs (w.heap.size + 2)) := HS.out.keep c1
    clear hq c1 kb kf kz
    have kb := N1.out.b
    have kf := N1.out.c
    have kz := N1.out.f
    cases q
    · go_wp2_with (refine wpList_store_mid (by rfl) 30 _ _ (by rfl) w.heap.size 0 #[.int .i64 0, .slice none 0 0, .slice none 0 0, .slice none 0 0, .slice none 0 0] (by rfl) (by rfl) (by exact N1.out.d) hinfo (by simp [Value.oneCell']) ?_)
      have hrg := World.rangeAt_setCells_same w1 w.heap.size 0 [.int .i64 0, .slice none 0 0, .slice none 0 0, .slice none 0 0, .slice none 0 0] N1.out.d
      have d0 := hrg 0 _ rfl
      have d1 := hrg 1 _ rfl
      have d2 := hrg 2 _ rfl
      have d3 := hrg 3 _ rfl
      have d4 := hrg 4 _ rfl
      simp only [Nat.zero_add] at d0 d1 d2 d3 d4
      exact bodyPost_ret (v := .agg #[.int .i64 0, .slice none 0 0, .slice none 0 0, .slice none 0 0, .slice none 0 0]) (by simp [results, Tryz.results8, go_sem, d0, d1, d2, d3, d4]) rfl ⟨[], none, 0, rfl, Or.inr ⟨(fun h => by have := Hq.out.2 h; cases this), rfl⟩, Or.inl ⟨rfl, rfl⟩, Ex.mono N1.out.e ((Ex.refl w.heap.size w1).cells _ 0) (Nat.le_refl _)⟩
    · go_wp2_with (refine wpList_store_mid (by rfl) 30 _ _ (by rfl) w.heap.size 0 #[.int .i64 0, .slice none 0 0, .slice none 0 0, .slice a xs.length c, .slice none 0 0] (by rfl) (by rfl) (by exact N1.out.d) hinfo (by simp [Value.oneCell']) ?_)
      have hrg := World.rangeAt_setCells_same w1 w.heap.size 0 [.int .i64 0, .slice none 0 0, .slice none 0 0, .slice a xs.length c, .slice none 0 0] N1.out.d
      have d0 := hrg 0 _ rfl
      have d1 := hrg 1 _ rfl
      have d2 := hrg 2 _ rfl
      have d3 := hrg 3 _ rfl
      have d4 := hrg 4 _ rfl
      simp only [Nat.zero_add] at d0 d1 d2 d3 d4
      exact bodyPost_ret (v := .agg #[.int .i64 0, .slice none 0 0, .slice none 0 0, .slice a xs.length c, .slice none 0 0]) (by simp [results, Tryz.results8, go_sem, d0, d1, d2, d3, d4]) rfl ⟨xs, a, c, rfl, Or.inl ⟨Hq.out.1 (by first | rfl | trivial), rfl⟩, slN_low (S1.out.ex ((Ex.refl w.heap.size w1).cells _ 0) (by omega)) (by omega), Ex.mono N1.out.e ((Ex.refl w.heap.size w1).cells _ 0) (Nat.le_refl _)⟩
end Go.Proofs.YtdkjhonaafadjaaGreat
/- FnExactMateNewWorld: the law's walk. -/
namespace Go.Proofs.YtdkjhonaafadjaaGreat
open Go.RowKit
set_option linter.unusedVariables false

/-- A list of texts of the call's own. -/
structure Xt (y : World) (b : Nat) (xs : List ByteArray) : Prop where
  r : Tx.RowsAt y b 0 xs
  t : y.there b 0 xs.length
  l : b < y.heap.size
theorem Xt.keep {y z : World} {b : Nat} {xs : List ByteArray} (h : Xt y b xs) (hb : Below y.heap.size y z) : Xt z b xs := ⟨h.r.keep h.l hb, there_keep2 h.t h.l hb, Nat.lt_of_lt_of_le h.l hb.size⟩
theorem Lx.grown {y z : World} {b : Nat} {O : Array Value} {row : Option Nat} (h : Lx y b O) (hg : y.grownBy z row) (hn : some b ≠ row) : Lx z b O :=
  ⟨fun k => (World.cell?_of_block (w := y) (a := ⟨b, k, none⟩) (hg.block b h.l hn)).trans (h.c k), Nat.lt_of_lt_of_le h.l hg.size⟩
theorem new_one {xs ys zs : List ByteArray} (h : (NewOk xs ∧ ys = xs) ∨ (¬ NewOk xs ∧ ys = [])) (h' : (NewOk xs ∧ zs = xs) ∨ (¬ NewOk xs ∧ zs = [])) : ys = zs := by
  rcases h with ⟨h1, rfl⟩ | ⟨h1, rfl⟩ <;> rcases h' with ⟨h2, rfl⟩ | ⟨h2, rfl⟩
  · rfl
  · exact (h2 h1).elim
  · exact (h1 h2).elim
  · rfl

set_option maxRecDepth 4000 in
set_option maxHeartbeats 8000000 in
theorem lawNew (xs : List ByteArray) (v : Value) (w : World) (hi : Tx.In w v xs) :
    Calls Tryz.prog 3 #[v] w fun e w' => e = .returned (.bool true) ∧ Below w.heap.size w w' := by
  go_enter Tryz.func3, Tryz.ntmps3
  go_wp2_with fail
  have C0 : Hid (Below w.heap.size w w) := Below.refl _ _
  refine (Tx.sz_in hi 1048576 (by omega) (by omega)).mono ?_
  rintro e w1 ⟨hx, c⟩
  have C1 : Hid (Below w.heap.size w w1) := bl_trans C0.out c
  clear C0
  clear c
  rcases hx with rfl | ⟨x, rfl, x0, x1, hl⟩
  · go_wp2
    go_ret
    exact ⟨rfl, C1.out⟩
  go_wp2_with fail
  refine (Tx.to_in (hi.keep C1.out) hl).mono ?_
  rintro e w2 ⟨rfl, R, ht, z, c⟩
  have C2 : Hid (Below w.heap.size w w2) := bl_trans C1.out c
  clear C1
  clear c
  go_wp2_with fail
  refine (specNewWorld _ 0 _ xs _ R z hi.fits hl).mono ?_
  rintro e w3 ⟨ys, a, p, rfl, hy, hV, c⟩
  have Hy : Hid ((NewOk xs ∧ ys = xs) ∨ (¬ NewOk xs ∧ ys = [])) := hy
  have yl : ys.length ≤ 4 := by rcases hy with ⟨h1, rfl⟩ | ⟨-, rfl⟩; exact h1.1.2; simp
  clear hy R ht z
  have C3 : Hid (Below w.heap.size w w3) := bl_trans C2.out c
  clear C2
  have V3 : Hid (SlN w3 (.slice a ys.length p) ys w2.heap.size) := hV
  have V0 : Hid (∀ j, (Value.slice a ys.length p).ownBlock = some j → j < w3.heap.size) := fun j hj => (hV.lt j hj).2
  have Cw3 : Hid (Below w.heap.size w w3) := C3.out
  clear c hV
  have C4 : Hid (Below w.heap.size w (w3.alloc (.cells #[.int .i64 0, .slice none 0 0, .slice none 0 0, .slice a ys.length p, .slice none 0 0] 30))) := bl_trans C3.out (bl_alloc (Below.refl _ _) _)
  have V4 : Hid (SlN (w3.alloc (.cells #[.int .i64 0, .slice none 0 0, .slice none 0 0, .slice a ys.length p, .slice none 0 0] 30)) (.slice a ys.length p) ys w2.heap.size) := (V3.out).keep (bl_alloc (Below.refl _ _) _)
  clear C3 V3
  have W4 : Hid (Lx (w3.alloc (.cells #[.int .i64 0, .slice none 0 0, .slice none 0 0, .slice a ys.length p, .slice none 0 0] 30)) w3.heap.size #[.int .i64 0, .slice none 0 0, .slice none 0 0, .slice a ys.length p, .slice none 0 0]) := Lx.new _ _ _
  go_wp2_with fail
  refine (Tx.to_in (hi.keep C4.out) hl).mono ?_
  rintro e w4 ⟨rfl, R, ht, z, c⟩
  obtain ⟨b, hbe⟩ : ∃ b, b = (w3.alloc (.cells #[.int .i64 0, .slice none 0 0, .slice none 0 0, .slice a ys.length p, .slice none 0 0] 30)).heap.size := ⟨_, rfl⟩
  rw [← hbe] at R ht z ⊢
  have N0 : Hid (w3.heap.size < b) := by show w3.heap.size < b; rw [hbe]; simp
  clear hbe
  have C5 : Hid (Below w.heap.size w w4) := bl_trans C4.out c
  have V5 : Hid (SlN w4 (.slice a ys.length p) ys w2.heap.size) := (V4.out).keep c
  have W5 : Hid (Lx w4 w3.heap.size #[.int .i64 0, .slice none 0 0, .slice none 0 0, .slice a ys.length p, .slice none 0 0]) := (W4.out).keep c
  clear C4 V4 W4
  have X5 : Hid (Xt w4 b xs) := ⟨R, ht, z⟩
  have N1 : Hid (b < w4.heap.size) := z
  clear c R ht z
  go_wp2_with fail
  refine (implNewWorld _ 0 _ xs _ X5.out.r X5.out.l hi.fits hl).mono ?_
  rintro e w5 ⟨ys', g, q, rfl, hy, hG, c⟩
  have hyy : ys = ys' := new_one Hy.out hy
  subst hyy
  have C6 : Hid (Below w.heap.size w w5) := bl_trans C5.out c
  have V6 : Hid (SlN w5 (.slice a ys.length p) ys w2.heap.size) := (V5.out).keep c
  have W6 : Hid (Lx w5 w3.heap.size #[.int .i64 0, .slice none 0 0, .slice none 0 0, .slice a ys.length p, .slice none 0 0]) := (W5.out).keep c
  have X6 : Hid (Xt w5 b xs) := (X5.out).keep c
  clear C5 V5 W5 X5
  have G6 : Hid (SlN w5 (.slice g ys.length q) ys w4.heap.size) := hG
  have G0 : Hid (∀ j, (Value.slice g ys.length q).ownBlock = some j → w4.heap.size ≤ j ∧ j < w5.heap.size) := hG.lt
  have N2 : Hid (w4.heap.size ≤ w5.heap.size) := c.size
  clear c hG hy
  have C7 : Hid (Below w.heap.size w (w5.alloc (.cells #[.int .i64 0, .slice none 0 0, .slice none 0 0, .slice g ys.length q, .slice none 0 0] 30))) := bl_trans C6.out (bl_alloc (Below.refl _ _) _)
  have V7 : Hid (SlN (w5.alloc (.cells #[.int .i64 0, .slice none 0 0, .slice none 0 0, .slice g ys.length q, .slice none 0 0] 30)) (.slice a ys.length p) ys w2.heap.size) := (V6.out).keep (bl_alloc (Below.refl _ _) _)
  have W7 : Hid (Lx (w5.alloc (.cells #[.int .i64 0, .slice none 0 0, .slice none 0 0, .slice g ys.length q, .slice none 0 0] 30)) w3.heap.size #[.int .i64 0, .slice none 0 0, .slice none 0 0, .slice a ys.length p, .slice none 0 0]) := (W6.out).keep (bl_alloc (Below.refl _ _) _)
  have X7 : Hid (Xt (w5.alloc (.cells #[.int .i64 0, .slice none 0 0, .slice none 0 0, .slice g ys.length q, .slice none 0 0] 30)) b xs) := (X6.out).keep (bl_alloc (Below.refl _ _) _)
  have G7 : Hid (SlN (w5.alloc (.cells #[.int .i64 0, .slice none 0 0, .slice none 0 0, .slice g ys.length q, .slice none 0 0] 30)) (.slice g ys.length q) ys w4.heap.size) := (G6.out).keep (bl_alloc (Below.refl _ _) _)
  clear C6 V6 W6 X6 G6
  have Z7 : Hid (Lx (w5.alloc (.cells #[.int .i64 0, .slice none 0 0, .slice none 0 0, .slice g ys.length q, .slice none 0 0] 30)) w5.heap.size #[.int .i64 0, .slice none 0 0, .slice none 0 0, .slice g ys.length q, .slice none 0 0]) := Lx.new _ _ _
  have N : Hid (w3.heap.size < b ∧ b < w4.heap.size ∧ w4.heap.size ≤ w5.heap.size ∧ w.heap.size ≤ w3.heap.size) := ⟨N0.out, N1.out, N2.out, by have := Cw3.out.size; omega⟩
  clear N0 N1 N2 Cw3
  have kw := W7.out.c
  have kz := Z7.out.c
  go_wp2_with fail
  refine (eqWorldN G7.out V7.out (by omega)).mono ?_
  rintro e w6 ⟨rfl, c⟩
  clear kw kz
  have C8 : Hid (Below w.heap.size w w6) := bl_trans C7.out c
  have V8 : Hid (SlN w6 (.slice a ys.length p) ys w2.heap.size) := (V7.out).keep c
  have W8 : Hid (Lx w6 w3.heap.size #[.int .i64 0, .slice none 0 0, .slice none 0 0, .slice a ys.length p, .slice none 0 0]) := (W7.out).keep c
  have X8 : Hid (Xt w6 b xs) := (X7.out).keep c
  have G8 : Hid (SlN w6 (.slice g ys.length q) ys w4.heap.size) := (G7.out).keep c
  have Z8 : Hid (Lx w6 w5.heap.size #[.int .i64 0, .slice none 0 0, .slice none 0 0, .slice g ys.length q, .slice none 0 0]) := (Z7.out).keep c
  clear C7 V7 W7 X7 G7 Z7
  clear c
  go_wp2_with fail
  refine (Tx.to_in (hi.keep C8.out) hl).mono ?_
  rintro e w7 ⟨rfl, R, ht, z, c⟩
  have C9 : Hid (Below w.heap.size w w7) := bl_trans C8.out c
  have V9 : Hid (SlN w7 (.slice a ys.length p) ys w2.heap.size) := (V8.out).keep c
  have W9 : Hid (Lx w7 w3.heap.size #[.int .i64 0, .slice none 0 0, .slice none 0 0, .slice a ys.length p, .slice none 0 0]) := (W8.out).keep c
  have X9 : Hid (Xt w7 b xs) := (X8.out).keep c
  have G9 : Hid (SlN w7 (.slice g ys.length q) ys w4.heap.size) := (G8.out).keep c
  have Z9 : Hid (Lx w7 w5.heap.size #[.int .i64 0, .slice none 0 0, .slice none 0 0, .slice g ys.length q, .slice none 0 0]) := (Z8.out).keep c
  clear C8 V8 W8 X8 G8 Z8
  clear c
  go_wp2_with fail
  refine (Tx.eqStringS b 0 _ _ 0 _ xs _ X9.out.r R hl).mono ?_
  rintro e w8 ⟨rfl, c⟩
  clear R ht z
  have C10 : Hid (Below w.heap.size w w8) := bl_trans C9.out c
  have V10 : Hid (SlN w8 (.slice a ys.length p) ys w2.heap.size) := (V9.out).keep c
  have W10 : Hid (Lx w8 w3.heap.size #[.int .i64 0, .slice none 0 0, .slice none 0 0, .slice a ys.length p, .slice none 0 0]) := (W9.out).keep c
  have X10 : Hid (Xt w8 b xs) := (X9.out).keep c
  have G10 : Hid (SlN w8 (.slice g ys.length q) ys w4.heap.size) := (G9.out).keep c
  have Z10 : Hid (Lx w8 w5.heap.size #[.int .i64 0, .slice none 0 0, .slice none 0 0, .slice g ys.length q, .slice none 0 0]) := (Z9.out).keep c
  clear C9 V9 W9 X9 G9 Z9
  clear c
  go_wp2_with fail
  refine (markTx b xs.length _ 1 _ X10.out.t X10.out.l hl (by omega) (by omega)).mono ?_
  rintro e w9 ⟨he, o'⟩
  obtain ⟨kk, hkk⟩ : ∃ kk : Int, kk = 1 + (xs.length : Int) := ⟨_, rfl⟩
  rw [← hkk] at he
  subst he
  have kn : 0 ≤ kk := by omega
  clear hkk
  have o := A.ex_grown o'
  clear o'
  clear X10
  have C11 : Hid (Below w.heap.size w w9) := Below.grown C10.out o (C10.out.size) (fun k hk => by cases hk; have := N.out; omega)
  have V11 : Hid (SlN w9 (.slice a ys.length p) ys w2.heap.size) := (V10.out).grown o (fun j hj hp => by cases hp; have := N.out; have := V0.out _ hj; omega)
  have W11 : Hid (Lx w9 w3.heap.size #[.int .i64 0, .slice none 0 0, .slice none 0 0, .slice a ys.length p, .slice none 0 0]) := (W10.out).grown o (fun hp => by cases hp; have := N.out; omega)
  have G11 : Hid (SlN w9 (.slice g ys.length q) ys w4.heap.size) := (G10.out).grown o (fun j hj hp => by cases hp; have := N.out; have := G0.out _ hj; omega)
  have Z11 : Hid (Lx w9 w5.heap.size #[.int .i64 0, .slice none 0 0, .slice none 0 0, .slice g ys.length q, .slice none 0 0]) := (Z10.out).grown o (fun hp => by cases hp; have := N.out; omega)
  clear C10 V10 W10 G10 Z10
  clear o
  have kw := W11.out.c
  have kz := Z11.out.c
  go_wp2_with fail
  refine (eqWorldN G11.out V11.out (by omega)).mono ?_
  rintro e w10 ⟨rfl, c⟩
  clear kw kz
  have C12 : Hid (Below w.heap.size w w10) := bl_trans C11.out c
  have V12 : Hid (SlN w10 (.slice a ys.length p) ys w2.heap.size) := (V11.out).keep c
  have W12 : Hid (Lx w10 w3.heap.size #[.int .i64 0, .slice none 0 0, .slice none 0 0, .slice a ys.length p, .slice none 0 0]) := (W11.out).keep c
  have G12 : Hid (SlN w10 (.slice g ys.length q) ys w4.heap.size) := (G11.out).keep c
  have Z12 : Hid (Lx w10 w5.heap.size #[.int .i64 0, .slice none 0 0, .slice none 0 0, .slice g ys.length q, .slice none 0 0]) := (Z11.out).keep c
  clear C11 V11 W11 G11 Z11
  clear c
  have kz := Z12.out.c
  go_wp2_with fail
  obtain ⟨mm, hmm⟩ : ∃ mm : Int, mm = 1 + 5 * (ys.length : Int) := ⟨_, rfl⟩
  have mn : 0 ≤ mm := by omega
  have Hm : Hid (mm = 1 + 5 * (ys.length : Int)) := hmm
  clear hmm
  refine (markWorldN G12.out (by omega)).mono ?_
  rintro e w11 ⟨he, M, o⟩
  rw [← Hm.out] at he
  subst he
  clear kz
  clear G12
  have C13 : Hid (Below w.heap.size w w11) := Below.grown C12.out o (C12.out.size) (fun k hk => by have := N.out; have := G0.out _ hk; omega)
  have V13 : Hid (SlN w11 (.slice a ys.length p) ys w2.heap.size) := (V12.out).grown o (fun j hj hp => by have := N.out; have := V0.out _ hj; have := G0.out _ hp.symm; omega)
  have W13 : Hid (Lx w11 w3.heap.size #[.int .i64 0, .slice none 0 0, .slice none 0 0, .slice a ys.length p, .slice none 0 0]) := (W12.out).grown o (fun hp => by have := N.out; have := G0.out _ hp.symm; omega)
  have Z13 : Hid (Lx w11 w5.heap.size #[.int .i64 0, .slice none 0 0, .slice none 0 0, .slice g ys.length q, .slice none 0 0]) := (Z12.out).grown o (fun hp => by have := N.out; have := G0.out _ hp.symm; omega)
  clear C12 V12 W12 Z12
  have M13 : Hid (SlK w11 (.slice g ys.length q) ys.length 1) := M
  clear o M
  have kz := Z13.out.c
  go_wp2_with fail
  refine (heldWorldN M13.out (by omega)).mono ?_
  rintro e w12 ⟨he, c⟩
  rw [← Hm.out] at he
  subst he
  clear kz
  have C14 : Hid (Below w.heap.size w w12) := bl_trans C13.out c
  have V14 : Hid (SlN w12 (.slice a ys.length p) ys w2.heap.size) := (V13.out).keep c
  have W14 : Hid (Lx w12 w3.heap.size #[.int .i64 0, .slice none 0 0, .slice none 0 0, .slice a ys.length p, .slice none 0 0]) := (W13.out).keep c
  have Z14 : Hid (Lx w12 w5.heap.size #[.int .i64 0, .slice none 0 0, .slice none 0 0, .slice g ys.length q, .slice none 0 0]) := (Z13.out).keep c
  have M14 : Hid (SlK w12 (.slice g ys.length q) ys.length 1) := (M13.out).keep c
  clear C13 V13 W13 Z13 M13
  clear c
  go_wp2_with fail
  refine (Tx.to_in (hi.keep C14.out) hl).mono ?_
  rintro e w13 ⟨rfl, R, ht, z, c⟩
  have C15 : Hid (Below w.heap.size w w13) := bl_trans C14.out c
  have V15 : Hid (SlN w13 (.slice a ys.length p) ys w2.heap.size) := (V14.out).keep c
  have W15 : Hid (Lx w13 w3.heap.size #[.int .i64 0, .slice none 0 0, .slice none 0 0, .slice a ys.length p, .slice none 0 0]) := (W14.out).keep c
  have Z15 : Hid (Lx w13 w5.heap.size #[.int .i64 0, .slice none 0 0, .slice none 0 0, .slice g ys.length q, .slice none 0 0]) := (Z14.out).keep c
  have M15 : Hid (SlK w13 (.slice g ys.length q) ys.length 1) := (M14.out).keep c
  clear C14 V14 W14 Z14 M14
  clear c
  go_wp2_with fail
  refine (implNewWorld _ 0 _ xs _ R z hi.fits hl).mono ?_
  rintro e w14 ⟨ys', t, u, rfl, hy, hG, c⟩
  have hyy : ys = ys' := new_one Hy.out hy
  subst hyy
  clear R ht z hy
  have C16 : Hid (Below w.heap.size w w14) := bl_trans C15.out c
  have V16 : Hid (SlN w14 (.slice a ys.length p) ys w2.heap.size) := (V15.out).keep c
  have W16 : Hid (Lx w14 w3.heap.size #[.int .i64 0, .slice none 0 0, .slice none 0 0, .slice a ys.length p, .slice none 0 0]) := (W15.out).keep c
  have Z16 : Hid (Lx w14 w5.heap.size #[.int .i64 0, .slice none 0 0, .slice none 0 0, .slice g ys.length q, .slice none 0 0]) := (Z15.out).keep c
  have M16 : Hid (SlK w14 (.slice g ys.length q) ys.length 1) := (M15.out).keep c
  clear C15 V15 W15 Z15 M15
  have H16 : Hid (SlN w14 (.slice t ys.length u) ys w13.heap.size) := hG
  clear c hG
  have C17 : Hid (Below w.heap.size w (w14.alloc (.cells #[.int .i64 0, .slice none 0 0, .slice none 0 0, .slice t ys.length u, .slice none 0 0] 30))) := bl_trans C16.out (bl_alloc (Below.refl _ _) _)
  have V17 : Hid (SlN (w14.alloc (.cells #[.int .i64 0, .slice none 0 0, .slice none 0 0, .slice t ys.length u, .slice none 0 0] 30)) (.slice a ys.length p) ys w2.heap.size) := (V16.out).keep (bl_alloc (Below.refl _ _) _)
  have W17 : Hid (Lx (w14.alloc (.cells #[.int .i64 0, .slice none 0 0, .slice none 0 0, .slice t ys.length u, .slice none 0 0] 30)) w3.heap.size #[.int .i64 0, .slice none 0 0, .slice none 0 0, .slice a ys.length p, .slice none 0 0]) := (W16.out).keep (bl_alloc (Below.refl _ _) _)
  have Z17 : Hid (Lx (w14.alloc (.cells #[.int .i64 0, .slice none 0 0, .slice none 0 0, .slice t ys.length u, .slice none 0 0] 30)) w5.heap.size #[.int .i64 0, .slice none 0 0, .slice none 0 0, .slice g ys.length q, .slice none 0 0]) := (Z16.out).keep (bl_alloc (Below.refl _ _) _)
  have M17 : Hid (SlK (w14.alloc (.cells #[.int .i64 0, .slice none 0 0, .slice none 0 0, .slice t ys.length u, .slice none 0 0] 30)) (.slice g ys.length q) ys.length 1) := (M16.out).keep (bl_alloc (Below.refl _ _) _)
  have H17 : Hid (SlN (w14.alloc (.cells #[.int .i64 0, .slice none 0 0, .slice none 0 0, .slice t ys.length u, .slice none 0 0] 30)) (.slice t ys.length u) ys w13.heap.size) := (H16.out).keep (bl_alloc (Below.refl _ _) _)
  clear C16 V16 W16 Z16 M16 H16
  have kw := W17.out.c
  go_wp2_with fail
  refine (eqWorldN H17.out V17.out (by omega)).mono ?_
  rintro e w15 ⟨rfl, c⟩
  clear kw
  have C18 : Hid (Below w.heap.size w w15) := bl_trans C17.out c
  have V18 : Hid (SlN w15 (.slice a ys.length p) ys w2.heap.size) := (V17.out).keep c
  have W18 : Hid (Lx w15 w3.heap.size #[.int .i64 0, .slice none 0 0, .slice none 0 0, .slice a ys.length p, .slice none 0 0]) := (W17.out).keep c
  have Z18 : Hid (Lx w15 w5.heap.size #[.int .i64 0, .slice none 0 0, .slice none 0 0, .slice g ys.length q, .slice none 0 0]) := (Z17.out).keep c
  have M18 : Hid (SlK w15 (.slice g ys.length q) ys.length 1) := (M17.out).keep c
  have H18 : Hid (SlN w15 (.slice t ys.length u) ys w13.heap.size) := (H17.out).keep c
  clear C17 V17 W17 Z17 M17 H17
  clear c
  have kz := Z18.out.c
  go_wp2_with fail
  refine (heldWorldN M18.out (by omega)).mono ?_
  rintro e w16 ⟨he, c⟩
  rw [← Hm.out] at he
  subst he
  clear kz
  have C19 : Hid (Below w.heap.size w w16) := bl_trans C18.out c
  have V19 : Hid (SlN w16 (.slice a ys.length p) ys w2.heap.size) := (V18.out).keep c
  have W19 : Hid (Lx w16 w3.heap.size #[.int .i64 0, .slice none 0 0, .slice none 0 0, .slice a ys.length p, .slice none 0 0]) := (W18.out).keep c
  have Z19 : Hid (Lx w16 w5.heap.size #[.int .i64 0, .slice none 0 0, .slice none 0 0, .slice g ys.length q, .slice none 0 0]) := (Z18.out).keep c
  have M19 : Hid (SlK w16 (.slice g ys.length q) ys.length 1) := (M18.out).keep c
  have H19 : Hid (SlN w16 (.slice t ys.length u) ys w13.heap.size) := (H18.out).keep c
  clear C18 V18 W18 Z18 M18 H18
  clear c
  go_wp2
  go_ret
  exact ⟨rfl, C19.out⟩
end Go.Proofs.YtdkjhonaafadjaaGreat
