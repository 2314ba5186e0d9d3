import Derived.Test.YtdkjhonaafadjaaGreatJ20
import Derived.Test.YtdkjhonaafadjaaGreatJ21
/- MateNewWorld: the program's side. -/
namespace Go.Proofs.YtdkjhonaafadjaaGreat
open Go.RowKit
set_option linter.unusedVariables false

theorem nb_new (w : World) : Nb w (.slice none 0 0) ((w.alloc (.cells #[.int .i64 0, .slice none 0 0, .slice none 0 0, .slice none 0 0, .slice none 0 0] 30)).alloc (.cells #[.int .i64 0, .slice none 0 0, .slice none 0 0, .slice none 0 0, .slice none 0 0] 30)) :=
  ⟨fun k => by simp [go_sem], fun k => by simp [go_sem], fun j hj => ⟨by simp [go_sem] <;> omega, by simp [go_sem]⟩, bl_alloc (bl_alloc (Below.refl _ _) _) _, by simp⟩

theorem slN_low {w : World} {v : Value} {xs : List ByteArray} {B B' : Nat} (h : SlN w v xs B) (hB : B' ≤ B) : SlN w v xs B' := by
  rcases h with h | ⟨g, cap, h0, h1, h2⟩
  · exact Or.inl h
  · exact Or.inr ⟨g, cap, h0, Nat.le_trans hB h1, h2⟩

set_option maxRecDepth 4000 in
set_option maxHeartbeats 4000000 in
theorem implNewWorld (b off cap : Nat) (xs : List ByteArray) (w : World) (hR : Tx.RowsAt w b off xs) (hb : b < w.heap.size) (hf : ∀ x ∈ xs, x.size ≤ maxLen) (hl : xs.length ≤ 1048576) :
    Calls Tryz.prog 10 #[.slice (some ⟨b, off, none⟩) xs.length cap] w fun e w' => ∃ ys a c, e = .returned (.agg #[.int .i64 0, .slice none 0 0, .slice none 0 0, .slice a ys.length c, .slice none 0 0]) ∧ ((NewOk xs ∧ ys = xs) ∨ (¬ NewOk xs ∧ ys = [])) ∧ SlN w' (.slice a ys.length c) ys w.heap.size ∧ Below w.heap.size w w' := by
  obtain ⟨im, him, hz0, hz1, hz2⟩ := info_parts infoM
  have hinfo : (Tryz.prog.info? 30).map (·.size) = some 5 := by kernel_rfl
  have HR : Hid (Tx.RowsAt w b off xs) := hR
  have HF : Hid (∀ x ∈ xs, x.size ≤ maxLen) := hf
  clear hR hf
  go_enter Tryz.func10, Tryz.ntmps10
  go_wp2_with fail
  go_loopw [5, 8] (fun _ i wx => ∃ (k : Nat), k ≤ xs.length ∧ i = .int .i64 k ∧ ∃ a c, Nb w (.slice a k c) wx ∧ wx.ownsRow (w.heap.size + 2) 52 9 (.slice a k c) k (flatN (xs.take k))) (fun _ i _ => xs.length - (intOf i).toNat)
  case atStart => exact ⟨0, Nat.zero_le _, rfl, none, 0, nb_new w, World.ownsRow_nil _ _ _ _⟩
  case round =>
    obtain ⟨k, hk, rfl, a, c, hN, hown⟩ := hrel
    have HN : Hid (Nb w (.slice a k c) wr) := hN
    have HO : Hid (wr.ownsRow (w.heap.size + 2) 52 9 (.slice a k c) k (flatN (xs.take k))) := hown
    have kb := hN.b
    have kf := hN.c
    have kz := hN.f
    clear hN hown
    by_cases hlt : k < xs.length
    · obtain ⟨x, hx⟩ : ∃ x, xs[k]? = some x := ⟨xs[k], List.getElem?_eq_getElem hlt⟩
      have c0 := (HR.out.keep hb HN.out.e) k x hx
      have Hx : Hid (xs[k]? = some x) := hx
      obtain ⟨zs, hzs⟩ : ∃ zs, zs = flatN (xs.take k) := ⟨_, rfl⟩
      have HO1 : Hid (wr.ownsRow (w.heap.size + 2) 52 9 (.slice a k c) k zs) := by rw [hzs]; exact HO.out
      have Hzs : Hid (zs = flatN (xs.take k)) := hzs
      clear hx hzs HO
      go_wp2_with (at_builtin; refine wpList_append_own _ rfl _ _ 28 rfl (w.heap.size + 2) 52 im _ 9 144 Tryz.underlying28 him hz0 hz1 hz2 rfl (by decide) _ k _ rfl (by exact owns_below HO1.out (bl_alloc (Below.refl _ _) _)) ⟨_, 0, none⟩ 1 1 (newCells x) rfl rfl (new_cells _ _ (by simp) _ _ _ rfl) (by intro u hu; exact flatN_one [x] u (by simpa [flatN] using hu)) (by unfold maxLen; omega) (by omega) (by simp; omega) ?_; intro v' w3 ho hg hn; obtain ⟨a9, p9, hs9⟩ := own_shape ho; subst hs9; have N3 : Hid (Nb w (.slice a k c) w3) := (HN.out.below (bl_alloc (Below.refl _ _) _)).off hg (fun z hz => by have := owns_ge HO1.out z hz; omega); have O3 : Hid (w3.ownsRow (w.heap.size + 2) 52 9 (.slice a9 (k + 1) p9) (k + 1) (zs ++ newCells x)) := ho; have kb3 := N3.out.b; have kf3 := N3.out.c; have kz3 := N3.out.f; clear ho hg hn)
      refine ⟨⟨k + 1, by omega, by go_num, a9, p9, N3.out.set _, ?_⟩, by simp [intOf]; omega⟩
      have he : xs[k] = x := by have := Hx.out; rw [List.getElem?_eq_getElem hlt] at this; exact Option.some.inj this
      rw [List.take_succ_eq_append_getElem hlt, he, flatN_append, ← Hzs.out, show flatN [x] = newCells x from by simp [flatN]]
      exact own_ex O3.out ((Ex.refl _ _).set 3 _) (by omega)
    have e : k = xs.length := by omega
    subst e
    rw [List.take_of_length_le (Nat.le_refl _)] at HO
    have HS : Hid (SlN wr (.slice a xs.length c) xs (w.heap.size + 2)) := rows_of_ownsN HO.out
    clear HO
    go_wp2_with fail
    refine (implWorldNew a c xs _ HS.out.gv HF.out hl).mono ?_
    rintro e w1 ⟨⟨q, rfl, hq⟩, c1⟩
    have Hq : Hid (q = true ↔ NewOk xs) := hq
    have N1 : Hid (Nb w (.slice a xs.length c) w1) := HN.out.below c1
    have S1 : Hid (SlN w1 (.slice a xs.length c) xs (w.heap.size + 2)) := HS.out.keep c1
    clear hq c1 kb kf kz
    have kb := N1.out.b
    have kf := N1.out.c
    have kz := N1.out.f
    cases q
    · go_wp2_with (refine wpList_store_mid (by rfl) 30 _ _ (by rfl) w.heap.size 0 #[.int .i64 0, .slice none 0 0, .slice none 0 0, .slice none 0 0, .slice none 0 0] (by rfl) (by rfl) (by exact N1.out.d) hinfo (by simp [Value.oneCell']) ?_)
      have hrg := World.rangeAt_setCells_same w1 w.heap.size 0 [.int .i64 0, .slice none 0 0, .slice none 0 0, .slice none 0 0, .slice none 0 0] N1.out.d
      have d0 := hrg 0 _ rfl
      have d1 := hrg 1 _ rfl
      have d2 := hrg 2 _ rfl
      have d3 := hrg 3 _ rfl
      have d4 := hrg 4 _ rfl
      simp only [Nat.zero_add] at d0 d1 d2 d3 d4
      exact bodyPost_ret (v := .agg #[.int .i64 0, .slice none 0 0, .slice none 0 0, .slice none 0 0, .slice none 0 0]) (by simp [results, Tryz.results10, go_sem, d0, d1, d2, d3, d4]) rfl ⟨[], none, 0, rfl, Or.inr ⟨(fun h => by have := Hq.out.2 h; cases this), rfl⟩, Or.inl ⟨rfl, rfl⟩, Ex.mono N1.out.e ((Ex.refl w.heap.size w1).cells _ 0) (Nat.le_refl _)⟩
    · go_wp2_with (refine wpList_store_mid (by rfl) 30 _ _ (by rfl) w.heap.size 0 #[.int .i64 0, .slice none 0 0, .slice none 0 0, .slice a xs.length c, .slice none 0 0] (by rfl) (by rfl) (by exact N1.out.d) hinfo (by simp [Value.oneCell']) ?_)
      have hrg := World.rangeAt_setCells_same w1 w.heap.size 0 [.int .i64 0, .slice none 0 0, .slice none 0 0, .slice a xs.length c, .slice none 0 0] N1.out.d
      have d0 := hrg 0 _ rfl
      have d1 := hrg 1 _ rfl
      have d2 := hrg 2 _ rfl
      have d3 := hrg 3 _ rfl
      have d4 := hrg 4 _ rfl
      simp only [Nat.zero_add] at d0 d1 d2 d3 d4
      exact bodyPost_ret (v := .agg #[.int .i64 0, .slice none 0 0, .slice none 0 0, .slice a xs.length c, .slice none 0 0]) (by simp [results, Tryz.results10, go_sem, d0, d1, d2, d3, d4]) rfl ⟨xs, a, c, rfl, Or.inl ⟨Hq.out.1 (by first | rfl | trivial), rfl⟩, slN_low (S1.out.ex ((Ex.refl w.heap.size w1).cells _ 0) (by omega)) (by omega), Ex.mono N1.out.e ((Ex.refl w.heap.size w1).cells _ 0) (Nat.le_refl _)⟩
end Go.Proofs.YtdkjhonaafadjaaGreat
