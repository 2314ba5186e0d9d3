import Derived.Test.YtdkjhonaafadjaaGreatJ20
import Derived.Test.YtdkjhonaafadjaaGreatJ16
import Derived.Test.YtdkjhonaafadjaaGreatJ17
import Derived.Laws.EntriesVeiled
/- A new world is marked. -/
namespace Go.Proofs.YtdkjhonaafadjaaGreat
open Go.RowKit
set_option linter.unusedVariables false

theorem SlN.grown {w w' : World} {v : Value} {xs : List ByteArray} {B : Nat} {row : Option Nat} (h : SlN w v xs B) (hg : w.grownBy w' row) (hne : ∀ g, v.ownBlock = some g → some g ≠ row) : SlN w' v xs B := by
  rcases h with h | ⟨g, cap, rfl, h1, h2, h3, h4⟩
  · exact Or.inl h
  · have hn : some g ≠ row := hne g rfl
    have hc : ∀ o, w'.cell? ⟨g, o, none⟩ = w.cell? ⟨g, o, none⟩ := fun o => World.cell?_of_block (w := w) (a := ⟨g, o, none⟩) (hg.block g h2 hn)
    have hfz : ∀ o, w'.frozen? ⟨g, o, none⟩ = w.frozen? ⟨g, o, none⟩ := fun o => World.frozen?_of_block (w := w) (a := ⟨g, o, none⟩) (hg.block g h2 hn)
    exact Or.inr ⟨g, cap, rfl, h1, Nat.lt_of_lt_of_le h2 hg.size, fun k r hk j v hj => (hc _).trans (h3 k r hk j v hj), fun j hj => ⟨by rw [hc]; exact (h4 j hj).1, by rw [hfz]; exact (h4 j hj).2⟩⟩
theorem SlN.lt {w : World} {v : Value} {xs : List ByteArray} {B : Nat} (h : SlN w v xs B) : ∀ g, v.ownBlock = some g → B ≤ g ∧ g < w.heap.size := by
  rcases h with ⟨rfl, -⟩ | ⟨g, cap, rfl, h1, h2, -⟩
  · intro g hg; simp [Value.ownBlock] at hg
  · intro g' hg; simp [Value.ownBlock] at hg; subst hg; exact ⟨h1, h2⟩

def markN (k : Int) : Mt.MRow := ⟨⟨markB k, (k + 1) % 3 == 0, k + 1 + 1, (k + 1 + 1 + 1) % 3 == 0, k + 1 + 1 + 1 + 1, [], [], [], []⟩, none, 0, none, 0, none, 0, none, 0⟩
def marksN (k : Int) (n : Nat) : List Mt.MRow := (List.range n).map (fun (i : Nat) => markN (k + 5 * (i : Int)))
theorem len_marksN (k : Int) (n : Nat) : (marksN k n).length = n := by simp [marksN]
theorem partN {x : World} {g n k : Nat} (h : x.there g 0 (n * 9)) (hk : k < n) (j : Nat) (hj : j < 9) : (x.cell? ⟨g, k * 9 + j, none⟩).isSome = true ∧ x.frozen? ⟨g, k * 9 + j, none⟩ = false := by
  have h1 := h (k * 9 + j) (by omega)
  rw [Nat.zero_add] at h1
  exact h1
theorem row_cellsN {x : World} {g n k : Nat} (h : x.there g 0 (n * 9)) (hk : k < n) (j : Nat) (hj : j < 9) : (∃ v, x.cell? ⟨g, k * 9 + j, none⟩ = some v) ∧ x.frozen? ⟨g, k * 9 + j, none⟩ = false :=
  ⟨Option.isSome_iff_exists.1 (partN h hk j hj).1, (partN h hk j hj).2⟩
theorem rows_apartN {x : World} {g : Nat} {rs : List Mt.MRow} (h : Mt.RowsAt x g 0 rs) (o : Nat) (hl : rs.length * 9 ≤ o) (vs : List Value) : Mt.RowsAt (x.setCells g o vs) g 0 rs :=
  fun j q hj => World.rangeAt_setCells_apart (h j q hj) g o vs (Or.inr (Or.inl (by
    have : j < rs.length := by
      rcases Nat.lt_or_ge j rs.length with h' | h'
      · exact h'
      · rw [List.getElem?_eq_none h'] at hj; cases hj
    show 0 + j * 9 + 9 ≤ o
    omega)))
theorem rows_snocN {x : World} {b m : Nat} {k0 kk : Int} (hk : kk = k0 + 5 * (m : Int)) (h : Mt.RowsAt x b 0 (marksN k0 m)) (hr : x.rangeAt b (m * 9) (markN kk).cells) : Mt.RowsAt x b 0 (marksN k0 (m + 1)) := by
  intro j q hj
  rw [marksN, List.range_succ, List.map_append] at hj
  rcases Nat.lt_or_ge j m with hl | hl
  · rw [List.getElem?_append_left (by simpa using hl)] at hj; exact h j q hj
  · rw [List.getElem?_append_right (by simpa using hl)] at hj
    by_cases e : j = m
    · subst e
      simp at hj
      subst hj
      rw [← hk, Nat.zero_add]
      exact hr
    · rw [List.getElem?_eq_none (by simp; omega)] at hj; cases hj
/-- The lists of the mates are nil. -/
def Nils (x : World) (b n : Nat) : Prop := ∀ k, k < n → x.rangeAt b (k * 9 + 5) [.slice none 0 0, .slice none 0 0, .slice none 0 0, .slice none 0 0]
theorem Nils.at {x : World} {b n k : Nat} (h : Nils x b n) (hk : k < n) : x.cell? ⟨b, k * 9 + 5, none⟩ = some (.slice none 0 0) ∧ x.cell? ⟨b, k * 9 + 6, none⟩ = some (.slice none 0 0) ∧ x.cell? ⟨b, k * 9 + 7, none⟩ = some (.slice none 0 0) ∧ x.cell? ⟨b, k * 9 + 8, none⟩ = some (.slice none 0 0) :=
  ⟨h k hk 0 _ rfl, h k hk 1 _ rfl, h k hk 2 _ rfl, h k hk 3 _ rfl⟩
theorem Nils.keep {x y : World} {b n : Nat} (h : Nils x b n) (hb : b < x.heap.size) (hB : Below x.heap.size x y) : Nils y b n := fun k hk => range_keep (h k hk) hb hB
theorem Nils.set {x : World} {b n : Nat} (h : Nils x b n) (m : Nat) (vs : List Value) (hv : vs.length = 5) : Nils (x.setCells b (m * 9) vs) b n := fun k hk => by
  refine World.rangeAt_setCells_apart (h k hk) b (m * 9) vs ?_
  rcases Nat.lt_or_ge k m with h' | h'
  · exact Or.inr (Or.inl (by show k * 9 + 5 + 4 ≤ m * 9; omega))
  · exact Or.inr (Or.inr (by show m * 9 + vs.length ≤ k * 9 + 5; omega))
theorem nils_new {x : World} {b : Nat} {xs : List ByteArray} (h : Mt.RowsAt x b 0 (xs.map newRow)) : Nils x b xs.length := fun k hk => by
  obtain ⟨y, hy⟩ : ∃ y, xs[k]? = some y := ⟨xs[k], List.getElem?_eq_getElem hk⟩
  obtain ⟨-, -, -, -, -, c5, c6, c7, c8⟩ := rowN h hy
  intro j v hj
  rcases j with _ | _ | _ | _ | j
  · cases hj; exact c5
  · cases hj; exact c6
  · cases hj; exact c7
  · cases hj; exact c8
  · simp at hj

set_option maxRecDepth 4000 in
set_option maxHeartbeats 2000000 in
theorem markNS (b n cap : Nat) (k0 : Int) (w : World) (hth : w.there b 0 (n * 9)) (hN : Nils w b n) (hb : b < w.heap.size) (hn : n ≤ 1048576) (h0 : 0 ≤ k0) (h1 : k0 ≤ 10000000000) :
    Calls Tryz.prog 28 #[.slice (some ⟨b, 0, none⟩) n cap, .int .i64 k0] w fun e w' => e = .returned (.int .i64 (k0 + 5 * (n : Int))) ∧ Mt.RowsAt w' b 0 (marksN k0 n) ∧ Ex b w w' := by
  go_enter Tryz.func28, Tryz.ntmps28
  go_wp2
  go_loopw [1, 5] (fun q i wx => ∃ (m : Nat) (kk : Int), m ≤ n ∧ i = .int .i64 m ∧ q = .int .i64 kk ∧ kk = k0 + 5 * (m : Int) ∧ Mt.RowsAt wx b 0 (marksN k0 m) ∧ Nils wx b n ∧ wx.there b 0 (n * 9) ∧ Ex b w wx) (fun _ i _ => n - (intOf i).toNat)
  case atStart => exact ⟨0, k0, Nat.zero_le _, rfl, rfl, by simp, fun k r h => by simp [marksN] at h, hN, hth, Ex.refl _ _⟩
  case round =>
    obtain ⟨m, kk, hm, rfl, rfl, hkk, hrows, hN1, ht, hE⟩ := hrel
    have Hk : Hid _ := hkk
    have k1 : 0 ≤ kk := by omega
    have k2 : kk ≤ 100000000000 := by omega
    clear hkk
    have bz : b < wr.heap.size := Nat.lt_of_lt_of_le hb hE.size
    have Hr : Hid (Mt.RowsAt wr b 0 (marksN k0 m)) := hrows
    have HN : Hid (Nils wr b n) := hN1
    have Ht : Hid (wr.there b 0 (n * 9)) := ht
    have He : Hid (Ex b w wr) := hE
    clear hrows hN1 ht hE hN
    by_cases hlt : m < n
    · go_wp2_with fail
      refine (markText_any kk (by omega) _).mono ?_
      rintro e w1 ⟨rfl, b1⟩
      have t1 := there_keep2 Ht.out bz b1
      have n1 := HN.out.keep bz b1
      obtain ⟨⟨v0, c0⟩, f0⟩ := row_cellsN t1 hlt 0 (by omega)
      obtain ⟨⟨v1, c1⟩, f1⟩ := row_cellsN t1 hlt 1 (by omega)
      obtain ⟨⟨v2, c2⟩, f2⟩ := row_cellsN t1 hlt 2 (by omega)
      obtain ⟨⟨v3, c3⟩, f3⟩ := row_cellsN t1 hlt 3 (by omega)
      obtain ⟨⟨v4, c4⟩, f4⟩ := row_cellsN t1 hlt 4 (by omega)
      obtain ⟨c5, c6, c7, c8⟩ := n1.at hlt
      simp only [Nat.add_zero] at c0 f0
      have W2 : World.setCells w1 b (m * 9) [.string (markB kk), .bool ((kk + 1) % 3 == 0), .int .i64 (kk + 1 + 1), .bool ((kk + 1 + 1 + 1) % 3 == 0), .int .i64 (kk + 1 + 1 + 1 + 1)] = (((((w1.setCell { block := b, off := m * 9 } (.string (markB kk))).setCell { block := b, off := m * 9 + 1 } (.bool ((kk + 1) % 3 == 0))).setCell { block := b, off := m * 9 + 2 } (.int .i64 (kk + 1 + 1))).setCell { block := b, off := m * 9 + 3 } (.bool ((kk + 1 + 1 + 1) % 3 == 0))).setCell { block := b, off := m * 9 + 4 } (.int .i64 (kk + 1 + 1 + 1 + 1))) := rfl
      have r1 : (World.setCells w1 b (m * 9) [.string (markB kk), .bool ((kk + 1) % 3 == 0), .int .i64 (kk + 1 + 1), .bool ((kk + 1 + 1 + 1) % 3 == 0), .int .i64 (kk + 1 + 1 + 1 + 1)]).rangeAt b (m * 9) [.string (markB kk), .bool ((kk + 1) % 3 == 0), .int .i64 (kk + 1 + 1), .bool ((kk + 1 + 1 + 1) % 3 == 0), .int .i64 (kk + 1 + 1 + 1 + 1)] := World.rangeAt_setCells_same w1 b (m * 9) _ (fun j hj => partN t1 hlt j (by simp at hj; omega))
      have t2 := World.there_setCells t1 b (m * 9) [.string (markB kk), .bool ((kk + 1) % 3 == 0), .int .i64 (kk + 1 + 1), .bool ((kk + 1 + 1 + 1) % 3 == 0), .int .i64 (kk + 1 + 1 + 1 + 1)]
      have e1 : Ex b w (World.setCells w1 b (m * 9) [.string (markB kk), .bool ((kk + 1) % 3 == 0), .int .i64 (kk + 1 + 1), .bool ((kk + 1 + 1 + 1) % 3 == 0), .int .i64 (kk + 1 + 1 + 1 + 1)]) := (He.out.trans (Ex.of_below b1)).cells _ _
      have q1 : Mt.RowsAt (World.setCells w1 b (m * 9) [.string (markB kk), .bool ((kk + 1) % 3 == 0), .int .i64 (kk + 1 + 1), .bool ((kk + 1 + 1 + 1) % 3 == 0), .int .i64 (kk + 1 + 1 + 1 + 1)]) b 0 (marksN k0 m) := rows_apartN (Hr.out.keep bz b1) (m * 9) (by rw [len_marksN]; omega) _
      have n2 := n1.set m [.string (markB kk), .bool ((kk + 1) % 3 == 0), .int .i64 (kk + 1 + 1), .bool ((kk + 1 + 1 + 1) % 3 == 0), .int .i64 (kk + 1 + 1 + 1 + 1)] rfl
      have q2 := rows_snocN Hk.out q1 (range_append r1 (n2 m hlt))
      rw [W2] at t2 e1 q2 n2
      have T2 : Hid _ := t2
      have E2 : Hid _ := e1
      have Q2 : Hid _ := q2
      have N2 : Hid _ := n2
      clear W2 r1 t2 e1 q1 q2 n2 n1 t1 Ht HN Hr He b1 bz
      go_wp2_with fail
      refine (W.mark_zero _ _ _ _).mono ?_
      rintro e w9 ⟨rfl, rfl⟩
      go_wp2_with fail
      refine (mark_zero _ _ _ _).mono ?_
      rintro e w9 ⟨rfl, rfl⟩
      go_wp2_with fail
      refine (A.mark_zero _ _ _ _).mono ?_
      rintro e w9 ⟨rfl, rfl⟩
      go_wp2_with fail
      refine (A.mark_zero _ _ _ _).mono ?_
      rintro e w9 ⟨rfl, rfl⟩
      go_wp2
      exact ⟨⟨m + 1, _, by omega, by go_num, rfl, by have := Hk.out; omega, Q2.out, N2.out, T2.out, E2.out⟩, by simp [intOf]; omega⟩
    · go_wp2
      go_ret
      have hmn : m = n := by omega
      subst hmn
      exact ⟨by rw [← Hk.out]; rfl, Hr.out, He.out⟩
theorem markMateS0 (a : Option Addr) (c : Nat) (k : Int) (w : World) : Calls Tryz.prog 28 #[.slice a 0 c, .int .i64 k] w fun e w' => e = .returned (.int .i64 k) ∧ w' = w := by
  go_enter Tryz.func28, Tryz.ntmps28
  go_wp2
  refine wp_loop_rounds 1 ?_
  rw [rounds_succ]
  go_wp2
  go_ret
  exact ⟨rfl, rfl⟩

theorem heldMateS0 (a : Option Addr) (c : Nat) (k : Int) (w : World) : Calls Tryz.prog 30 #[.slice a 0 c, .int .i64 k] w fun e w' => e = .returned (.int .i64 k) ∧ w' = w := by
  go_enter Tryz.func30, Tryz.ntmps30
  go_wp2
  refine wp_loop_rounds 1 ?_
  rw [rounds_succ]
  go_wp2
  go_ret
  exact ⟨rfl, rfl⟩

set_option maxRecDepth 4000 in
set_option maxHeartbeats 1000000 in
theorem markTx (b n cap : Nat) (k0 : Int) (w : World) (hth : w.there b 0 n) (hb : b < w.heap.size) (hn : n ≤ 1048576) (h0 : 0 ≤ k0) (h1 : k0 ≤ 10000000000) :
    Calls Tryz.prog 13 #[.slice (some ⟨b, 0, none⟩) n cap, .int .i64 k0] w fun e w' => e = .returned (.int .i64 (k0 + (n : Int))) ∧ Ex b w w' := by
  go_enter Tryz.func13, Tryz.ntmps13
  go_wp2
  go_loopw [1, 5] (fun q i wx => ∃ (m : Nat) (kk : Int), m ≤ n ∧ i = .int .i64 m ∧ q = .int .i64 kk ∧ kk = k0 + (m : Int) ∧ wx.there b 0 n ∧ Ex b w wx) (fun _ i _ => n - (intOf i).toNat)
  case atStart => exact ⟨0, k0, Nat.zero_le _, rfl, rfl, by simp, hth, Ex.refl _ _⟩
  case round =>
    obtain ⟨m, kk, hm, rfl, rfl, hkk, ht, hE⟩ := hrel
    have Hk : Hid _ := hkk
    have k1 : 0 ≤ kk := by omega
    have k2 : kk ≤ 100000000000 := by omega
    clear hkk
    have bz : b < wr.heap.size := Nat.lt_of_lt_of_le hb hE.size
    have Ht : Hid (wr.there b 0 n) := ht
    have He : Hid (Ex b w wr) := hE
    clear ht hE hth
    by_cases hlt : m < n
    · go_wp2_with fail
      refine (markText_any kk (by omega) _).mono ?_
      rintro e w1 ⟨rfl, b1⟩
      have t1 := there_keep2 Ht.out bz b1
      have tm := t1 m hlt
      rw [Nat.zero_add] at tm
      obtain ⟨v0, c0⟩ := Option.isSome_iff_exists.1 tm.1
      have f0 := tm.2
      have T1 : Hid _ := World.there_setCells t1 b m [.string (markB kk)]
      have E1 : Hid (Ex b w (World.setCells w1 b m [.string (markB kk)])) := (He.out.trans (Ex.of_below b1)).cells _ _
      clear t1 tm Ht He b1 bz
      go_wp2
      exact ⟨⟨m + 1, _, by omega, by go_num, rfl, by have := Hk.out; omega, T1.out, E1.out⟩, by simp [intOf]; omega⟩
    · go_wp2
      go_ret
      have hmn : m = n := by omega
      subst hmn
      exact ⟨by rw [← Hk.out]; rfl, He.out⟩
/-- A list of marked mates. -/
def SlK (w : World) (v : Value) (n : Nat) (k0 : Int) : Prop := (v = .slice none 0 0 ∧ n = 0) ∨ ∃ g cap, v = .slice (some ⟨g, 0, none⟩) n cap ∧ g < w.heap.size ∧ Mt.RowsAt w g 0 (marksN k0 n)
theorem SlK.keep {w w' : World} {v : Value} {n : Nat} {k0 : Int} (h : SlK w v n k0) (hb : Below w.heap.size w w') : SlK w' v n k0 := by
  rcases h with h | ⟨g, cap, h0, h2, h3⟩
  · exact Or.inl h
  · exact Or.inr ⟨g, cap, h0, Nat.lt_of_lt_of_le h2 hb.size, h3.keep h2 hb⟩
theorem markN_sl {w : World} {v : Value} {xs : List ByteArray} {B : Nat} (h : SlN w v xs B) (k0 : Int) (hl : xs.length ≤ 1048576) (h0 : 0 ≤ k0) (h1 : k0 ≤ 10000000000) :
    Calls Tryz.prog 28 #[v, .int .i64 k0] w fun e w' => e = .returned (.int .i64 (k0 + 5 * (xs.length : Int))) ∧ SlK w' v xs.length k0 ∧ w.grownBy w' v.ownBlock := by
  rcases h with ⟨rfl, rfl⟩ | ⟨g, cap, rfl, a1, a2, a3, a4⟩
  · refine (markMateS0 none 0 k0 w).mono ?_
    rintro e w' ⟨rfl, rfl⟩
    exact ⟨by simp, Or.inl ⟨rfl, rfl⟩, ⟨rfl, rfl, rfl, Nat.le_refl _, fun _ _ _ => rfl⟩⟩
  · refine (markNS g xs.length cap k0 w a4 (nils_new a3) a2 hl h0 h1).mono ?_
    rintro e w' ⟨rfl, b1, b3⟩
    exact ⟨rfl, Or.inr ⟨g, cap, rfl, Nat.lt_of_lt_of_le a2 b3.size, b1⟩, A.ex_grown b3⟩
theorem markLand0 (k : Int) (w : World) : Calls Tryz.prog 27 #[.agg #[.int .i64 0, .slice none 0 0, .slice none 0 0], .int .i64 k] w fun e w' => e = .returned (.int .i64 k) ∧ Below w.heap.size w w' := by
  go_enter Tryz.func27, Tryz.ntmps27
  go_wp2_with fail
  refine (markMateGrantS0 _ _ _ _).mono ?_
  rintro e w1 ⟨rfl, rfl⟩
  go_wp2_with fail
  refine (markMatePlaceS0 _ _ _ _).mono ?_
  rintro e w1 ⟨rfl, rfl⟩
  go_wp2
  go_ret
  exact ⟨rfl, bl_alloc (Below.refl _ _) _⟩
set_option maxRecDepth 4000 in
set_option maxHeartbeats 1000000 in
theorem markWorldN {w : World} {a : Option Addr} {c : Nat} {xs : List ByteArray} {B : Nat} (h : SlN w (.slice a xs.length c) xs B) (hl : xs.length ≤ 1048576) :
    Calls Tryz.prog 14 #[.agg #[.int .i64 0, .slice none 0 0, .slice none 0 0, .slice a xs.length c, .slice none 0 0], .int .i64 1] w fun e w' => e = .returned (.int .i64 (1 + 5 * (xs.length : Int))) ∧ SlK w' (.slice a xs.length c) xs.length 1 ∧ w.grownBy w' (Value.slice a xs.length c).ownBlock := by
  have Hb0 : Hid (Below w.heap.size w (w.alloc (.cells #[.int .i64 0, .slice none 0 0, .slice none 0 0, .slice a xs.length c, .slice none 0 0] 30))) := bl_alloc (Below.refl _ _) _
  have S1 : Hid (SlN (w.alloc (.cells #[.int .i64 0, .slice none 0 0, .slice none 0 0, .slice a xs.length c, .slice none 0 0] 30)) (.slice a xs.length c) xs B) := h.keep Hb0.out
  have L1 : Hid (∀ g, (Value.slice a xs.length c).ownBlock = some g → B ≤ g ∧ g < w.heap.size) := h.lt
  clear h
  go_enter Tryz.func14, Tryz.ntmps14
  go_wp2_with fail
  refine (markLand0 _ _).mono ?_
  rintro e w1 ⟨rfl, d1⟩
  have ka := nw_c d1
  have D1 : Hid (Below w.heap.size w w1) := bl_trans Hb0.out d1
  have U1 : Hid (SlN w1 (.slice a xs.length c) xs B) := S1.out.keep d1
  have Z1 : Hid (w.heap.size < w1.heap.size) := Nat.lt_of_lt_of_le (by simp) d1.size
  clear d1
  go_wp2_with fail
  refine (markN_sl U1.out 1 hl (by omega) (by omega)).mono ?_
  rintro e w2 ⟨he, M, o⟩
  obtain ⟨kk, hkk⟩ : ∃ kk : Int, kk = 1 + 5 * (xs.length : Int) := ⟨_, rfl⟩
  rw [← hkk] at he
  subst he
  have HM : Hid (SlK w2 (.slice a xs.length c) xs.length 1) := M
  have HO : Hid (w1.grownBy w2 (Value.slice a xs.length c).ownBlock) := o
  have ka2 : ∀ k, w2.cell? ⟨w.heap.size, k, none⟩ = (#[.int .i64 0, .slice none 0 0, .slice none 0 0, .slice a xs.length c, .slice none 0 0] : Array Value)[k]? := fun k => (World.cell?_of_block (w := w1) (a := ⟨w.heap.size, k, none⟩) (o.block _ Z1.out (fun e => Nat.lt_irrefl w.heap.size (L1.out w.heap.size e.symm).2))).trans (ka k)
  clear ka M o
  go_wp2_with fail
  refine (markStringS0 _ _ _ _).mono ?_
  rintro e w9 ⟨rfl, rfl⟩
  go_wp2
  go_ret
  have o := HO.out
  exact ⟨rfl, HM.out, ⟨o.os.trans D1.out.os, o.tape.trans D1.out.tape, o.output.trans D1.out.output, Nat.le_trans D1.out.size o.size, fun k hk hne => (o.block k (Nat.lt_of_lt_of_le hk D1.out.size) hne).trans (D1.out.block k hk)⟩⟩
end Go.Proofs.YtdkjhonaafadjaaGreat
/- The marks of a new world are told to be held. -/
namespace Go.Proofs.YtdkjhonaafadjaaGreat
open Go.RowKit
set_option linter.unusedVariables false

theorem marksN_at (k0 kk : Int) (n m : Nat) (hm : m < n) (hk : kk = k0 + 5 * (m : Int)) : (marksN k0 n)[m]? = some (markN kk) := by
  subst hk; simp [marksN, List.getElem?_range hm]
theorem heldKN {x w' : World} {b m : Nat} {kk : Int} {rs : List Mt.MRow} (hk : rs[m]? = some (markN kk)) (h1 : Mt.RowsAt x b 0 rs) (l1 : b < x.heap.size) (hb : Below x.heap.size x w') :
    Below x.heap.size x w' ∧ (w'.cell? ⟨b, m * 9, none⟩ = some (.string (markB kk)) ∧ w'.cell? ⟨b, m * 9 + 1, none⟩ = some (.bool ((kk + 1) % 3 == 0)) ∧ w'.cell? ⟨b, m * 9 + 2, none⟩ = some (.int .i64 (kk + 1 + 1)) ∧ w'.cell? ⟨b, m * 9 + 3, none⟩ = some (.bool ((kk + 1 + 1 + 1) % 3 == 0)) ∧ w'.cell? ⟨b, m * 9 + 4, none⟩ = some (.int .i64 (kk + 1 + 1 + 1 + 1)) ∧ w'.cell? ⟨b, m * 9 + 5, none⟩ = some (.slice none 0 0) ∧ w'.cell? ⟨b, m * 9 + 6, none⟩ = some (.slice none 0 0) ∧ w'.cell? ⟨b, m * 9 + 7, none⟩ = some (.slice none 0 0) ∧ w'.cell? ⟨b, m * 9 + 8, none⟩ = some (.slice none 0 0)) := by
  have := (h1.keep l1 hb).at hk
  rw [Nat.zero_add] at this
  exact ⟨hb, this⟩

set_option maxRecDepth 4000 in
set_option maxHeartbeats 4000000 in
theorem heldNS (b n cap : Nat) (k0 : Int) (w : World) (hR : Mt.RowsAt w b 0 (marksN k0 n)) (hb : b < w.heap.size) (hn : n ≤ 1048576) (h0 : 0 ≤ k0) (h1 : k0 ≤ 10000000000) :
    Calls Tryz.prog 30 #[.slice (some ⟨b, 0, none⟩) n cap, .int .i64 k0] w fun e w' => e = .returned (.int .i64 (k0 + 5 * (n : Int))) ∧ Below w.heap.size w w' := by
  go_enter Tryz.func30, Tryz.ntmps30
  go_wp2
  go_loopw [1, 5] (fun q i wx => ∃ (m : Nat) (kk : Int), m ≤ n ∧ i = .int .i64 m ∧ q = .int .i64 kk ∧ kk = k0 + 5 * (m : Int) ∧ Below w.heap.size w wx) (fun _ i _ => n - (intOf i).toNat)
  case atStart => exact ⟨0, k0, Nat.zero_le _, rfl, rfl, by simp, Below.refl _ _⟩
  case round =>
    obtain ⟨m, kk, hm, rfl, rfl, hkk, hB⟩ := hrel
    have Hk : Hid _ := hkk
    have k1 : 0 ≤ kk := by omega
    have k2 : kk ≤ 100000000000 := by omega
    clear hkk
    have bz : b < wr.heap.size := Nat.lt_of_lt_of_le hb hB.size
    by_cases hlt : m < n
    · have Hr : Hid _ := marksN_at k0 kk n m hlt Hk.out
      have g1 := hR.keep hb hB
      have i0 : (0 : Int) ≤ (m : Int) := by omega
      have i1 : (m : Int) < (n : Int) := by omega
      go_wp2_with fail
      go_region_held3 (fun w' => Below wr.heap.size wr w' ∧ (w'.cell? ⟨b, m * 9, none⟩ = some (.string (markB kk)) ∧ w'.cell? ⟨b, m * 9 + 1, none⟩ = some (.bool ((kk + 1) % 3 == 0)) ∧ w'.cell? ⟨b, m * 9 + 2, none⟩ = some (.int .i64 (kk + 1 + 1)) ∧ w'.cell? ⟨b, m * 9 + 3, none⟩ = some (.bool ((kk + 1 + 1 + 1) % 3 == 0)) ∧ w'.cell? ⟨b, m * 9 + 4, none⟩ = some (.int .i64 (kk + 1 + 1 + 1 + 1)) ∧ w'.cell? ⟨b, m * 9 + 5, none⟩ = some (.slice none 0 0) ∧ w'.cell? ⟨b, m * 9 + 6, none⟩ = some (.slice none 0 0) ∧ w'.cell? ⟨b, m * 9 + 7, none⟩ = some (.slice none 0 0) ∧ w'.cell? ⟨b, m * 9 + 8, none⟩ = some (.slice none 0 0)))
        (first | exact heldKN Hr.out g1 bz (bl_drew (Below.refl _ _)) | exact heldKN Hr.out g1 bz (bl_trans (bl_drew (Below.refl _ _)) hx))
        (first | (go_at_call 26; refine (markText_any _ (by omega) _).mono ?_; rintro e w' ⟨rfl, hx⟩))
      have y1 : Below wr.heap.size wr w' := bl_trans (bl_drew (Below.refl _ _)) hx
      have hB2 : Hid (Below w.heap.size w w') := bl_trans hB y1
      obtain ⟨c0, c1, c2, c3, c4, c5, c6, c7, c8⟩ := (heldKN Hr.out g1 bz y1).2
      clear g1 bz hB y1 hx
      obtain ⟨w2, rfl⟩ : ∃ w2 : World, w2 = w' := ⟨_, rfl⟩
      go_wp2_with fail
      refine (W.held_zero _ _ _ _).mono ?_
      rintro e w9 ⟨rfl, rfl⟩
      go_wp2_with fail
      refine (held_zero _ _ _ _).mono ?_
      rintro e w9 ⟨rfl, rfl⟩
      go_wp2_with fail
      refine (A.held_zero _ _ _ _).mono ?_
      rintro e w9 ⟨rfl, rfl⟩
      go_wp2_with fail
      refine (A.held_zero _ _ _ _).mono ?_
      rintro e w9 ⟨rfl, rfl⟩
      go_wp2
      exact ⟨⟨m + 1, _, by omega, by go_num, rfl, by have := Hk.out; omega, hB2.out⟩, by simp [intOf]; omega⟩
    · go_wp2
      go_ret
      have hmn : m = n := by omega
      subst hmn
      exact ⟨by rw [← Hk.out]; rfl, hB⟩
theorem heldN_sl {w : World} {v : Value} {n : Nat} (k0 : Int) (h : SlK w v n k0) (hl : n ≤ 1048576) (h0 : 0 ≤ k0) (h1 : k0 ≤ 10000000000) :
    Calls Tryz.prog 30 #[v, .int .i64 k0] w fun e w' => e = .returned (.int .i64 (k0 + 5 * (n : Int))) ∧ Below w.heap.size w w' := by
  rcases h with ⟨rfl, rfl⟩ | ⟨g, cap, rfl, a2, a3⟩
  · refine (heldMateS0 none 0 k0 w).mono ?_
    rintro e w' ⟨rfl, rfl⟩
    exact ⟨by simp, Below.refl _ _⟩
  · exact heldNS g n cap k0 w a3 a2 hl h0 h1
theorem heldLand0 (k : Int) (w : World) (hk : 0 ≤ k) : Calls Tryz.prog 29 #[.agg #[.int .i64 0, .slice none 0 0, .slice none 0 0], .int .i64 k] w fun e w' => e = .returned (.int .i64 k) ∧ Below w.heap.size w w' := by
  go_enter Tryz.func29, Tryz.ntmps29
  go_wp2_with fail
  refine (heldMateGrantS0 _ _ _ _).mono ?_
  rintro e w1 ⟨rfl, rfl⟩
  go_wp2_with fail
  refine (heldMatePlaceS0 _ _ _ _).mono ?_
  rintro e w1 ⟨rfl, rfl⟩
  go_wp2
  go_ret
  exact ⟨rfl, bl_alloc (Below.refl _ _) _⟩
set_option maxRecDepth 4000 in
set_option maxHeartbeats 1000000 in
theorem heldWorldN {w : World} {a : Option Addr} {c n : Nat} (h : SlK w (.slice a n c) n 1) (hl : n ≤ 1048576) :
    Calls Tryz.prog 15 #[.agg #[.int .i64 0, .slice none 0 0, .slice none 0 0, .slice a n c, .slice none 0 0], .int .i64 1] w fun e w' => e = .returned (.int .i64 (1 + 5 * (n : Int))) ∧ Below w.heap.size w w' := by
  have Hb0 : Hid (Below w.heap.size w (w.alloc (.cells #[.int .i64 0, .slice none 0 0, .slice none 0 0, .slice a n c, .slice none 0 0] 30))) := bl_alloc (Below.refl _ _) _
  have S1 : Hid (SlK (w.alloc (.cells #[.int .i64 0, .slice none 0 0, .slice none 0 0, .slice a n c, .slice none 0 0] 30)) (.slice a n c) n 1) := h.keep Hb0.out
  clear h
  go_enter Tryz.func15, Tryz.ntmps15
  go_wp2_with fail
  refine (heldLand0 _ _ (by omega)).mono ?_
  rintro e w1 ⟨rfl, d1⟩
  have ka := nw_c d1
  have D1 : Hid (Below w.heap.size w w1) := bl_trans Hb0.out d1
  have U1 : Hid (SlK w1 (.slice a n c) n 1) := S1.out.keep d1
  have K1 : Hid _ := d1
  clear d1
  go_wp2_with fail
  refine (heldN_sl 1 U1.out hl (by omega) (by omega)).mono ?_
  rintro e w2 ⟨he, d2⟩
  obtain ⟨kk, hkk⟩ : ∃ kk : Int, kk = 1 + 5 * (n : Int) := ⟨_, rfl⟩
  rw [← hkk] at he
  subst he
  have k0 : 0 ≤ kk := by omega
  have Hkk : Hid (kk = 1 + 5 * (n : Int)) := hkk
  clear ka hkk
  have ka := nw_c (bl_trans K1.out d2)
  have D2 : Hid (Below w.heap.size w w2) := bl_trans D1.out d2
  clear d2
  go_wp2_with fail
  refine (heldStringS0 _ _ _ _).mono ?_
  rintro e w9 ⟨rfl, rfl⟩
  go_wp2
  go_ret
  exact ⟨by rw [← Hkk.out]; rfl, D2.out⟩
end Go.Proofs.YtdkjhonaafadjaaGreat
/- MateWorldOk: the program's side. -/
namespace Go.Proofs.YtdkjhonaafadjaaGreat
open Go.RowKit
set_option linter.unusedVariables false

theorem landOk_any (t : Int) (gs : List G.GrantD) (ps : List P.PlaceD) (rs : List Mt.MRow) (fs : List ByteArray) (b1 b2 b3 b4 B : Nat) (w : World) (hA : WorldAt w gs ps rs fs b1 b2 b3 b4 B) (hF : WorldFit gs ps rs fs) :
    Calls Tryz.prog 40 #[.agg #[.int .i64 t, .slice (some ⟨b1, 0, none⟩) gs.length gs.length, .slice (some ⟨b2, 0, none⟩) ps.length ps.length, .slice (some ⟨b3, 0, none⟩) rs.length rs.length, .slice (some ⟨b4, 0, none⟩) fs.length fs.length]] w fun e w' => (∃ q : Bool, e = .returned (.bool q) ∧ (q = true ↔ P.LandSay t gs ps)) ∧ Below w.heap.size w w' := by
  have Hb0 : Hid (Below w.heap.size w (w.alloc (.cells #[.int .i64 t, .slice (some ⟨b1, 0, none⟩) gs.length gs.length, .slice (some ⟨b2, 0, none⟩) ps.length ps.length, .slice (some ⟨b3, 0, none⟩) rs.length rs.length, .slice (some ⟨b4, 0, none⟩) fs.length fs.length] 30))) := bl_alloc (Below.refl _ _) _
  have HA : Hid (WorldAt (w.alloc (.cells #[.int .i64 t, .slice (some ⟨b1, 0, none⟩) gs.length gs.length, .slice (some ⟨b2, 0, none⟩) ps.length ps.length, .slice (some ⟨b3, 0, none⟩) rs.length rs.length, .slice (some ⟨b4, 0, none⟩) fs.length fs.length] 30)) gs ps rs fs b1 b2 b3 b4 B) := hA.keep Hb0.out
  have HF : Hid (WorldFit gs ps rs fs) := hF
  clear hA hF
  go_enter Tryz.func40, Tryz.ntmps40
  go_wp2_with fail
  refine (P.implLandOk t gs ps b1 b2 _ HA.out.a.a HF.out.f).mono ?_
  rintro e w1 ⟨⟨q, rfl, h⟩, c1⟩
  have H1 : Hid (P.SaysL q t gs ps) := h
  have C1 : Hid (Below (w.alloc (.cells #[.int .i64 t, .slice (some ⟨b1, 0, none⟩) gs.length gs.length, .slice (some ⟨b2, 0, none⟩) ps.length ps.length, .slice (some ⟨b3, 0, none⟩) rs.length rs.length, .slice (some ⟨b4, 0, none⟩) fs.length fs.length] 30)).heap.size (w.alloc (.cells #[.int .i64 t, .slice (some ⟨b1, 0, none⟩) gs.length gs.length, .slice (some ⟨b2, 0, none⟩) ps.length ps.length, .slice (some ⟨b3, 0, none⟩) rs.length rs.length, .slice (some ⟨b4, 0, none⟩) fs.length fs.length] 30)) w1) := c1
  clear h c1
  go_wp2
  go_ret
  exact ⟨⟨q, rfl, H1.out⟩, bl_trans Hb0.out C1.out⟩
theorem flightOk_any (t : Int) (gs : List G.GrantD) (ps : List P.PlaceD) (rs : List Mt.MRow) (fs : List ByteArray) (b1 b2 b3 b4 B : Nat) (w : World) (hA : WorldAt w gs ps rs fs b1 b2 b3 b4 B) (hF : WorldFit gs ps rs fs) :
    Calls Tryz.prog 42 #[.agg #[.int .i64 t, .slice (some ⟨b1, 0, none⟩) gs.length gs.length, .slice (some ⟨b2, 0, none⟩) ps.length ps.length, .slice (some ⟨b3, 0, none⟩) rs.length rs.length, .slice (some ⟨b4, 0, none⟩) fs.length fs.length]] w fun e w' => (∃ q : Bool, e = .returned (.bool q) ∧ (q = true ↔ fs.length ≤ 300)) ∧ Below w.heap.size w w' := by
  have h4 := hF.l4
  clear hA hF
  by_cases h : fs.length ≤ 300
  · have h' : (fs.length : Int) ≤ 300 := by omega
    go_enter Tryz.func42, Tryz.ntmps42
    go_wp2
    go_ret
    exact ⟨⟨true, rfl, ⟨fun _ => h, fun _ => rfl⟩⟩, bl_alloc (Below.refl _ _) _⟩
  · have h' : ((fs.length : Int) ≤ 300) = False := by simp; omega
    go_enter Tryz.func42, Tryz.ntmps42
    go_wp2
    go_ret
    exact ⟨⟨false, rfl, ⟨fun h' => (by cases h'), fun h' => (h h').elim⟩⟩, bl_alloc (Below.refl _ _) _⟩
open Classical in
noncomputable def validB (r : Mt.MRow) : Bool := decide (Valid r.m)
theorem validB_iff {r : Mt.MRow} : validB r = true ↔ Valid r.m := by unfold validB; simp
theorem implValid_b {B : Nat} (r : Mt.MRow) (w : World) (hb : ∃ g1 g2 g3 g4, r.blk B w g1 g2 g3 g4) (hf : r.m.fits) :
    Calls Tryz.prog 84 #[.agg #[.string r.m.nm, .bool r.m.up, .int .i64 r.m.ck, .bool r.m.kn, .int .i64 r.m.se, .slice r.a1 r.m.ws.length r.c1, .slice r.a2 r.m.rs.length r.c2, .slice r.a3 r.m.qs.length r.c3, .slice r.a4 r.m.gs.length r.c4]] w fun e w' => e = .returned (.bool (validB r)) ∧ Below w.heap.size w w' := by
  obtain ⟨g1, g2, g3, g4, h⟩ := hb
  have x1 := h.e1; have x2 := h.e2; have x3 := h.e3; have x4 := h.e4
  have t1 := h.f1; have t2 := h.f2; have t3 := h.f3; have t4 := h.f4
  rw [x1, x2, x3, x4, t1, t2, t3, t4]
  refine (implValid r.m g1 g2 g3 g4 w h.l hf).mono ?_
  rintro e w' ⟨⟨q, rfl, hq⟩, hb⟩
  refine ⟨?_, hb⟩
  have : q = validB r := by
    cases q
    · cases hv : validB r
      · rfl
      · have := hq.2 (validB_iff.1 hv); cases this
    · exact (validB_iff.2 (hq.1 rfl)).symm
  rw [this]

set_option maxRecDepth 4000 in
set_option maxHeartbeats 2000000 in
theorem matesOk_any (t : Int) (gs : List G.GrantD) (ps : List P.PlaceD) (rs : List Mt.MRow) (fs : List ByteArray) (b1 b2 b3 b4 B : Nat) (w : World) (hA : WorldAt w gs ps rs fs b1 b2 b3 b4 B) (hF : WorldFit gs ps rs fs) :
    Calls Tryz.prog 41 #[.agg #[.int .i64 t, .slice (some ⟨b1, 0, none⟩) gs.length gs.length, .slice (some ⟨b2, 0, none⟩) ps.length ps.length, .slice (some ⟨b3, 0, none⟩) rs.length rs.length, .slice (some ⟨b4, 0, none⟩) fs.length fs.length]] w fun e w' => (∃ q : Bool, e = .returned (.bool q) ∧ (q = true ↔ (1 ≤ rs.length ∧ rs.length ≤ 4) ∧ MatesSay (rs.map Mt.MRow.m))) ∧ Below w.heap.size w w' := by
  have Hb0 : Hid (Below w.heap.size w (w.alloc (.cells #[.int .i64 t, .slice (some ⟨b1, 0, none⟩) gs.length gs.length, .slice (some ⟨b2, 0, none⟩) ps.length ps.length, .slice (some ⟨b3, 0, none⟩) rs.length rs.length, .slice (some ⟨b4, 0, none⟩) fs.length fs.length] 30))) := bl_alloc (Below.refl _ _) _
  have HA : Hid (WorldAt (w.alloc (.cells #[.int .i64 t, .slice (some ⟨b1, 0, none⟩) gs.length gs.length, .slice (some ⟨b2, 0, none⟩) ps.length ps.length, .slice (some ⟨b3, 0, none⟩) rs.length rs.length, .slice (some ⟨b4, 0, none⟩) fs.length fs.length] 30)) gs ps rs fs b1 b2 b3 b4 B) := hA.keep Hb0.out
  have HF : Hid (WorldFit gs ps rs fs) := hF
  have hl3 := hF.l3
  clear hA hF
  cases hin : inB (rs.length : Int) 1 4
  · go_enter Tryz.func41, Tryz.ntmps41
    go_wp2_with (go_at_call 81; refine (within_any _ _ _ _).mono ?_; rintro e w' ⟨rfl, hw⟩; have hw2 := hw.symm; subst hw2; clear hw)
    go_ret
    exact ⟨⟨false, rfl, ⟨fun h' => (by cases h'), fun h => by rw [inB_len.2 h.1] at hin; cases hin⟩⟩, Hb0.out⟩
  have G2 : Hid (1 ≤ rs.length ∧ rs.length ≤ 4) := inB_len.1 hin
  go_enter Tryz.func41, Tryz.ntmps41
  go_wp2_with (go_at_call 81; refine (within_any _ _ _ _).mono ?_; rintro e w' ⟨rfl, hw⟩; have hw2 := hw.symm; subst hw2; clear hw)
  refine (Mt.ascends b3 0 _ rs _ HA.out.m.r HA.out.m.l hl3).mono ?_
  rintro e w1 ⟨⟨q, rfl, h⟩, c1⟩
  have H1 : Hid (q = true ↔ Mt.AscN rs rs.length) := h
  have C1 : Hid (Below (w.alloc (.cells #[.int .i64 t, .slice (some ⟨b1, 0, none⟩) gs.length gs.length, .slice (some ⟨b2, 0, none⟩) ps.length ps.length, .slice (some ⟨b3, 0, none⟩) rs.length rs.length, .slice (some ⟨b4, 0, none⟩) fs.length fs.length] 30)).heap.size (w.alloc (.cells #[.int .i64 t, .slice (some ⟨b1, 0, none⟩) gs.length gs.length, .slice (some ⟨b2, 0, none⟩) ps.length ps.length, .slice (some ⟨b3, 0, none⟩) rs.length rs.length, .slice (some ⟨b4, 0, none⟩) fs.length fs.length] 30)) w1) := c1
  have kb := wd_box c1
  have HM : Hid (MatesOwn w1 rs b3 B) := HA.out.m.keep c1
  clear h c1
  cases q
  · go_wp2_with fail
    go_ret
    exact ⟨⟨false, rfl, ⟨fun h' => (by cases h'), fun h => by have := H1.out.2 (ascN_iff.2 h.2.1); cases this⟩⟩, bl_trans Hb0.out C1.out⟩
  have G1 : Hid (AscM (rs.map Mt.MRow.m)) := ascN_iff.1 (H1.out.1 rfl)
  clear H1
  go_wp2_with fail
  refine (Mt.allOk validB b3 0 _ rs _ HM.out.r HM.out.l hl3 (fun r hr x hx => implValid_b (B := B) r x ((HM.out.keep hx).k r hr) (HF.out.m r hr))).mono ?_
  rintro e w2 ⟨⟨q, rfl, h⟩, c2⟩
  have H2 : Hid (q = true ↔ ∀ r ∈ rs, validB r = true) := h
  have C2 : Hid (Below w.heap.size w w2) := bl_trans Hb0.out (bl_trans C1.out c2)
  clear h c2 kb
  have H3 : Hid (q = true ↔ (1 ≤ rs.length ∧ rs.length ≤ 4) ∧ MatesSay (rs.map Mt.MRow.m)) := by
    refine H2.out.trans ⟨fun h => ⟨G2.out, G1.out, fun m hm => ?_⟩, fun h r hr => validB_iff.2 (h.2.2 r.m (List.mem_map_of_mem hr))⟩
    obtain ⟨r, hr, rfl⟩ := List.mem_map.1 hm
    exact validB_iff.1 (h r hr)
  clear H2
  go_wp2
  go_ret
  exact ⟨⟨q, rfl, H3.out⟩, C2.out⟩

theorem build_world (w : World) : Sem.run Tryz.prog (Instr.buildSlice 66 3 #[(0, .func (.func 40) #[] #[]), (1, .func (.func 41) #[] #[]), (2, .func (.func 42) #[] #[])]) w = .ok (.slice (some ⟨w.heap.size, 0, none⟩) 3 3) (w.alloc (.cells #[.func (.func 40) #[] #[], .func (.func 41) #[] #[], .func (.func 42) #[] #[]] 45)) := by kernel_rfl
theorem three_world {w w' : World} {t : Int} {gs : List G.GrantD} {ps : List P.PlaceD} {rs : List Mt.MRow} {fs : List ByteArray} {b1 b2 b3 b4 : Nat} (hb : Below (((w.alloc (.cells #[.int .i64 t, .slice (some ⟨b1, 0, none⟩) gs.length gs.length, .slice (some ⟨b2, 0, none⟩) ps.length ps.length, .slice (some ⟨b3, 0, none⟩) rs.length rs.length, .slice (some ⟨b4, 0, none⟩) fs.length fs.length] 30)).alloc (.cells #[.func (.func 40) #[] #[], .func (.func 41) #[] #[], .func (.func 42) #[] #[]] 45)).alloc (.cells #[.int .i64 t, .slice (some ⟨b1, 0, none⟩) gs.length gs.length, .slice (some ⟨b2, 0, none⟩) ps.length ps.length, .slice (some ⟨b3, 0, none⟩) rs.length rs.length, .slice (some ⟨b4, 0, none⟩) fs.length fs.length] 30)).heap.size (((w.alloc (.cells #[.int .i64 t, .slice (some ⟨b1, 0, none⟩) gs.length gs.length, .slice (some ⟨b2, 0, none⟩) ps.length ps.length, .slice (some ⟨b3, 0, none⟩) rs.length rs.length, .slice (some ⟨b4, 0, none⟩) fs.length fs.length] 30)).alloc (.cells #[.func (.func 40) #[] #[], .func (.func 41) #[] #[], .func (.func 42) #[] #[]] 45)).alloc (.cells #[.int .i64 t, .slice (some ⟨b1, 0, none⟩) gs.length gs.length, .slice (some ⟨b2, 0, none⟩) ps.length ps.length, .slice (some ⟨b3, 0, none⟩) rs.length rs.length, .slice (some ⟨b4, 0, none⟩) fs.length fs.length] 30)) w') :
    (∀ k, w'.cell? ⟨w.heap.size + 1, k, none⟩ = (#[.func (.func 40) #[] #[], .func (.func 41) #[] #[], .func (.func 42) #[] #[]] : Array Value)[k]?) ∧ (∀ k, w'.cell? ⟨w.heap.size + 1 + 1, k, none⟩ = (#[.int .i64 t, .slice (some ⟨b1, 0, none⟩) gs.length gs.length, .slice (some ⟨b2, 0, none⟩) ps.length ps.length, .slice (some ⟨b3, 0, none⟩) rs.length rs.length, .slice (some ⟨b4, 0, none⟩) fs.length fs.length] : Array Value)[k]?) := by
  constructor
  · intro k
    rw [hb.cell (p := ⟨w.heap.size + 1, k, none⟩) (by simp)]
    simp [go_sem, World.cell?_alloc_past]
  · intro k
    rw [hb.cell (p := ⟨w.heap.size + 1 + 1, k, none⟩) (by simp)]
    simp [go_sem]

set_option maxRecDepth 4000 in
set_option maxHeartbeats 2000000 in
theorem implWorldOk (t : Int) (gs : List G.GrantD) (ps : List P.PlaceD) (rs : List Mt.MRow) (fs : List ByteArray) (b1 b2 b3 b4 B : Nat) (w : World) (hA : WorldAt w gs ps rs fs b1 b2 b3 b4 B) (hF : WorldFit gs ps rs fs) :
    Calls Tryz.prog 19 #[.agg #[.int .i64 t, .slice (some ⟨b1, 0, none⟩) gs.length gs.length, .slice (some ⟨b2, 0, none⟩) ps.length ps.length, .slice (some ⟨b3, 0, none⟩) rs.length rs.length, .slice (some ⟨b4, 0, none⟩) fs.length fs.length]] w fun e w' => (∃ q : Bool, e = .returned (.bool q) ∧ SaysWd q t gs ps (rs.map Mt.MRow.m) fs) ∧ Below w.heap.size w w' := by
  have Hx0 : Hid (Below w.heap.size w (((w.alloc (.cells #[.int .i64 t, .slice (some ⟨b1, 0, none⟩) gs.length gs.length, .slice (some ⟨b2, 0, none⟩) ps.length ps.length, .slice (some ⟨b3, 0, none⟩) rs.length rs.length, .slice (some ⟨b4, 0, none⟩) fs.length fs.length] 30)).alloc (.cells #[.func (.func 40) #[] #[], .func (.func 41) #[] #[], .func (.func 42) #[] #[]] 45)).alloc (.cells #[.int .i64 t, .slice (some ⟨b1, 0, none⟩) gs.length gs.length, .slice (some ⟨b2, 0, none⟩) ps.length ps.length, .slice (some ⟨b3, 0, none⟩) rs.length rs.length, .slice (some ⟨b4, 0, none⟩) fs.length fs.length] 30))) := bl_alloc (bl_alloc (bl_alloc (Below.refl _ _) _) _) _
  have HA0 : Hid (WorldAt (((w.alloc (.cells #[.int .i64 t, .slice (some ⟨b1, 0, none⟩) gs.length gs.length, .slice (some ⟨b2, 0, none⟩) ps.length ps.length, .slice (some ⟨b3, 0, none⟩) rs.length rs.length, .slice (some ⟨b4, 0, none⟩) fs.length fs.length] 30)).alloc (.cells #[.func (.func 40) #[] #[], .func (.func 41) #[] #[], .func (.func 42) #[] #[]] 45)).alloc (.cells #[.int .i64 t, .slice (some ⟨b1, 0, none⟩) gs.length gs.length, .slice (some ⟨b2, 0, none⟩) ps.length ps.length, .slice (some ⟨b3, 0, none⟩) rs.length rs.length, .slice (some ⟨b4, 0, none⟩) fs.length fs.length] 30)) gs ps rs fs b1 b2 b3 b4 B) := hA.keep Hx0.out
  have HF : Hid (WorldFit gs ps rs fs) := hF
  clear hA hF
  have hbv := build_world
  go_enter Tryz.func19, Tryz.ntmps19
  go_wp2_with go_in
  clear hbv
  refine wp_loop_rounds 4 ?_
  rw [rounds_succ]
  go_wp2_with fail
  refine (landOk_any t gs ps rs fs b1 b2 b3 b4 B _ HA0.out HF.out).mono ?_
  rintro e w1 ⟨⟨q1, rfl, h1⟩, c1⟩
  have H1 : Hid (q1 = true ↔ P.LandSay t gs ps) := h1
  have C1 : Hid (Below (((w.alloc (.cells #[.int .i64 t, .slice (some ⟨b1, 0, none⟩) gs.length gs.length, .slice (some ⟨b2, 0, none⟩) ps.length ps.length, .slice (some ⟨b3, 0, none⟩) rs.length rs.length, .slice (some ⟨b4, 0, none⟩) fs.length fs.length] 30)).alloc (.cells #[.func (.func 40) #[] #[], .func (.func 41) #[] #[], .func (.func 42) #[] #[]] 45)).alloc (.cells #[.int .i64 t, .slice (some ⟨b1, 0, none⟩) gs.length gs.length, .slice (some ⟨b2, 0, none⟩) ps.length ps.length, .slice (some ⟨b3, 0, none⟩) rs.length rs.length, .slice (some ⟨b4, 0, none⟩) fs.length fs.length] 30)).heap.size (((w.alloc (.cells #[.int .i64 t, .slice (some ⟨b1, 0, none⟩) gs.length gs.length, .slice (some ⟨b2, 0, none⟩) ps.length ps.length, .slice (some ⟨b3, 0, none⟩) rs.length rs.length, .slice (some ⟨b4, 0, none⟩) fs.length fs.length] 30)).alloc (.cells #[.func (.func 40) #[] #[], .func (.func 41) #[] #[], .func (.func 42) #[] #[]] 45)).alloc (.cells #[.int .i64 t, .slice (some ⟨b1, 0, none⟩) gs.length gs.length, .slice (some ⟨b2, 0, none⟩) ps.length ps.length, .slice (some ⟨b3, 0, none⟩) rs.length rs.length, .slice (some ⟨b4, 0, none⟩) fs.length fs.length] 30)) w1) := c1
  clear h1 c1
  obtain ⟨kf1, km1⟩ := three_world C1.out
  cases q1
  · go_wp2
    go_ret
    exact ⟨⟨false, rfl, saysWd_no (fun h => by have := H1.out.2 h.1; cases this)⟩, bl_trans Hx0.out C1.out⟩
  have G1 : Hid (P.LandSay t gs ps) := H1.out.1 rfl
  clear H1
  have HA1 : Hid (WorldAt w1 gs ps rs fs b1 b2 b3 b4 B) := HA0.out.keep C1.out
  go_wp2_with fail
  rw [rounds_succ]
  go_wp2_with fail
  refine (matesOk_any t gs ps rs fs b1 b2 b3 b4 B _ HA1.out HF.out).mono ?_
  rintro e w2 ⟨⟨q2, rfl, h2⟩, c2⟩
  have H2 : Hid (q2 = true ↔ (1 ≤ rs.length ∧ rs.length ≤ 4) ∧ MatesSay (rs.map Mt.MRow.m)) := h2
  have C2 : Hid (Below (((w.alloc (.cells #[.int .i64 t, .slice (some ⟨b1, 0, none⟩) gs.length gs.length, .slice (some ⟨b2, 0, none⟩) ps.length ps.length, .slice (some ⟨b3, 0, none⟩) rs.length rs.length, .slice (some ⟨b4, 0, none⟩) fs.length fs.length] 30)).alloc (.cells #[.func (.func 40) #[] #[], .func (.func 41) #[] #[], .func (.func 42) #[] #[]] 45)).alloc (.cells #[.int .i64 t, .slice (some ⟨b1, 0, none⟩) gs.length gs.length, .slice (some ⟨b2, 0, none⟩) ps.length ps.length, .slice (some ⟨b3, 0, none⟩) rs.length rs.length, .slice (some ⟨b4, 0, none⟩) fs.length fs.length] 30)).heap.size (((w.alloc (.cells #[.int .i64 t, .slice (some ⟨b1, 0, none⟩) gs.length gs.length, .slice (some ⟨b2, 0, none⟩) ps.length ps.length, .slice (some ⟨b3, 0, none⟩) rs.length rs.length, .slice (some ⟨b4, 0, none⟩) fs.length fs.length] 30)).alloc (.cells #[.func (.func 40) #[] #[], .func (.func 41) #[] #[], .func (.func 42) #[] #[]] 45)).alloc (.cells #[.int .i64 t, .slice (some ⟨b1, 0, none⟩) gs.length gs.length, .slice (some ⟨b2, 0, none⟩) ps.length ps.length, .slice (some ⟨b3, 0, none⟩) rs.length rs.length, .slice (some ⟨b4, 0, none⟩) fs.length fs.length] 30)) w2) := bl_trans C1.out c2
  clear h2 c2 kf1 km1
  obtain ⟨kf2, km2⟩ := three_world C2.out
  cases q2
  · go_wp2
    go_ret
    exact ⟨⟨false, rfl, saysWd_no (fun h => by have := H2.out.2 ⟨by have h2 := h.2.1; rw [List.length_map] at h2; exact h2, h.2.2.2⟩; cases this)⟩, bl_trans Hx0.out C2.out⟩
  have G2 : Hid ((1 ≤ rs.length ∧ rs.length ≤ 4) ∧ MatesSay (rs.map Mt.MRow.m)) := H2.out.1 rfl
  clear H2
  have HA2 : Hid (WorldAt w2 gs ps rs fs b1 b2 b3 b4 B) := HA0.out.keep C2.out
  go_wp2_with fail
  rw [rounds_succ]
  go_wp2_with fail
  refine (flightOk_any t gs ps rs fs b1 b2 b3 b4 B _ HA2.out HF.out).mono ?_
  rintro e w3 ⟨⟨q3, rfl, h3⟩, c3⟩
  have H3 : Hid (q3 = true ↔ fs.length ≤ 300) := h3
  have C3 : Hid (Below (((w.alloc (.cells #[.int .i64 t, .slice (some ⟨b1, 0, none⟩) gs.length gs.length, .slice (some ⟨b2, 0, none⟩) ps.length ps.length, .slice (some ⟨b3, 0, none⟩) rs.length rs.length, .slice (some ⟨b4, 0, none⟩) fs.length fs.length] 30)).alloc (.cells #[.func (.func 40) #[] #[], .func (.func 41) #[] #[], .func (.func 42) #[] #[]] 45)).alloc (.cells #[.int .i64 t, .slice (some ⟨b1, 0, none⟩) gs.length gs.length, .slice (some ⟨b2, 0, none⟩) ps.length ps.length, .slice (some ⟨b3, 0, none⟩) rs.length rs.length, .slice (some ⟨b4, 0, none⟩) fs.length fs.length] 30)).heap.size (((w.alloc (.cells #[.int .i64 t, .slice (some ⟨b1, 0, none⟩) gs.length gs.length, .slice (some ⟨b2, 0, none⟩) ps.length ps.length, .slice (some ⟨b3, 0, none⟩) rs.length rs.length, .slice (some ⟨b4, 0, none⟩) fs.length fs.length] 30)).alloc (.cells #[.func (.func 40) #[] #[], .func (.func 41) #[] #[], .func (.func 42) #[] #[]] 45)).alloc (.cells #[.int .i64 t, .slice (some ⟨b1, 0, none⟩) gs.length gs.length, .slice (some ⟨b2, 0, none⟩) ps.length ps.length, .slice (some ⟨b3, 0, none⟩) rs.length rs.length, .slice (some ⟨b4, 0, none⟩) fs.length fs.length] 30)) w3) := bl_trans C2.out c3
  clear h3 c3 kf2 km2
  obtain ⟨kf3, km3⟩ := three_world C3.out
  cases q3
  · go_wp2
    go_ret
    exact ⟨⟨false, rfl, saysWd_no (fun h => by have := H3.out.2 h.2.2.1; cases this)⟩, bl_trans Hx0.out C3.out⟩
  have G3 : Hid (fs.length ≤ 300) := H3.out.1 rfl
  clear H3
  have HA3 : Hid (WorldAt w3 gs ps rs fs b1 b2 b3 b4 B) := HA0.out.keep C3.out
  go_wp2_with fail
  rw [rounds_succ]
  go_wp2
  go_ret
  exact ⟨⟨true, rfl, ⟨fun _ => ⟨G1.out, by rw [List.length_map]; exact G2.out.1, G3.out, G2.out.2⟩, fun _ => rfl⟩⟩, bl_trans Hx0.out C3.out⟩
end Go.Proofs.YtdkjhonaafadjaaGreat
/- MateWorldOk of a world that is new: the program's side. -/
namespace Go.Proofs.YtdkjhonaafadjaaGreat
open Go.RowKit
set_option linter.unusedVariables false

theorem landOkN (a : Option Addr) (c : Nat) (xs : List ByteArray) (w : World) : Calls Tryz.prog 40 #[.agg #[.int .i64 0, .slice none 0 0, .slice none 0 0, .slice a xs.length c, .slice none 0 0]] w fun e w' => e = .returned (.bool true) ∧ Below w.heap.size w w' := by
  go_enter Tryz.func40, Tryz.ntmps40
  go_wp2_with fail
  refine (P.implLand0 _).mono ?_
  rintro e w1 ⟨rfl, c1⟩
  have C1 : Hid (Below w.heap.size w w1) := bl_trans (by repeat (first | exact Below.refl _ _ | refine bl_alloc ?_ _)) c1
  clear c1
  go_wp2
  go_ret
  exact ⟨rfl, C1.out⟩
theorem flightOkN (a : Option Addr) (c : Nat) (xs : List ByteArray) (w : World) : Calls Tryz.prog 42 #[.agg #[.int .i64 0, .slice none 0 0, .slice none 0 0, .slice a xs.length c, .slice none 0 0]] w fun e w' => e = .returned (.bool true) ∧ Below w.heap.size w w' := by
  go_enter Tryz.func42, Tryz.ntmps42
  go_wp2
  go_ret
  exact ⟨rfl, (by repeat (first | exact Below.refl _ _ | refine bl_alloc ?_ _))⟩
theorem implNew_b (x : ByteArray) (w : World) (hx : x.size ≤ maxLen) :
    Calls Tryz.prog 84 #[.agg #[.string x, .bool true, .int .i64 0, .bool false, .int .i64 0, .slice none 0 0, .slice none 0 0, .slice none 0 0, .slice none 0 0]] w fun e w' => e = .returned (.bool (validB (newRow x))) ∧ Below w.heap.size w w' := by
  refine (implValidX (newM x) none none none none 0 0 0 0 w (lists_new w x) (Nat.le_refl _) (fits_new hx)).mono ?_
  rintro e w' ⟨⟨q, rfl, hq⟩, hb⟩
  refine ⟨?_, hb⟩
  have : q = validB (newRow x) := by
    cases q
    · cases hv : validB (newRow x)
      · rfl
      · have := hq.2 (validB_iff.1 hv); cases this
    · exact (validB_iff.2 (hq.1 rfl)).symm
  rw [this]

set_option maxRecDepth 4000 in
set_option maxHeartbeats 2000000 in
theorem matesOkN (a : Option Addr) (c : Nat) (xs : List ByteArray) (w : World) (hG : GvN w a xs) (hf : ∀ x ∈ xs, x.size ≤ maxLen) (hl : xs.length ≤ 1048576) :
    Calls Tryz.prog 41 #[.agg #[.int .i64 0, .slice none 0 0, .slice none 0 0, .slice a xs.length c, .slice none 0 0]] w fun e w' => (∃ q : Bool, e = .returned (.bool q) ∧ (q = true ↔ NewOk xs)) ∧ Below w.heap.size w w' := by
  have HG : Hid (GvN w a xs) := hG
  have HF : Hid (∀ x ∈ xs, x.size ≤ maxLen) := hf
  clear hG hf
  cases hin : inB (xs.length : Int) 1 4
  · go_enter Tryz.func41, Tryz.ntmps41
    go_wp2_with (go_at_call 81; refine (within_any _ _ _ _).mono ?_; rintro e w' ⟨rfl, hw⟩; have hw2 := hw.symm; subst hw2; clear hw)
    go_ret
    exact ⟨⟨false, rfl, ⟨fun h' => (by cases h'), fun h => by rw [inB_len.2 h.1] at hin; cases hin⟩⟩, (by repeat (first | exact Below.refl _ _ | refine bl_alloc ?_ _))⟩
  have G2 : Hid (1 ≤ xs.length ∧ xs.length ≤ 4) := inB_len.1 hin
  obtain ⟨b3, rfl, hb3, hR3⟩ := HG.out.resolve_left (fun h => by have := G2.out.1; rw [h] at this; simp at this)
  have Hb0 : Hid (Below w.heap.size w (w.alloc (.cells #[.int .i64 0, .slice none 0 0, .slice none 0 0, .slice (some ⟨b3, 0, none⟩) xs.length c, .slice none 0 0] 30))) := bl_alloc (Below.refl _ _) _
  have HR0 : Hid (Mt.RowsAt w b3 0 (xs.map newRow)) := hR3
  clear hR3
  have hasc := Mt.ascends b3 0 c (xs.map newRow) (w.alloc (.cells #[.int .i64 0, .slice none 0 0, .slice none 0 0, .slice (some ⟨b3, 0, none⟩) xs.length c, .slice none 0 0] 30)) (HR0.out.keep hb3 Hb0.out) (Nat.lt_of_lt_of_le hb3 Hb0.out.size) (by rw [List.length_map]; exact hl)
  rw [List.length_map] at hasc
  go_enter Tryz.func41, Tryz.ntmps41
  go_wp2_with (go_at_call 81; refine (within_any _ _ _ _).mono ?_; rintro e w' ⟨rfl, hw⟩; have hw2 := hw.symm; subst hw2; clear hw)
  refine hasc.mono ?_
  clear hasc
  rintro e w1 ⟨⟨q, rfl, h⟩, c1⟩
  have H1 : Hid (q = true ↔ AscM (xs.map newM)) := by
    rw [← map_new, ← ascN_iff, List.length_map]; exact h
  have C1 : Hid (Below (w.alloc (.cells #[.int .i64 0, .slice none 0 0, .slice none 0 0, .slice (some ⟨b3, 0, none⟩) xs.length c, .slice none 0 0] 30)).heap.size (w.alloc (.cells #[.int .i64 0, .slice none 0 0, .slice none 0 0, .slice (some ⟨b3, 0, none⟩) xs.length c, .slice none 0 0] 30)) w1) := c1
  have kb := nw_box c1
  have HR1 : Hid (Mt.RowsAt w1 b3 0 (xs.map newRow)) := HR0.out.keep hb3 (bl_trans Hb0.out c1)
  have hb1 : b3 < w1.heap.size := Nat.lt_of_lt_of_le hb3 (bl_trans Hb0.out c1).size
  clear h c1
  cases q
  · go_wp2_with fail
    go_ret
    exact ⟨⟨false, rfl, ⟨fun h' => (by cases h'), fun h => by have := H1.out.2 h.2.1; cases this⟩⟩, bl_trans Hb0.out C1.out⟩
  have G1 : Hid (AscM (xs.map newM)) := H1.out.1 rfl
  clear H1
  have hall := Mt.allOk validB b3 0 c (xs.map newRow) w1 HR1.out hb1 (by rw [List.length_map]; exact hl) (fun r hr x hx => by
    obtain ⟨y, hy, rfl⟩ := List.mem_map.1 hr
    exact implNew_b y x (HF.out y hy))
  rw [List.length_map] at hall
  go_wp2_with fail
  refine hall.mono ?_
  clear hall
  rintro e w2 ⟨⟨q, rfl, h⟩, c2⟩
  have C2 : Hid (Below w.heap.size w w2) := bl_trans Hb0.out (bl_trans C1.out c2)
  have H3 : Hid (q = true ↔ NewOk xs) := by
    refine h.trans ⟨fun h => ⟨G2.out, G1.out, fun m hm => ?_⟩, fun h r hr => ?_⟩
    · obtain ⟨y, hy, rfl⟩ := List.mem_map.1 hm
      exact validB_iff.1 (h (newRow y) (List.mem_map_of_mem hy))
    · obtain ⟨y, hy, rfl⟩ := List.mem_map.1 hr
      exact validB_iff.2 (h.2.2 (newM y) (List.mem_map_of_mem hy))
  clear h c2 kb
  go_wp2
  go_ret
  exact ⟨⟨q, rfl, H3.out⟩, C2.out⟩
theorem three_new {w w' : World} {xs : List ByteArray} {a : Option Addr} {c : Nat} (hb : Below (((w.alloc (.cells #[.int .i64 0, .slice none 0 0, .slice none 0 0, .slice a xs.length c, .slice none 0 0] 30)).alloc (.cells #[.func (.func 40) #[] #[], .func (.func 41) #[] #[], .func (.func 42) #[] #[]] 45)).alloc (.cells #[.int .i64 0, .slice none 0 0, .slice none 0 0, .slice a xs.length c, .slice none 0 0] 30)).heap.size (((w.alloc (.cells #[.int .i64 0, .slice none 0 0, .slice none 0 0, .slice a xs.length c, .slice none 0 0] 30)).alloc (.cells #[.func (.func 40) #[] #[], .func (.func 41) #[] #[], .func (.func 42) #[] #[]] 45)).alloc (.cells #[.int .i64 0, .slice none 0 0, .slice none 0 0, .slice a xs.length c, .slice none 0 0] 30)) w') :
    (∀ k, w'.cell? ⟨w.heap.size + 1, k, none⟩ = (#[.func (.func 40) #[] #[], .func (.func 41) #[] #[], .func (.func 42) #[] #[]] : Array Value)[k]?) ∧ (∀ k, w'.cell? ⟨w.heap.size + 1 + 1, k, none⟩ = (#[.int .i64 0, .slice none 0 0, .slice none 0 0, .slice a xs.length c, .slice none 0 0] : Array Value)[k]?) := by
  constructor
  · intro k
    rw [hb.cell (p := ⟨w.heap.size + 1, k, none⟩) (by simp)]
    simp [go_sem, World.cell?_alloc_past]
  · intro k
    rw [hb.cell (p := ⟨w.heap.size + 1 + 1, k, none⟩) (by simp)]
    simp [go_sem]

set_option maxRecDepth 4000 in
set_option maxHeartbeats 2000000 in
theorem implWorldNew (a : Option Addr) (c : Nat) (xs : List ByteArray) (w : World) (hG : GvN w a xs) (hf : ∀ x ∈ xs, x.size ≤ maxLen) (hl : xs.length ≤ 1048576) :
    Calls Tryz.prog 19 #[.agg #[.int .i64 0, .slice none 0 0, .slice none 0 0, .slice a xs.length c, .slice none 0 0]] w fun e w' => (∃ q : Bool, e = .returned (.bool q) ∧ (q = true ↔ NewOk xs)) ∧ Below w.heap.size w w' := by
  have Hx0 : Hid (Below w.heap.size w (((w.alloc (.cells #[.int .i64 0, .slice none 0 0, .slice none 0 0, .slice a xs.length c, .slice none 0 0] 30)).alloc (.cells #[.func (.func 40) #[] #[], .func (.func 41) #[] #[], .func (.func 42) #[] #[]] 45)).alloc (.cells #[.int .i64 0, .slice none 0 0, .slice none 0 0, .slice a xs.length c, .slice none 0 0] 30))) := bl_alloc (bl_alloc (bl_alloc (Below.refl _ _) _) _) _
  have HG0 : Hid (GvN (((w.alloc (.cells #[.int .i64 0, .slice none 0 0, .slice none 0 0, .slice a xs.length c, .slice none 0 0] 30)).alloc (.cells #[.func (.func 40) #[] #[], .func (.func 41) #[] #[], .func (.func 42) #[] #[]] 45)).alloc (.cells #[.int .i64 0, .slice none 0 0, .slice none 0 0, .slice a xs.length c, .slice none 0 0] 30)) a xs) := hG.keep Hx0.out
  have HF : Hid (∀ x ∈ xs, x.size ≤ maxLen) := hf
  clear hG hf
  have hbv := build_world
  go_enter Tryz.func19, Tryz.ntmps19
  go_wp2_with go_in
  clear hbv
  refine wp_loop_rounds 4 ?_
  rw [rounds_succ]
  go_wp2_with fail
  refine (landOkN a c xs _).mono ?_
  rintro e w1 ⟨rfl, c1⟩
  have C1 : Hid (Below (((w.alloc (.cells #[.int .i64 0, .slice none 0 0, .slice none 0 0, .slice a xs.length c, .slice none 0 0] 30)).alloc (.cells #[.func (.func 40) #[] #[], .func (.func 41) #[] #[], .func (.func 42) #[] #[]] 45)).alloc (.cells #[.int .i64 0, .slice none 0 0, .slice none 0 0, .slice a xs.length c, .slice none 0 0] 30)).heap.size (((w.alloc (.cells #[.int .i64 0, .slice none 0 0, .slice none 0 0, .slice a xs.length c, .slice none 0 0] 30)).alloc (.cells #[.func (.func 40) #[] #[], .func (.func 41) #[] #[], .func (.func 42) #[] #[]] 45)).alloc (.cells #[.int .i64 0, .slice none 0 0, .slice none 0 0, .slice a xs.length c, .slice none 0 0] 30)) w1) := c1
  clear c1
  obtain ⟨kf1, km1⟩ := three_new C1.out
  have HG1 : Hid (GvN w1 a xs) := HG0.out.keep C1.out
  go_wp2_with fail
  rw [rounds_succ]
  go_wp2_with fail
  refine (matesOkN a c xs _ HG1.out HF.out hl).mono ?_
  rintro e w2 ⟨⟨q2, rfl, h2⟩, c2⟩
  have H2 : Hid (q2 = true ↔ NewOk xs) := h2
  have C2 : Hid (Below (((w.alloc (.cells #[.int .i64 0, .slice none 0 0, .slice none 0 0, .slice a xs.length c, .slice none 0 0] 30)).alloc (.cells #[.func (.func 40) #[] #[], .func (.func 41) #[] #[], .func (.func 42) #[] #[]] 45)).alloc (.cells #[.int .i64 0, .slice none 0 0, .slice none 0 0, .slice a xs.length c, .slice none 0 0] 30)).heap.size (((w.alloc (.cells #[.int .i64 0, .slice none 0 0, .slice none 0 0, .slice a xs.length c, .slice none 0 0] 30)).alloc (.cells #[.func (.func 40) #[] #[], .func (.func 41) #[] #[], .func (.func 42) #[] #[]] 45)).alloc (.cells #[.int .i64 0, .slice none 0 0, .slice none 0 0, .slice a xs.length c, .slice none 0 0] 30)) w2) := bl_trans C1.out c2
  clear c2 kf1 km1 h2
  obtain ⟨kf2, km2⟩ := three_new C2.out
  cases q2
  · go_wp2
    go_ret
    exact ⟨⟨false, rfl, ⟨fun h => (by cases h), fun h => by have := H2.out.2 h; cases this⟩⟩, bl_trans Hx0.out C2.out⟩
  have G2 : Hid (NewOk xs) := H2.out.1 rfl
  clear H2
  have HG2 : Hid (GvN w2 a xs) := HG0.out.keep C2.out
  go_wp2_with fail
  rw [rounds_succ]
  go_wp2_with fail
  refine (flightOkN a c xs _).mono ?_
  rintro e w3 ⟨rfl, c3⟩
  have C3 : Hid (Below (((w.alloc (.cells #[.int .i64 0, .slice none 0 0, .slice none 0 0, .slice a xs.length c, .slice none 0 0] 30)).alloc (.cells #[.func (.func 40) #[] #[], .func (.func 41) #[] #[], .func (.func 42) #[] #[]] 45)).alloc (.cells #[.int .i64 0, .slice none 0 0, .slice none 0 0, .slice a xs.length c, .slice none 0 0] 30)).heap.size (((w.alloc (.cells #[.int .i64 0, .slice none 0 0, .slice none 0 0, .slice a xs.length c, .slice none 0 0] 30)).alloc (.cells #[.func (.func 40) #[] #[], .func (.func 41) #[] #[], .func (.func 42) #[] #[]] 45)).alloc (.cells #[.int .i64 0, .slice none 0 0, .slice none 0 0, .slice a xs.length c, .slice none 0 0] 30)) w3) := bl_trans C2.out c3
  clear c3 kf2 km2
  obtain ⟨kf3, km3⟩ := three_new C3.out
  have HG3 : Hid (GvN w3 a xs) := HG0.out.keep C3.out
  go_wp2_with fail
  rw [rounds_succ]
  go_wp2
  go_ret
  exact ⟨⟨true, rfl, ⟨fun _ => G2.out, fun _ => rfl⟩⟩, bl_trans Hx0.out C3.out⟩
end Go.Proofs.YtdkjhonaafadjaaGreat
