/- FnExactMateWatchdog: the law's walk. -/
import Derived.Test.YtmfcnckhgeggkabWatchI
import Derived.Test.YtmfcnckhgeggkabHeldR
import Derived.Test.YtmfcnckhgeggkabRows3
namespace Go.Proofs.Ytmfcnckhgeggkab
open Go.RowKit
set_option linter.unusedVariables false

theorem eqRunS_n (n : Nat) (b1 n1 b2 n2 : Nat) (rs : List RunD) (w : World) (hn : rs.length = n) (h1 : RowsAt w b1 0 rs) (h2 : RowsAt w b2 0 rs) (l1 : b1 < w.heap.size) (l2 : b2 < w.heap.size) (hl : n ≤ 1048576) :
    Calls Try.prog 13 #[.slice (some ⟨b1, 0, none⟩) n n1, .slice (some ⟨b2, 0, none⟩) n n2] w fun e w' => e = .returned (.bool true) ∧ Below w.heap.size w w' := by
  subst hn; exact eqRunS b1 0 n1 b2 0 n2 rs w h1 h2 l1 l2 hl

set_option maxHeartbeats 2000000 in
theorem lawWatch (v : Value) (rs : List RunD) (clock : Int) (w : World)
    (hSz : Calls Try.prog 9 #[v, .int .i64 1048576] w fun e w' => (e = .returned (.int .i64 (-1)) ∨ ∃ m : Int, e = .returned (.int .i64 m) ∧ 0 ≤ m ∧ rs.length ≤ 1048576) ∧ Below w.heap.size w w')
    (hTo : rs.length ≤ 1048576 → ∀ x, Below w.heap.size w x → Calls Try.prog 11 #[v] x fun e x' => e = .returned (.slice (some ⟨x.heap.size, 0, none⟩) rs.length rs.length) ∧ RowsAt x' x.heap.size 0 rs ∧ x'.there x.heap.size 0 (rs.length * 11) ∧ x.heap.size < x'.heap.size ∧ Below x.heap.size x x') :
    Calls Try.prog 4 #[v, .int .i64 clock] w fun e w' => e = .returned (.bool true) ∧ Below w.heap.size w w' := by
  have hlen : (rs.map (watchD clock)).length = rs.length := List.length_map _
  obtain ⟨n, hn⟩ : ∃ n, n = rs.length := ⟨_, rfl⟩
  rw [← hn] at hSz hTo hlen
  have Hn : Hid (rs.length = n) := hn.symm
  have Hlen : Hid _ := hlen
  clear hlen hn
  go_enter Try.func4, Try.ntmps4
  go_wp2_with fail
  refine hSz.mono ?_
  rintro e w1 ⟨rfl | ⟨m0, rfl, m1, hl⟩, b1⟩
  · go_wp2
    go_ret
    exact ⟨rfl, b1⟩
  have hT := hTo hl
  clear hSz hTo
  have HT : Hid (∀ x, Below w.heap.size w x → Calls Try.prog 11 #[v] x fun e x' => e = .returned (.slice (some ⟨x.heap.size, 0, none⟩) n n) ∧ RowsAt x' x.heap.size 0 rs ∧ x'.there x.heap.size 0 (n * 11) ∧ x.heap.size < x'.heap.size ∧ Below x.heap.size x x') := hT
  clear hT
  go_wp2_with fail
  refine (HT.out _ b1).mono ?_
  rintro e w2 ⟨rfl, S2, -, z2, b2⟩
  go_wp2_with fail
  have sp := specWatch w1.heap.size 0 n rs clock w2 S2 z2 (by rw [Hn.out]; exact hl)
  rw [Hn.out] at sp
  refine sp.mono ?_
  rintro e w3 ⟨⟨g, cap', rfl, g0, g1, G3, -⟩, b3⟩
  have B3 : Below w.heap.size w w3 := bl_trans b1 (bl_trans b2 b3)
  clear sp S2 z2 b1 b2 b3 g0
  go_wp2_with fail
  refine (HT.out _ B3).mono ?_
  rintro e w4 ⟨rfl, X4, t4, z4, b4⟩
  have G4 := G3.keep g1 b4
  have y4 : g < w4.heap.size := Nat.lt_of_lt_of_le g1 b4.size
  have B4 := bl_trans B3 b4
  clear G3 b4
  go_wp2_with fail
  have im := implWatch w3.heap.size 0 n rs clock w4 X4 z4 (by rw [Hn.out]; exact hl)
  rw [Hn.out] at im
  refine im.mono ?_
  rintro e w5 ⟨rfl, A5, t5, z5, b5⟩
  have G5 := G4.keep y4 b5
  have y5 : g < w5.heap.size := Nat.lt_of_lt_of_le y4 b5.size
  have X5 := X4.keep z4 b5
  have tx5 := there_keep t4 z4 b5
  have zx5 : w3.heap.size < w5.heap.size := Nat.lt_of_lt_of_le z4 b5.size
  have B5 := bl_trans B4 b5
  clear im G4 X4 t4 b5 B4
  go_wp2_with fail
  refine (eqRunS_n n _ _ _ _ _ _ Hlen.out A5 G5 z5 y5 hl).mono ?_
  rintro e w6 ⟨rfl, b6⟩
  have G6 := G5.keep y5 b6
  have y6 : g < w6.heap.size := Nat.lt_of_lt_of_le y5 b6.size
  have X6 := X5.keep zx5 b6
  have tx6 := there_keep tx5 zx5 b6
  have zx6 : w3.heap.size < w6.heap.size := Nat.lt_of_lt_of_le zx5 b6.size
  have A6 := A5.keep z5 b6
  have t6 := there_keep t5 z5 b6
  have z6 : w4.heap.size < w6.heap.size := Nat.lt_of_lt_of_le z5 b6.size
  have B6 := bl_trans B5 b6
  clear G5 y5 X5 tx5 zx5 A5 t5 z5 b6 B5
  go_wp2_with fail
  refine (HT.out _ B6).mono ?_
  rintro e w7 ⟨rfl, Y7, -, zy7, b7⟩
  have G7 := G6.keep y6 b7
  have y7 : g < w7.heap.size := Nat.lt_of_lt_of_le y6 b7.size
  have X7 := X6.keep zx6 b7
  have tx7 := there_keep tx6 zx6 b7
  have zx7 : w3.heap.size < w7.heap.size := Nat.lt_of_lt_of_le zx6 b7.size
  have A7 := A6.keep z6 b7
  have t7 := there_keep t6 z6 b7
  have z7 : w4.heap.size < w7.heap.size := Nat.lt_of_lt_of_le z6 b7.size
  have B7 := bl_trans B6 b7
  clear G6 y6 X6 tx6 zx6 A6 t6 z6 b7 B6
  go_wp2_with fail
  refine (eqRunS_n n _ _ _ _ _ _ Hn.out X7 Y7 zx7 zy7 hl).mono ?_
  rintro e w8 ⟨rfl, b8⟩
  have G8 := G7.keep y7 b8
  have y8 : g < w8.heap.size := Nat.lt_of_lt_of_le y7 b8.size
  have tx8 := there_keep tx7 zx7 b8
  have zx8 : w3.heap.size < w8.heap.size := Nat.lt_of_lt_of_le zx7 b8.size
  have A8 := A7.keep z7 b8
  have t8 := there_keep t7 z7 b8
  have z8 : w4.heap.size < w8.heap.size := Nat.lt_of_lt_of_le z7 b8.size
  have B8 := bl_trans B7 b8
  clear G7 y7 X7 tx7 zx7 A7 t7 z7 b8 B7 Y7 zy7
  go_wp2_with fail
  refine (markRunS w3.heap.size n _ 1 _ tx8 zx8 hl (by omega) (by omega)).mono ?_
  rintro e w9 ⟨rfl, -, -, e9⟩
  have G9 := G8.ex y8 e9 (by omega)
  have y9 : g < w9.heap.size := Nat.lt_of_lt_of_le y8 e9.size
  have A9 := A8.ex z8 e9 (by omega)
  have t9 := there_ex t8 z8 e9 (by omega)
  have z9 : w4.heap.size < w9.heap.size := Nat.lt_of_lt_of_le z8 e9.size
  have B9 := Ex.mono B8 e9 B3.size
  have z34 : w3.heap.size < w4.heap.size := z4
  clear G8 y8 tx8 zx8 A8 t8 z8 e9 B8
  go_wp2_with fail
  refine (eqRunS_n n _ _ _ _ _ _ Hlen.out A9 G9 z9 y9 hl).mono ?_
  rintro e w10 ⟨rfl, b10⟩
  have G10 := G9.keep y9 b10
  have y10 : g < w10.heap.size := Nat.lt_of_lt_of_le y9 b10.size
  have t10 := there_keep t9 z9 b10
  have z10 : w4.heap.size < w10.heap.size := Nat.lt_of_lt_of_le z9 b10.size
  have B10 := bl_trans B9 b10
  clear G9 y9 A9 t9 z9 b10 B9
  go_wp2_with fail
  refine (markRunS w4.heap.size n _ 1 _ t10 z10 hl (by omega) (by omega)).mono ?_
  rintro e w11 ⟨rfl, M11, -, e11⟩
  have G11 := G10.ex y10 e11 (by omega)
  have y11 : g < w11.heap.size := Nat.lt_of_lt_of_le y10 e11.size
  have z11 : w4.heap.size < w11.heap.size := Nat.lt_of_lt_of_le z10 e11.size
  have B11 := Ex.mono B10 e11 (Nat.le_trans B3.size (Nat.le_of_lt z34))
  clear G10 y10 t10 z10 e11 B10
  go_wp2_with fail
  refine (heldRunS w4.heap.size n _ 1 _ M11 z11 hl (by omega) (by omega)).mono ?_
  rintro e w12 ⟨rfl, b12⟩
  have G12 := G11.keep y11 b12
  have y12 : g < w12.heap.size := Nat.lt_of_lt_of_le y11 b12.size
  have M12 := M11.keep z11 b12
  have z12 : w4.heap.size < w12.heap.size := Nat.lt_of_lt_of_le z11 b12.size
  have B12 := bl_trans B11 b12
  clear G11 y11 M11 z11 b12 B11
  go_wp2_with fail
  refine (HT.out _ B12).mono ?_
  rintro e w13 ⟨rfl, Y13, -, zy13, b13⟩
  have G13 := G12.keep y12 b13
  have y13 : g < w13.heap.size := Nat.lt_of_lt_of_le y12 b13.size
  have M13 := M12.keep z12 b13
  have z13 : w4.heap.size < w13.heap.size := Nat.lt_of_lt_of_le z12 b13.size
  have B13 := bl_trans B12 b13
  clear G12 y12 M12 z12 b13 B12
  go_wp2_with fail
  have im := implWatch w12.heap.size 0 n rs clock w13 Y13 zy13 (by rw [Hn.out]; exact hl)
  rw [Hn.out] at im
  refine im.mono ?_
  rintro e w14 ⟨rfl, A14, -, zz14, b14⟩
  have G14 := G13.keep y13 b14
  have y14 : g < w14.heap.size := Nat.lt_of_lt_of_le y13 b14.size
  have M14 := M13.keep z13 b14
  have z14 : w4.heap.size < w14.heap.size := Nat.lt_of_lt_of_le z13 b14.size
  have B14 := bl_trans B13 b14
  clear im G13 y13 M13 z13 b14 B13 Y13 zy13
  go_wp2_with fail
  refine (eqRunS_n n _ _ _ _ _ _ Hlen.out A14 G14 zz14 y14 hl).mono ?_
  rintro e w15 ⟨rfl, b15⟩
  have M15 := M14.keep z14 b15
  have z15 : w4.heap.size < w15.heap.size := Nat.lt_of_lt_of_le z14 b15.size
  have B15 := bl_trans B14 b15
  clear G14 y14 M14 z14 b15 B14 A14 zz14
  go_wp2_with fail
  refine (heldRunS w4.heap.size n _ 1 _ M15 z15 hl (by omega) (by omega)).mono ?_
  rintro e w16 ⟨rfl, b16⟩
  have B16 := bl_trans B15 b16
  clear M15 z15 b16 B15
  go_wp2
  go_ret
  exact ⟨rfl, B16⟩
end Go.Proofs.Ytmfcnckhgeggkab
