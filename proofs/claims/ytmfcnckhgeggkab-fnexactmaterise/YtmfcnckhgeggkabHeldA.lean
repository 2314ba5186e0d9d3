/- A list of marks is told to be held. -/
import Derived.Test.YtmfcnckhgeggkabMarkA
import Derived.Deep.RegionHeld3
import Derived.Laws.Pointers
import Derived.StillTactics
namespace Go.Proofs.Ytmfcnckhgeggkab.A
open Go.RowKit
set_option linter.unusedVariables false

theorem marks_at (k0 kk : Int) (n m : Nat) (hm : m < n) (hk : kk = k0 + 4 * (m : Int)) : (marks k0 n)[m]? = some (markAsk kk) := by
  subst hk; simp [marks, List.getElem?_range hm]
theorem heldK {x w' : World} {b m : Nat} {kk : Int} {rs : List AskD} (hk : rs[m]? = some (markAsk kk)) (h1 : RowsAt x b 0 rs) (l1 : b < x.heap.size) (hb : Below x.heap.size x w') :
    Below x.heap.size x w' ∧ (w'.cell? ⟨b, m * 4, none⟩ = some (.string (markB kk)) ∧ w'.cell? ⟨b, m * 4 + 1, none⟩ = some (.string (markB (kk + 1))) ∧ w'.cell? ⟨b, m * 4 + 2, none⟩ = some (.int .i64 (kk + 1 + 1)) ∧ w'.cell? ⟨b, m * 4 + 3, none⟩ = some (.int .i64 (kk + 1 + 1 + 1))) := by
  have := (h1.keep l1 hb).at hk
  rw [Nat.zero_add] at this
  exact ⟨hb, this⟩

set_option maxRecDepth 4000 in
set_option maxHeartbeats 2000000 in
theorem heldS (b n cap : Nat) (k0 : Int) (w : World) (hR : RowsAt w b 0 (marks k0 n)) (hb : b < w.heap.size) (hn : n ≤ 1048576) (h0 : 0 ≤ k0) (h1 : k0 ≤ 10000000000) :
    Calls Try.prog 75 #[.slice (some ⟨b, 0, none⟩) n cap, .int .i64 k0] w fun e w' => e = .returned (.int .i64 (k0 + 4 * (n : Int))) ∧ Below w.heap.size w w' := by
  go_enter Try.func75, Try.ntmps75
  go_wp2
  go_loopw [1, 5] (fun q i wx => ∃ (m : Nat) (kk : Int), m ≤ n ∧ i = .int .i64 m ∧ q = .int .i64 kk ∧ kk = k0 + 4 * (m : Int) ∧ Below w.heap.size w wx) (fun _ i _ => n - (intOf i).toNat)
  case atStart => exact ⟨0, k0, Nat.zero_le _, rfl, rfl, by simp, Below.refl _ _⟩
  case round =>
    obtain ⟨m, kk, hm, rfl, rfl, hkk, hB⟩ := hrel
    have Hk : Hid _ := hkk
    have k1 : 0 ≤ kk := by omega
    have k2 : kk ≤ 100000000000 := by omega
    clear hkk
    have bz : b < wr.heap.size := Nat.lt_of_lt_of_le hb hB.size
    by_cases hlt : m < n
    · have Hr : Hid _ := marks_at k0 kk n m hlt Hk.out
      have g1 := hR.keep hb hB
      have i0 : (0 : Int) ≤ (m : Int) := by omega
      have i1 : (m : Int) < (n : Int) := by omega
      go_wp2_with fail
      go_region_held3 (fun w' => Below wr.heap.size wr w' ∧ (w'.cell? ⟨b, m * 4, none⟩ = some (.string (markB kk)) ∧ w'.cell? ⟨b, m * 4 + 1, none⟩ = some (.string (markB (kk + 1))) ∧ w'.cell? ⟨b, m * 4 + 2, none⟩ = some (.int .i64 (kk + 1 + 1)) ∧ w'.cell? ⟨b, m * 4 + 3, none⟩ = some (.int .i64 (kk + 1 + 1 + 1))))
        (first | exact heldK Hr.out g1 bz (bl_drew (Below.refl _ _)) | exact heldK Hr.out g1 bz (bl_trans (bl_drew (Below.refl _ _)) hx))
        (first | (go_at_call 47; refine (markText_any _ (by omega) _).mono ?_; rintro e w' ⟨rfl, hx⟩))
      have y1 : Below wr.heap.size wr w' := bl_trans (bl_drew (Below.refl _ _)) hx
      have g2 := g1.keep bz y1
      have bz2 : b < w'.heap.size := Nat.lt_of_lt_of_le bz y1.size
      have hB2 := bl_trans hB y1
      obtain ⟨c0, c1, c2, c3⟩ := (heldK Hr.out g1 bz y1).2
      clear g1 bz hB y1 hx
      obtain ⟨w2, rfl⟩ : ∃ w2 : World, w2 = w' := ⟨_, rfl⟩
      go_wp2_with fail
      clear c0 c1 c2 c3
      go_region_held3 (fun w' => Below w2.heap.size w2 w' ∧ (w'.cell? ⟨b, m * 4, none⟩ = some (.string (markB kk)) ∧ w'.cell? ⟨b, m * 4 + 1, none⟩ = some (.string (markB (kk + 1))) ∧ w'.cell? ⟨b, m * 4 + 2, none⟩ = some (.int .i64 (kk + 1 + 1)) ∧ w'.cell? ⟨b, m * 4 + 3, none⟩ = some (.int .i64 (kk + 1 + 1 + 1))))
        (first | exact heldK Hr.out g2 bz2 (bl_drew (Below.refl _ _)) | exact heldK Hr.out g2 bz2 (bl_trans (bl_drew (Below.refl _ _)) hx))
        (first | (go_at_call 47; refine (markText_any _ (by omega) _).mono ?_; rintro e w' ⟨rfl, hx⟩))
      have y2 : Below w2.heap.size w2 w' := bl_trans (bl_drew (Below.refl _ _)) hx
      have hB3 := bl_trans hB2 y2
      obtain ⟨c0, c1, c2, c3⟩ := (heldK Hr.out g2 bz2 y2).2
      clear g2 bz2 hB2 y2 hx
      go_wp2
      exact ⟨⟨m + 1, _, by omega, by go_num, rfl, by have := Hk.out; omega, hB3⟩, by simp [intOf]; omega⟩
    · go_wp2
      go_ret
      have hmn : m = n := by omega
      subst hmn
      exact ⟨by rw [← Hk.out]; rfl, hB⟩
end Go.Proofs.Ytmfcnckhgeggkab.A
