/- Lists of asks in memory. -/
import Derived.Test.YtmfcnckhgeggkabConv
import Derived.Deep.MidRow
namespace Go.Proofs.Ytmfcnckhgeggkab.A
open Go.RowKit
set_option linter.unusedVariables false

theorem szAsk_yes (h c : ByteArray) (f t left : Int) (h0 : 0 ≤ left) (h1 : left ≤ 1048576) (k : (h.size : Int) + c.size ≤ left) (w : World) :
    Calls Try.prog 89 #[.agg #[.string h, .string c, .int .i64 f, .int .i64 t], .int .i64 left] w fun e w' => e = .returned (.int .i64 (left - h.size - c.size)) ∧ Below w.heap.size w w' := by
  go_enter Try.func89, Try.ntmps89
  go_wp2
  go_ret
  exact ⟨rfl, (Below.refl _ _).alloc (Nat.le_refl _) _⟩
theorem szAsk_no (h c : ByteArray) (f t left : Int) (h0 : 0 ≤ left) (h1 : left ≤ 1048576) (hh : h.size ≤ maxLen) (hc : c.size ≤ maxLen) (k : ¬ (h.size : Int) + c.size ≤ left) (w : World) :
    Calls Try.prog 89 #[.agg #[.string h, .string c, .int .i64 f, .int .i64 t], .int .i64 left] w fun e w' => e = .returned (.int .i64 (-1)) ∧ Below w.heap.size w w' := by
  unfold maxLen at hc hh
  by_cases k1 : (h.size : Int) ≤ left
  · go_enter Try.func89, Try.ntmps89
    go_wp2
    go_ret
    exact ⟨rfl, (Below.refl _ _).alloc (Nat.le_refl _) _⟩
  · go_enter Try.func89, Try.ntmps89
    go_wp2
    go_ret
    exact ⟨rfl, (Below.refl _ _).alloc (Nat.le_refl _) _⟩
theorem toAsk_b (h c : ByteArray) (f t : Int) (w : World) :
    Calls Try.prog 91 #[.agg #[.string h, .string c, .int .i64 f, .int .i64 t]] w fun e w' => e = .returned (.agg #[.string h, .string c, .int .i64 f, .int .i64 t]) ∧ Below w.heap.size w w' := by
  go_enter Try.func91, Try.ntmps91
  go_wp2
  exact bodyPost_ret (v := .agg #[.string h, .string c, .int .i64 f, .int .i64 t]) (by simp [results, Try.results91, go_sem]) rfl ⟨rfl, by repeat (first | exact Below.refl _ _ | refine bl_alloc ?_ _)⟩

structure AskD where
  h : ByteArray
  c : ByteArray
  f : Int
  t : Int
def AskD.cells (r : AskD) : List Value := [.string r.h, .string r.c, .int .i64 r.f, .int .i64 r.t]
/-- What a run's parts may be. -/
def AskD.fits (r : AskD) : Prop := r.h.size ≤ maxLen ∧ r.c.size ≤ maxLen
/-- The asks rs lie in block b from off on. -/
def RowsAt (w : World) (b off : Nat) (rs : List AskD) : Prop := ∀ k r, rs[k]? = some r → w.rangeAt b (off + k * 4) r.cells

theorem RowsAt.keep {w w' : World} {b off : Nat} {rs : List AskD} (h : RowsAt w b off rs) (hb : b < w.heap.size) (hB : Below w.heap.size w w') : RowsAt w' b off rs :=
  fun k r hk j v hj => (hB.cell (p := ⟨b, off + k * 4 + j, none⟩) hb).trans (h k r hk j v hj)
theorem RowsAt.at {w : World} {b off : Nat} {rs : List AskD} (h : RowsAt w b off rs) {k : Nat} {r : AskD} (hk : rs[k]? = some r) :
    w.cell? ⟨b, off + k * 4, none⟩ = some (.string r.h) ∧ w.cell? ⟨b, off + k * 4 + 1, none⟩ = some (.string r.c) ∧ w.cell? ⟨b, off + k * 4 + 2, none⟩ = some (.int .i64 r.f) ∧ w.cell? ⟨b, off + k * 4 + 3, none⟩ = some (.int .i64 r.t) :=
  ⟨h k r hk 0 _ rfl, h k r hk 1 _ rfl, h k r hk 2 _ rfl, h k r hk 3 _ rfl⟩

set_option maxHeartbeats 1000000 in
theorem szAskS (b off cap : Nat) (rs : List AskD) (left : Int) (w : World) (hR : RowsAt w b off rs) (hb : b < w.heap.size) (hf : ∀ r ∈ rs, r.fits) (h0 : 0 ≤ left) (h1 : left ≤ 1048576) (hl : rs.length ≤ maxLen) :
    Calls Try.prog 53 #[.slice (some ⟨b, off, none⟩) rs.length cap, .int .i64 left] w fun e w' => (e = .returned (.int .i64 (-1)) ∨ ∃ m : Int, e = .returned (.int .i64 m) ∧ 0 ≤ m ∧ (rs.length : Int) ≤ left) ∧ Below w.heap.size w w' := by
  unfold maxLen at hl
  by_cases hn : (rs.length : Int) ≤ left
  · go_enter Try.func53, Try.ntmps53
    go_wp2
    go_loopw [1, 5] (fun l i wx => ∃ (k : Nat) (lv : Int), k ≤ rs.length ∧ i = .int .i64 k ∧ l = .int .i64 lv ∧ 0 ≤ lv ∧ lv ≤ 1048576 ∧ Below w.heap.size w wx) (fun _ i _ => rs.length - (intOf i).toNat)
    case atStart => exact ⟨0, _, Nat.zero_le _, rfl, rfl, by omega, by omega, Below.refl _ _⟩
    case round =>
      obtain ⟨k, lv, hk, rfl, rfl, l0, l1, hB⟩ := hrel
      by_cases hlt : k < rs.length
      · obtain ⟨r, hr⟩ : ∃ r, rs[k]? = some r := ⟨rs[k], List.getElem?_eq_getElem hlt⟩
        obtain ⟨c0, c1, c2, c3⟩ := (hR.keep hb hB).at hr
        have hfr : r.fits := hf r (List.mem_of_getElem? hr)
        clear hr
        by_cases hsz : (r.h.size : Int) + r.c.size ≤ lv
        · go_wp2_with fail
          refine (szAsk_yes r.h r.c r.f r.t lv l0 l1 hsz _).mono ?_
          rintro e w1 ⟨rfl, hb1⟩
          go_wp2
          exact ⟨⟨k + 1, _, by omega, by go_num, rfl, by omega, by omega, bl_trans hB hb1⟩, by simp [intOf]; omega⟩
        · go_wp2_with fail
          refine (szAsk_no r.h r.c r.f r.t lv l0 l1 hfr.1 hfr.2 (by omega) _).mono ?_
          rintro e w1 ⟨rfl, hb1⟩
          go_wp2
          go_ret
          exact ⟨Or.inl rfl, bl_trans hB hb1⟩
      · go_wp2
        go_ret
        exact ⟨Or.inr ⟨_, rfl, l0, hn⟩, hB⟩
  · go_enter Try.func53, Try.ntmps53
    go_wp2
    go_ret
    exact ⟨Or.inl rfl, Below.refl _ _⟩
end Go.Proofs.Ytmfcnckhgeggkab.A
