/- Lists of runs in memory. -/
import Derived.Test.YtmfcnckhgeggkabConv
import Derived.Deep.MidRow
namespace Go.Proofs.Ytmfcnckhgeggkab
open Go.RowKit
set_option linter.unusedVariables false

structure RunD where
  c : ByteArray
  h : ByteArray
  v : Int
  p : Int
  s : Int
  d : Int
  g : Int
  a : Int
  b : Int
  i : Int
  u : Int
def RunD.cells (r : RunD) : List Value := [.string r.c, .int .i64 r.v, .string r.h, .int .i64 r.p, .int .i64 r.s, .int .i64 r.d, .int .i64 r.g, .int .i64 r.a, .int .i64 r.b, .int .i64 r.i, .int .i64 r.u]
/-- What a run's parts may be. -/
def RunD.fits (r : RunD) : Prop := r.c.size ≤ maxLen ∧ r.h.size ≤ maxLen ∧ r.b ≤ 9223372036854775807 ∧ -9223372036854775808 ≤ r.i
/-- The runs rs lie in block b from off on. -/
def RowsAt (w : World) (b off : Nat) (rs : List RunD) : Prop := ∀ k r, rs[k]? = some r → w.rangeAt b (off + k * 11) r.cells

theorem RowsAt.keep {w w' : World} {b off : Nat} {rs : List RunD} (h : RowsAt w b off rs) (hb : b < w.heap.size) (hB : Below w.heap.size w w') : RowsAt w' b off rs :=
  fun k r hk j v hj => (hB.cell (p := ⟨b, off + k * 11 + j, none⟩) hb).trans (h k r hk j v hj)
theorem RowsAt.at {w : World} {b off : Nat} {rs : List RunD} (h : RowsAt w b off rs) {k : Nat} {r : RunD} (hk : rs[k]? = some r) :
    w.cell? ⟨b, off + k * 11, none⟩ = some (.string r.c) ∧ w.cell? ⟨b, off + k * 11 + 1, none⟩ = some (.int .i64 r.v) ∧ w.cell? ⟨b, off + k * 11 + 2, none⟩ = some (.string r.h) ∧ w.cell? ⟨b, off + k * 11 + 3, none⟩ = some (.int .i64 r.p) ∧ w.cell? ⟨b, off + k * 11 + 4, none⟩ = some (.int .i64 r.s) ∧ w.cell? ⟨b, off + k * 11 + 5, none⟩ = some (.int .i64 r.d) ∧ w.cell? ⟨b, off + k * 11 + 6, none⟩ = some (.int .i64 r.g) ∧ w.cell? ⟨b, off + k * 11 + 7, none⟩ = some (.int .i64 r.a) ∧ w.cell? ⟨b, off + k * 11 + 8, none⟩ = some (.int .i64 r.b) ∧ w.cell? ⟨b, off + k * 11 + 9, none⟩ = some (.int .i64 r.i) ∧ w.cell? ⟨b, off + k * 11 + 10, none⟩ = some (.int .i64 r.u) :=
  ⟨h k r hk 0 _ rfl, h k r hk 1 _ rfl, h k r hk 2 _ rfl, h k r hk 3 _ rfl, h k r hk 4 _ rfl, h k r hk 5 _ rfl, h k r hk 6 _ rfl, h k r hk 7 _ rfl, h k r hk 8 _ rfl, h k r hk 9 _ rfl, h k r hk 10 _ rfl⟩

set_option maxHeartbeats 1000000 in
theorem szRunS (b off cap : Nat) (rs : List RunD) (left : Int) (w : World) (hR : RowsAt w b off rs) (hb : b < w.heap.size) (hf : ∀ r ∈ rs, r.fits) (h0 : 0 ≤ left) (h1 : left ≤ 1048576) (hl : rs.length ≤ maxLen) :
    Calls Try.prog 9 #[.slice (some ⟨b, off, none⟩) rs.length cap, .int .i64 left] w fun e w' => (e = .returned (.int .i64 (-1)) ∨ ∃ m : Int, e = .returned (.int .i64 m) ∧ 0 ≤ m ∧ (rs.length : Int) ≤ left) ∧ Below w.heap.size w w' := by
  unfold maxLen at hl
  by_cases hn : (rs.length : Int) ≤ left
  · go_enter Try.func9, Try.ntmps9
    go_wp2
    go_loopw [1, 5] (fun l i wx => ∃ (k : Nat) (lv : Int), k ≤ rs.length ∧ i = .int .i64 k ∧ l = .int .i64 lv ∧ 0 ≤ lv ∧ lv ≤ 1048576 ∧ Below w.heap.size w wx) (fun _ i _ => rs.length - (intOf i).toNat)
    case atStart => exact ⟨0, _, Nat.zero_le _, rfl, rfl, by omega, by omega, Below.refl _ _⟩
    case round =>
      obtain ⟨k, lv, hk, rfl, rfl, l0, l1, hB⟩ := hrel
      by_cases hlt : k < rs.length
      · obtain ⟨r, hr⟩ : ∃ r, rs[k]? = some r := ⟨rs[k], List.getElem?_eq_getElem hlt⟩
        obtain ⟨c0, c1, c2, c3, c4, c5, c6, c7, c8, c9, c10⟩ := (hR.keep hb hB).at hr
        have hfr : r.fits := hf r (List.mem_of_getElem? hr)
        clear hr
        by_cases hsz : (r.c.size : Int) + r.h.size ≤ lv
        · go_wp2_with fail
          refine (szRun_yes r.c r.h r.v r.p r.s r.d r.g r.a r.b r.i r.u lv l0 l1 hsz _).mono ?_
          rintro e w1 ⟨rfl, hb1⟩
          go_wp2
          exact ⟨⟨k + 1, _, by omega, by go_num, rfl, by omega, by omega, bl_trans hB hb1⟩, by simp [intOf]; omega⟩
        · go_wp2_with fail
          refine (szRun_no r.c r.h r.v r.p r.s r.d r.g r.a r.b r.i r.u lv l0 l1 hfr.1 hfr.2.1 (by omega) _).mono ?_
          rintro e w1 ⟨rfl, hb1⟩
          go_wp2
          go_ret
          exact ⟨Or.inl rfl, bl_trans hB hb1⟩
      · go_wp2
        go_ret
        exact ⟨Or.inr ⟨_, rfl, l0, hn⟩, hB⟩
  · go_enter Try.func9, Try.ntmps9
    go_wp2
    go_ret
    exact ⟨Or.inl rfl, Below.refl _ _⟩
end Go.Proofs.Ytmfcnckhgeggkab
