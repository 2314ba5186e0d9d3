/- A list of wants is copied. -/
import Derived.Test.YteebdpnpeglimaaDoorWRows1
import Derived.Laws.MakeOwn
namespace Go.Proofs.YteebdpnpeglimaaDoor.W
open Go.RowKit
set_option linter.unusedVariables false

theorem make_wants (n : Nat) (hn : n ≤ 1048576) : ∃ C : Array Value, C.size = n * 7 ∧ ∀ w : World, Sem.run Tryd.prog (Instr.makeSlice 27 (.int .i64 (n : Int)) (.int .i64 (n : Int))) w = .ok (.slice (some ⟨w.heap.size, 0, none⟩) n n) (w.alloc (.cells C 40)) := by
  have hq : (Tryd.prog.info? 40).map (fun i => (i.size, i.bytes, i.zero)) = some (7, 72, some (.agg #[.string ⟨#[]⟩, .int .i64 0, .string ⟨#[]⟩, .int .i64 0, .int .i64 0, .int .i64 0, .int .i64 0])) := by kernel_rfl
  cases hi : Tryd.prog.info? 40 with
  | none => rw [hi] at hq; simp at hq
  | some i =>
    rw [hi] at hq
    simp only [Option.map_some, Option.some.injEq, Prod.mk.injEq] at hq
    obtain ⟨h1, h2, h3⟩ := hq
    refine ⟨madeCells (Value.cells (.agg #[.string ⟨#[]⟩, .int .i64 0, .string ⟨#[]⟩, .int .i64 0, .int .i64 0, .int .i64 0, .int .i64 0])) (n * i.size), (size_madeCells _ _).trans (by rw [h1]), fun w => ?_⟩
    have := run_make (P := Tryd.prog) w 27 40 i _ Tryd.underlying27 hi h3 .i64 .i64 n n (by omega) (by omega) (by rw [h2]; omega) (by omega)
    simpa using this

theorem bl_cells {A : World} {k : Nat} (hk : A.heap.size ≤ k) : ∀ (vs : List Value) (o : Nat) (w' : World), Below A.heap.size A w' → Below A.heap.size A (w'.setCells k o vs)
  | [], _, _, h => h
  | v :: r, o, w', h => bl_cells hk r (o + 1) _ (bl_set h (by exact hk) v)
theorem size_cells {k : Nat} : ∀ (vs : List Value) (o : Nat) (w' : World), (w'.setCells k o vs).heap.size = w'.heap.size
  | [], _, _ => rfl
  | v :: r, o, w' => (size_cells r (o + 1) _).trans (by simp [World.setCell])
theorem there_keep {x y : World} {k o n : Nat} (h : x.there k o n) (hk : k < x.heap.size) (hb : Below x.heap.size x y) : y.there k o n :=
  fun j hj => ⟨by rw [hb.cell (p := ⟨k, o + j, none⟩) hk]; exact (h j hj).1, by rw [hb.frozen (p := ⟨k, o + j, none⟩) hk]; exact (h j hj).2⟩
theorem there_part {x : World} {g n k : Nat} (h : x.there g 0 (n * 7)) (hk : k < n) : x.there g (k * 7) 7 :=
  fun j hj => by have := h (k * 7 + j) (by omega); simpa using this
theorem there_new {w : World} {C : Array Value} {t : TypeId} {n : Nat} (hC : C.size = n * 7) : (w.alloc (.cells C t)).there w.heap.size 0 (n * 7) :=
  fun j hj => ⟨by simp [go_sem]; omega, by simp [go_sem]⟩
theorem rows_step {x : World} {g k : Nat} {rs : List WantD} {r : WantD} (hr : rs[k]? = some r) (h : RowsAt x g 0 (rs.take k)) (ht : x.there g (k * 7) 7) : RowsAt (x.setCells g (k * 7) r.cells) g 0 (rs.take (k + 1)) := by
  intro j q hj
  rw [List.getElem?_take] at hj
  split at hj
  case isFalse => cases hj
  rename_i hlt
  by_cases e : j = k
  · subst e
    rw [hr] at hj
    cases hj
    have := World.rangeAt_setCells_same x g (j * 7) r.cells ht
    simpa using this
  · have hj' : (rs.take k)[j]? = some q := by rw [List.getElem?_take, if_pos (by omega)]; exact hj
    exact World.rangeAt_setCells_apart (h j q hj') g (k * 7) r.cells (Or.inr (Or.inl (by show 0 + j * 7 + 7 ≤ k * 7; omega)))

set_option maxHeartbeats 1000000 in
theorem toWantS (b off cap : Nat) (rs : List WantD) (w : World) (hR : RowsAt w b off rs) (hb : b < w.heap.size) (hl : rs.length ≤ 1048576) :
    Calls Tryd.prog 16 #[.slice (some ⟨b, off, none⟩) rs.length cap] w fun e w' => e = .returned (.slice (some ⟨w.heap.size, 0, none⟩) rs.length rs.length) ∧ RowsAt w' w.heap.size 0 rs ∧ w'.there w.heap.size 0 (rs.length * 7) ∧ w.heap.size < w'.heap.size ∧ Below w.heap.size w w' := by
  obtain ⟨C, hC, hmk⟩ := make_wants rs.length hl
  have hinfo : (Tryd.prog.info? 40).map (·.size) = some 7 := by kernel_rfl
  go_enter Tryd.func16, Tryd.ntmps16
  go_wp2
  go_loopw [4] (fun i wx => ∃ (k : Nat), k ≤ rs.length ∧ i = .int .i64 k ∧ RowsAt wx w.heap.size 0 (rs.take k) ∧ wx.there w.heap.size 0 (rs.length * 7) ∧ w.heap.size < wx.heap.size ∧ Below w.heap.size w wx) (fun i _ => rs.length - (intOf i).toNat)
  case atStart => exact ⟨0, Nat.zero_le _, rfl, fun k r h => by simp at h, there_new hC, by simp, bl_alloc (Below.refl _ _) _⟩
  case round =>
    obtain ⟨k, hk, rfl, hrows, hth, hgz, hB⟩ := hrel
    clear hmk
    by_cases hlt : k < rs.length
    · obtain ⟨r, hr⟩ : ∃ r, rs[k]? = some r := ⟨rs[k], List.getElem?_eq_getElem hlt⟩
      obtain ⟨c0, c1, c2, c3, c4, c5, c6⟩ := (hR.keep hb hB).at hr
      have Hr : Hid _ := hr
      clear hr
      go_wp2_with fail
      refine (toWant_b r.c r.h r.v r.p r.s r.d r.g _).mono ?_
      rintro e w1 ⟨rfl, hb1⟩
      clear c0 c1 c2 c3 c4 c5 c6
      have hth1 := there_keep hth hgz hb1
      have hrows1 := hrows.keep hgz hb1
      have hB1 := bl_trans hB hb1
      have hgz1 : w.heap.size < w1.heap.size := Nat.lt_of_lt_of_le hgz hb1.size
      clear hth hrows hB hb1
      go_wp2_with (refine wpList_store_mid (by rfl) 40 _ _ (by rfl) w.heap.size (k * 7) #[.string r.c, .int .i64 r.v, .string r.h, .int .i64 r.p, .int .i64 r.s, .int .i64 r.d, .int .i64 r.g] (by rfl) (by rfl) (by exact there_part hth1 hlt) hinfo (by simp [Value.oneCell']) ?_)
      exact ⟨⟨k + 1, by omega, by go_num, rows_step Hr.out hrows1 (there_part hth1 hlt), World.there_setCells hth1 _ _ _, by rw [size_cells]; exact hgz1, bl_cells (Nat.le_refl _) _ _ _ hB1⟩, by simp [intOf]; omega⟩
    · go_wp2
      go_ret
      have e : rs.take k = rs := List.take_of_length_le (by omega)
      rw [e] at hrows
      exact ⟨rfl, hrows, hth, hgz, hB⟩
end Go.Proofs.YteebdpnpeglimaaDoor.W
