/- MateWatchdog: the program's side. -/
import Derived.Test.YtmfcnckhgeggkabWatchS
namespace Go.Proofs.Ytmfcnckhgeggkab
open Go.RowKit
set_option linter.unusedVariables false

theorem watched_any (c h : ByteArray) (v p s d g a b i u clock : Int) (w : World) :
    Calls Try.prog 45 #[.agg #[.string c, .int .i64 v, .string h, .int .i64 p, .int .i64 s, .int .i64 d, .int .i64 g, .int .i64 a, .int .i64 b, .int .i64 i, .int .i64 u], .int .i64 clock] w fun e w' => e = .returned (if aliveB a = true ∧ leasedB h u clock = false then .agg #[.string c, .int .i64 v, .string h, .int .i64 p, .int .i64 s, .int .i64 d, .int .i64 g, .int .i64 2, .int .i64 0, .int .i64 i, .int .i64 u] else .agg #[.string c, .int .i64 v, .string h, .int .i64 p, .int .i64 s, .int .i64 d, .int .i64 g, .int .i64 a, .int .i64 b, .int .i64 i, .int .i64 u]) ∧ Below w.heap.size w w' := by
  cases hal : aliveB a
  · rw [if_neg (fun h => by cases h.1)]
    go_enter Try.func45, Try.ntmps45
    go_wp2_with (first | (go_at_call 83; refine (alive_any a _).mono ?_; rintro e w' ⟨rfl, rfl⟩) | (go_at_call 84; refine (mayLive_any c h v p s d g a b i u clock _).mono ?_; rintro e w' ⟨rfl, rfl⟩) | (go_at_call 85; refine (waiting_any c h v p s d g a b i u _).mono ?_; rintro e w' ⟨rfl, rfl⟩))
    exact bodyPost_ret (v := .agg #[.string c, .int .i64 v, .string h, .int .i64 p, .int .i64 s, .int .i64 d, .int .i64 g, .int .i64 a, .int .i64 b, .int .i64 i, .int .i64 u]) (by simp [results, Try.results45, go_sem]) rfl ⟨rfl, by repeat (first | exact Below.refl _ _ | refine bl_alloc ?_ _)⟩
  · cases hle : leasedB h u clock
    · rw [if_pos ⟨rfl, rfl⟩]
      go_enter Try.func45, Try.ntmps45
      go_wp2_with (first | (go_at_call 83; refine (alive_any a _).mono ?_; rintro e w' ⟨rfl, rfl⟩) | (go_at_call 84; refine (mayLive_any c h v p s d g a b i u clock _).mono ?_; rintro e w' ⟨rfl, rfl⟩) | (go_at_call 85; refine (waiting_any c h v p s d g a b i u _).mono ?_; rintro e w' ⟨rfl, rfl⟩))
      exact bodyPost_ret (v := .agg #[.string c, .int .i64 v, .string h, .int .i64 p, .int .i64 s, .int .i64 d, .int .i64 g, .int .i64 2, .int .i64 0, .int .i64 i, .int .i64 u]) (by simp [results, Try.results45, go_sem]) rfl ⟨rfl, by repeat (first | exact Below.refl _ _ | refine bl_alloc ?_ _)⟩
    · rw [if_neg (fun h => by cases h.2)]
      go_enter Try.func45, Try.ntmps45
      go_wp2_with (first | (go_at_call 83; refine (alive_any a _).mono ?_; rintro e w' ⟨rfl, rfl⟩) | (go_at_call 84; refine (mayLive_any c h v p s d g a b i u clock _).mono ?_; rintro e w' ⟨rfl, rfl⟩) | (go_at_call 85; refine (waiting_any c h v p s d g a b i u _).mono ?_; rintro e w' ⟨rfl, rfl⟩))
      exact bodyPost_ret (v := .agg #[.string c, .int .i64 v, .string h, .int .i64 p, .int .i64 s, .int .i64 d, .int .i64 g, .int .i64 a, .int .i64 b, .int .i64 i, .int .i64 u]) (by simp [results, Try.results45, go_sem]) rfl ⟨rfl, by repeat (first | exact Below.refl _ _ | refine bl_alloc ?_ _)⟩
theorem watched_lit (r t : RunD) (clock : Int) (ht : watchD clock r = t) (w : World) :
    Calls Try.prog 45 #[.agg #[.string r.c, .int .i64 r.v, .string r.h, .int .i64 r.p, .int .i64 r.s, .int .i64 r.d, .int .i64 r.g, .int .i64 r.a, .int .i64 r.b, .int .i64 r.i, .int .i64 r.u], .int .i64 clock] w fun e w' => e = .returned (.agg #[.string t.c, .int .i64 t.v, .string t.h, .int .i64 t.p, .int .i64 t.s, .int .i64 t.d, .int .i64 t.g, .int .i64 t.a, .int .i64 t.b, .int .i64 t.i, .int .i64 t.u]) ∧ Below w.heap.size w w' := by
  subst ht
  refine (watched_any r.c r.h r.v r.p r.s r.d r.g r.a r.b r.i r.u clock w).mono ?_
  rintro e w' ⟨rfl, hb⟩
  refine ⟨?_, hb⟩
  unfold watchD
  split <;> rfl

set_option maxHeartbeats 1000000 in
theorem implWatch (b off cap : Nat) (rs : List RunD) (clock : Int) (w : World) (hR : RowsAt w b off rs) (hb : b < w.heap.size) (hl : rs.length ≤ 1048576) :
    Calls Try.prog 15 #[.slice (some ⟨b, off, none⟩) rs.length cap, .int .i64 clock] w fun e w' => e = .returned (.slice (some ⟨w.heap.size, 0, none⟩) rs.length rs.length) ∧ RowsAt w' w.heap.size 0 (rs.map (watchD clock)) ∧ w'.there w.heap.size 0 (rs.length * 11) ∧ w.heap.size < w'.heap.size ∧ Below w.heap.size w w' := by
  obtain ⟨C, hC, hmk⟩ := make_runs rs.length hl
  have hinfo : (Try.prog.info? 39).map (·.size) = some 11 := by kernel_rfl
  go_enter Try.func15, Try.ntmps15
  go_wp2
  go_loopw [13] (fun i wx => ∃ (k : Nat), k ≤ rs.length ∧ i = .int .i64 k ∧ RowsAt wx w.heap.size 0 ((rs.map (watchD clock)).take k) ∧ wx.there w.heap.size 0 (rs.length * 11) ∧ w.heap.size < wx.heap.size ∧ Below w.heap.size w wx) (fun i _ => rs.length - (intOf i).toNat)
  case atStart => exact ⟨0, Nat.zero_le _, rfl, fun k r h => by simp at h, there_new hC, by simp, bl_alloc (Below.refl _ _) _⟩
  case round =>
    obtain ⟨k, hk, rfl, hrows, hth, hgz, hB⟩ := hrel
    clear hmk
    by_cases hlt : k < rs.length
    · obtain ⟨r, hr⟩ : ∃ r, rs[k]? = some r := ⟨rs[k], List.getElem?_eq_getElem hlt⟩
      obtain ⟨c0, c1, c2, c3, c4, c5, c6, c7, c8, c9, c10⟩ := (hR.keep hb hB).at hr
      obtain ⟨t, ht⟩ : ∃ t, watchD clock r = t := ⟨_, rfl⟩
      have Hr : Hid ((rs.map (watchD clock))[k]? = some t) := by show _ = _; rw [List.getElem?_map, hr, ← ht]; rfl
      have Ht : Hid _ := ht
      clear hr ht
      go_wp2_with (first | (go_at_call 41; refine (runOf_any r.c r.h r.v r.p r.s r.d r.g r.a r.b r.i r.u _).mono ?_; rintro e w' ⟨rfl, rfl⟩))
      refine (watched_lit r t clock Ht.out _).mono ?_
      rintro e w0 ⟨rfl, hb0⟩
      have hb1 : Below wr.heap.size wr w0 := bl_trans (by repeat (first | exact Below.refl _ _ | refine bl_alloc ?_ _)) hb0
      clear hb0 c0 c1 c2 c3 c4 c5 c6 c7 c8 c9 c10
      go_wp2_with fail
      refine (told_any t.c t.h t.v t.p t.s t.d t.g t.a t.b t.i t.u _).mono ?_
      rintro e w1 ⟨rfl, hw1⟩
      have hb2 : Below wr.heap.size wr w1 := by rw [hw1]; exact bl_alloc (bl_alloc hb1 _) _
      clear hw1 hb1
      have hth1 := there_keep hth hgz hb2
      have hrows1 := hrows.keep hgz hb2
      have hB1 := bl_trans hB hb2
      have hgz1 : w.heap.size < w1.heap.size := Nat.lt_of_lt_of_le hgz hb2.size
      clear hth hrows hB hb2
      go_wp2_with (refine wpList_store_mid (by rfl) 39 _ _ (by rfl) w.heap.size (k * 11) #[.string t.c, .int .i64 t.v, .string t.h, .int .i64 t.p, .int .i64 t.s, .int .i64 t.d, .int .i64 t.g, .int .i64 t.a, .int .i64 t.b, .int .i64 t.i, .int .i64 t.u] (by rfl) (by rfl) (by exact there_part hth1 hlt) hinfo (by simp [Value.oneCell']) ?_)
      exact ⟨⟨k + 1, by omega, by go_num, rows_step Hr.out hrows1 (there_part hth1 hlt), World.there_setCells hth1 _ _ _, by rw [size_cells]; exact hgz1, bl_cells (Nat.le_refl _) _ _ _ hB1⟩, by simp [intOf]; omega⟩
    · go_wp2
      go_ret
      have e : (rs.map (watchD clock)).take k = rs.map (watchD clock) := List.take_of_length_le (by rw [List.length_map]; omega)
      rw [e] at hrows
      exact ⟨rfl, hrows, hth, hgz, hB⟩
end Go.Proofs.Ytmfcnckhgeggkab
