/- MateWantsOk: the program's side. -/
import Derived.Test.YtbboidoiobehcaaWantsB
import Derived.Laws.EntriesVeiled
namespace Go.Proofs.Ytbboidoiobehcaa.W
open Go.RowKit
set_option linter.unusedVariables false

theorem boxlt {w w1 : World} {o : Obj} (h : Below (w.alloc o).heap.size (w.alloc o) w1) : w.heap.size < w1.heap.size := by have := h.size; simp at this; omega
theorem implWant_q (c h : ByteArray) (v p s d g : Int) (w : World) (hc : c.size ≤ maxLen) (hh : h.size ≤ maxLen) (q : Bool) (hq : wantB c h v p s d g = q) :
    Calls Try.prog 46 #[.agg #[.string c, .int .i64 v, .string h, .int .i64 p, .int .i64 s, .int .i64 d, .int .i64 g]] w fun e w' => e = .returned (.bool q) ∧ Below w.heap.size w w' := by
  rw [← hq]; exact implWant_any c h v p s d g w hc hh

theorem fewWants_any (a : Option Addr) (n cap : Nat) (w : World) :
    Calls Try.prog 32 #[.slice a n cap] w fun e w' => e = .returned (.bool (decide (n ≤ 10))) ∧ w' = w := by
  by_cases h : n ≤ 10
  · go_enter Try.func32, Try.ntmps32
    go_wp2
    go_ret
    exact ⟨ret_b (by simp; omega), rfl⟩
  · go_enter Try.func32, Try.ntmps32
    go_wp2
    go_ret
    exact ⟨ret_b (by simp; omega), rfl⟩

set_option maxHeartbeats 1000000 in
theorem eachWant (b off cap : Nat) (ws : List WantD) (w : World) (hR : RowsAt w b off ws) (l1 : b < w.heap.size) (hfit : ∀ r ∈ ws, r.fits) (hl : ws.length ≤ 10) :
    Calls Try.prog 33 #[.slice (some ⟨b, off, none⟩) ws.length cap] w fun e w' => (∃ q : Bool, e = .returned (.bool q) ∧ (q = true ↔ Each ws ws.length)) ∧ Below w.heap.size w w' := by
  go_enter Try.func33, Try.ntmps33
  go_wp2
  go_loopw [7] (fun i wx => ∃ (k : Nat), k ≤ ws.length ∧ i = .int .i64 k ∧ Hid (Each ws k) ∧ Below w.heap.size w wx) (fun i _ => ws.length - (intOf i).toNat)
  case atStart => exact ⟨0, Nat.zero_le _, rfl, fun j r h => by omega, Below.refl _ _⟩
  case round =>
    obtain ⟨k, hk, rfl, Ha, hB⟩ := hrel
    by_cases hlt : k < ws.length
    · obtain ⟨r, hr⟩ : ∃ r, ws[k]? = some r := ⟨ws[k], List.getElem?_eq_getElem hlt⟩
      have Hr : Hid _ := hr
      have hf : r.fits := hfit r (List.mem_of_getElem? hr)
      clear hr
      obtain ⟨c0, c1, c2, c3, c4, c5, c6⟩ := (hR.keep l1 hB).at Hr.out
      cases hok : wantB r.c r.h r.v r.p r.s r.d r.g
      · go_wp2_with (first | (go_at_call 46; refine (implWant_q r.c r.h r.v r.p r.s r.d r.g _ hf.1 hf.2 false hok).mono ?_; rintro e w1 ⟨rfl, hb⟩))
        go_ret
        exact ⟨⟨false, rfl, ⟨fun h => (by cases h), fun h => by have := h k r hlt Hr.out; simp [WantD.ok, hok] at this⟩⟩, bl_trans hB (bl_trans (bl_alloc (Below.refl _ _) _) hb)⟩
      · go_wp2_with (first | (go_at_call 46; refine (implWant_q r.c r.h r.v r.p r.s r.d r.g _ hf.1 hf.2 true hok).mono ?_; rintro e w1 ⟨rfl, hb⟩))
        exact ⟨⟨k + 1, by omega, by go_num, Ha.out.step Hr.out (by simpa [WantD.ok] using hok), bl_trans hB (bl_trans (bl_alloc (Below.refl _ _) _) hb)⟩, by simp [intOf]; omega⟩
    · go_wp2
      go_ret
      exact ⟨⟨true, rfl, ⟨fun _ j r hj hr => Ha.out j r (by omega) hr, fun _ => rfl⟩⟩, hB⟩

set_option maxHeartbeats 1000000 in
theorem ascendWants (b off cap : Nat) (ws : List WantD) (w : World) (hR : RowsAt w b off ws) (l1 : b < w.heap.size) (hl : ws.length ≤ 10) :
    Calls Try.prog 34 #[.slice (some ⟨b, off, none⟩) ws.length cap] w fun e w' => (∃ q : Bool, e = .returned (.bool q) ∧ (q = true ↔ Asc ws ws.length)) ∧ Below w.heap.size w w' := by
  go_enter Try.func34, Try.ntmps34
  go_wp2
  go_loopw [3] (fun i wx => ∃ (m : Nat), m ≤ ws.length ∧ i = .int .i64 ((m : Int) + 1) ∧ Hid (Asc ws (m + 1)) ∧ Below w.heap.size w wx) (fun i _ => ws.length + 1 - (intOf i).toNat)
  case atStart => exact ⟨0, Nat.zero_le _, rfl, Asc.one, Below.refl _ _⟩
  case round =>
    obtain ⟨m, hk, rfl, Ha, hB⟩ := hrel
    by_cases hlt : m + 1 < ws.length
    · obtain ⟨r, hr⟩ : ∃ r, ws[m + 1]? = some r := ⟨ws[m + 1], List.getElem?_eq_getElem hlt⟩
      obtain ⟨q, hq⟩ : ∃ q, ws[m]? = some q := ⟨ws[m], List.getElem?_eq_getElem (by omega)⟩
      have Hr : Hid _ := hr
      have Hq : Hid _ := hq
      clear hr hq
      have g1 := hR.keep l1 hB
      have cr := (g1.at Hr.out).1
      have cq := (g1.at Hq.out).1
      have i0 : (0 : Int) ≤ (m : Int) := by omega
      have i1 : (m : Int) + 1 < (ws.length : Int) := by omega
      have i2 : (m : Int) < (ws.length : Int) := by omega
      have i3 : (0 : Int) ≤ (m : Int) + 1 := by omega
      have iw : IntKind.i64.wrap (m : Int) = (m : Int) := by rw [IntKind.wrap_i64]; omega
      cases hasc : Op.bytesLess q.c.toList r.c.toList
      · go_wp2_with fail
        refine wp_region_noPanic ?_
        refine wp_region_held_drew (S := (fun w' => w'.cell? ⟨b, off + (m + 1) * 7, none⟩ = some (.string r.c) ∧ w'.cell? ⟨b, off + m * 7, none⟩ = some (.string q.c))) (by kernel_rfl) (⟨by go_simp, by go_simp⟩) (fun hHeld => ?_)
        refine wpAnyH_take (i := 0) (v := ?vx1001) rfl (by kernel_rfl) (by kernel_rfl) (by kernel_rfl) (fun _ _ _ h => h) (Or.inl ⟨by rfl, ?hx1001⟩) (by assumption) ?rx1001
        case hx1001 => (intro w hSw; (try dsimp only at hSw); go_simp; try (with_reducible rfl))
        try simp only [Act.put, List.setIfInBounds_toArray, List.set_cons_zero, List.set_cons_succ, List.getElem_toArray, List.getElem_cons_zero]
        refine wpAnyH_take (i := 1) (v := ?vx1002) rfl (by kernel_rfl) (by kernel_rfl) (by kernel_rfl) (fun _ _ _ h => h) (Or.inl ⟨by rfl, ?hx1002⟩) (by assumption) ?rx1002
        case hx1002 => (intro w hSw; (try dsimp only at hSw); go_simp; try (with_reducible rfl))
        try simp only [Act.put, List.setIfInBounds_toArray, List.set_cons_zero, List.set_cons_succ, List.getElem_toArray, List.getElem_cons_zero, List.getElem_cons_succ]
        refine wpAnyH_take (i := 2) (v := ?vx1003) rfl (by kernel_rfl) (by kernel_rfl) (by kernel_rfl) (fun _ _ _ h => h) (Or.inl ⟨by rfl, ?hx1003⟩) (by assumption) ?rx1003
        case hx1003 => (intro w hSw; (try dsimp only at hSw); go_simp; try (with_reducible rfl))
        try simp only [Act.put, List.setIfInBounds_toArray, List.set_cons_zero, List.set_cons_succ, List.getElem_toArray, List.getElem_cons_zero, List.getElem_cons_succ]
        refine wpAnyH_take (i := 3) (v := ?vx1004) rfl (by kernel_rfl) (by kernel_rfl) (by kernel_rfl) (fun _ _ _ h => h) (Or.inl ⟨by rfl, ?hx1004⟩) (by assumption) ?rx1004
        case hx1004 => (intro w hSw; (try dsimp only at hSw); go_simp; try (with_reducible rfl))
        try simp only [Act.put, List.setIfInBounds_toArray, List.set_cons_zero, List.set_cons_succ, List.getElem_toArray, List.getElem_cons_zero, List.getElem_cons_succ]
        refine wpAnyH_take (i := 4) (v := ?vx1005) rfl (by kernel_rfl) (by kernel_rfl) (by kernel_rfl) (fun _ _ _ h => h) (Or.inl ⟨by rfl, ?hx1005⟩) (by assumption) ?rx1005
        case hx1005 => (intro w hSw; (try dsimp only at hSw); go_simp; try (with_reducible rfl))
        try simp only [Act.put, List.setIfInBounds_toArray, List.set_cons_zero, List.set_cons_succ, List.getElem_toArray, List.getElem_cons_zero, List.getElem_cons_succ]
        refine wpAnyH_take (i := 5) (v := ?vx1006) rfl (by kernel_rfl) (by kernel_rfl) (by kernel_rfl) (fun _ _ _ h => h) (Or.inl ⟨by rfl, ?hx1006⟩) (by assumption) ?rx1006
        case hx1006 => (intro w hSw; (try dsimp only at hSw); go_simp; try (with_reducible rfl))
        try simp only [Act.put, List.setIfInBounds_toArray, List.set_cons_zero, List.set_cons_succ, List.getElem_toArray, List.getElem_cons_zero, List.getElem_cons_succ]
        refine wpAnyH_take (i := 6) (v := ?vx1007) rfl (by kernel_rfl) (by kernel_rfl) (by kernel_rfl) (fun _ _ _ h => h) (Or.inl ⟨by rfl, ?hx1007⟩) (by assumption) ?rx1007
        case hx1007 => (intro w hSw; (try dsimp only at hSw); go_simp; try (with_reducible rfl))
        try simp only [Act.put, List.setIfInBounds_toArray, List.set_cons_zero, List.set_cons_succ, List.getElem_toArray, List.getElem_cons_zero, List.getElem_cons_succ]
        refine wpAnyH_take (i := 7) (v := ?vx1008) rfl (by kernel_rfl) (by kernel_rfl) (by kernel_rfl) (fun _ _ _ h => h) (Or.inl ⟨by rfl, ?hx1008⟩) (by assumption) ?rx1008
        case hx1008 => (intro w hSw; (try dsimp only at hSw); go_simp; try (with_reducible rfl))
        try simp only [Act.put, List.setIfInBounds_toArray, List.set_cons_zero, List.set_cons_succ, List.getElem_toArray, List.getElem_cons_zero, List.getElem_cons_succ]
        refine wpAnyH_take (i := 8) (v := ?vx1009) rfl (by kernel_rfl) (by kernel_rfl) (by kernel_rfl) (fun _ _ _ h => h) (Or.inl ⟨by rfl, ?hx1009⟩) (by assumption) ?rx1009
        case hx1009 => (intro w hSw; (try dsimp only at hSw); go_simp; try (with_reducible rfl))
        try simp only [Act.put, List.setIfInBounds_toArray, List.set_cons_zero, List.set_cons_succ, List.getElem_toArray, List.getElem_cons_zero, List.getElem_cons_succ]
        refine wpAnyH_take (i := 9) (v := ?vx1010) rfl (by kernel_rfl) (by kernel_rfl) (by kernel_rfl) (fun _ _ _ h => h) (Or.inl ⟨by rfl, ?hx1010⟩) (by assumption) ?rx1010
        case hx1010 => (intro w hSw; (try dsimp only at hSw); go_simp; try (with_reducible rfl))
        try simp only [Act.put, List.setIfInBounds_toArray, List.set_cons_zero, List.set_cons_succ, List.getElem_toArray, List.getElem_cons_zero, List.getElem_cons_succ]
        refine wpAnyH_take (i := 10) (v := ?vx1011) rfl (by kernel_rfl) (by kernel_rfl) (by kernel_rfl) (fun _ _ _ h => h) (Or.inl ⟨by rfl, ?hx1011⟩) (by assumption) ?rx1011
        case hx1011 => (intro w hSw; (try dsimp only at hSw); go_simp; try (with_reducible rfl))
        try simp only [Act.put, List.setIfInBounds_toArray, List.set_cons_zero, List.set_cons_succ, List.getElem_toArray, List.getElem_cons_zero, List.getElem_cons_succ]
        refine wpAnyH_take (i := 11) (v := ?vx1012) rfl (by kernel_rfl) (by kernel_rfl) (by kernel_rfl) (fun _ _ _ h => h) (Or.inl ⟨by rfl, ?hx1012⟩) (by assumption) ?rx1012
        case hx1012 => (intro w hSw; (try dsimp only at hSw); go_simp; try (with_reducible rfl))
        try simp only [Act.put, List.setIfInBounds_toArray, List.set_cons_zero, List.set_cons_succ, List.getElem_toArray, List.getElem_cons_zero, List.getElem_cons_succ]
        refine wpAnyH_done (by kernel_rfl) ?_ _
        refine NoPanic.normal ?_
        go_wp2
        go_ret
        exact ⟨⟨false, rfl, ⟨fun h => (by cases h), fun h => by have := h m q r hlt Hq.out Hr.out; simp [ascB, hasc] at this⟩⟩, bl_drew hB⟩
      · go_wp2_with fail
        refine wp_region_noPanic ?_
        refine wp_region_held_drew (S := (fun w' => w'.cell? ⟨b, off + (m + 1) * 7, none⟩ = some (.string r.c) ∧ w'.cell? ⟨b, off + m * 7, none⟩ = some (.string q.c))) (by kernel_rfl) (⟨by go_simp, by go_simp⟩) (fun hHeld => ?_)
        refine wpAnyH_take (i := 0) (v := ?vx1013) rfl (by kernel_rfl) (by kernel_rfl) (by kernel_rfl) (fun _ _ _ h => h) (Or.inl ⟨by rfl, ?hx1013⟩) (by assumption) ?rx1013
        case hx1013 => (intro w hSw; (try dsimp only at hSw); go_simp; try (with_reducible rfl))
        try simp only [Act.put, List.setIfInBounds_toArray, List.set_cons_zero, List.set_cons_succ, List.getElem_toArray, List.getElem_cons_zero]
        refine wpAnyH_take (i := 1) (v := ?vx1014) rfl (by kernel_rfl) (by kernel_rfl) (by kernel_rfl) (fun _ _ _ h => h) (Or.inl ⟨by rfl, ?hx1014⟩) (by assumption) ?rx1014
        case hx1014 => (intro w hSw; (try dsimp only at hSw); go_simp; try (with_reducible rfl))
        try simp only [Act.put, List.setIfInBounds_toArray, List.set_cons_zero, List.set_cons_succ, List.getElem_toArray, List.getElem_cons_zero, List.getElem_cons_succ]
        refine wpAnyH_take (i := 2) (v := ?vx1015) rfl (by kernel_rfl) (by kernel_rfl) (by kernel_rfl) (fun _ _ _ h => h) (Or.inl ⟨by rfl, ?hx1015⟩) (by assumption) ?rx1015
        case hx1015 => (intro w hSw; (try dsimp only at hSw); go_simp; try (with_reducible rfl))
        try simp only [Act.put, List.setIfInBounds_toArray, List.set_cons_zero, List.set_cons_succ, List.getElem_toArray, List.getElem_cons_zero, List.getElem_cons_succ]
        refine wpAnyH_take (i := 3) (v := ?vx1016) rfl (by kernel_rfl) (by kernel_rfl) (by kernel_rfl) (fun _ _ _ h => h) (Or.inl ⟨by rfl, ?hx1016⟩) (by assumption) ?rx1016
        case hx1016 => (intro w hSw; (try dsimp only at hSw); go_simp; try (with_reducible rfl))
        try simp only [Act.put, List.setIfInBounds_toArray, List.set_cons_zero, List.set_cons_succ, List.getElem_toArray, List.getElem_cons_zero, List.getElem_cons_succ]
        refine wpAnyH_take (i := 4) (v := ?vx1017) rfl (by kernel_rfl) (by kernel_rfl) (by kernel_rfl) (fun _ _ _ h => h) (Or.inl ⟨by rfl, ?hx1017⟩) (by assumption) ?rx1017
        case hx1017 => (intro w hSw; (try dsimp only at hSw); go_simp; try (with_reducible rfl))
        try simp only [Act.put, List.setIfInBounds_toArray, List.set_cons_zero, List.set_cons_succ, List.getElem_toArray, List.getElem_cons_zero, List.getElem_cons_succ]
        refine wpAnyH_take (i := 5) (v := ?vx1018) rfl (by kernel_rfl) (by kernel_rfl) (by kernel_rfl) (fun _ _ _ h => h) (Or.inl ⟨by rfl, ?hx1018⟩) (by assumption) ?rx1018
        case hx1018 => (intro w hSw; (try dsimp only at hSw); go_simp; try (with_reducible rfl))
        try simp only [Act.put, List.setIfInBounds_toArray, List.set_cons_zero, List.set_cons_succ, List.getElem_toArray, List.getElem_cons_zero, List.getElem_cons_succ]
        refine wpAnyH_take (i := 6) (v := ?vx1019) rfl (by kernel_rfl) (by kernel_rfl) (by kernel_rfl) (fun _ _ _ h => h) (Or.inl ⟨by rfl, ?hx1019⟩) (by assumption) ?rx1019
        case hx1019 => (intro w hSw; (try dsimp only at hSw); go_simp; try (with_reducible rfl))
        try simp only [Act.put, List.setIfInBounds_toArray, List.set_cons_zero, List.set_cons_succ, List.getElem_toArray, List.getElem_cons_zero, List.getElem_cons_succ]
        refine wpAnyH_take (i := 7) (v := ?vx1020) rfl (by kernel_rfl) (by kernel_rfl) (by kernel_rfl) (fun _ _ _ h => h) (Or.inl ⟨by rfl, ?hx1020⟩) (by assumption) ?rx1020
        case hx1020 => (intro w hSw; (try dsimp only at hSw); go_simp; try (with_reducible rfl))
        try simp only [Act.put, List.setIfInBounds_toArray, List.set_cons_zero, List.set_cons_succ, List.getElem_toArray, List.getElem_cons_zero, List.getElem_cons_succ]
        refine wpAnyH_take (i := 8) (v := ?vx1021) rfl (by kernel_rfl) (by kernel_rfl) (by kernel_rfl) (fun _ _ _ h => h) (Or.inl ⟨by rfl, ?hx1021⟩) (by assumption) ?rx1021
        case hx1021 => (intro w hSw; (try dsimp only at hSw); go_simp; try (with_reducible rfl))
        try simp only [Act.put, List.setIfInBounds_toArray, List.set_cons_zero, List.set_cons_succ, List.getElem_toArray, List.getElem_cons_zero, List.getElem_cons_succ]
        refine wpAnyH_take (i := 9) (v := ?vx1022) rfl (by kernel_rfl) (by kernel_rfl) (by kernel_rfl) (fun _ _ _ h => h) (Or.inl ⟨by rfl, ?hx1022⟩) (by assumption) ?rx1022
        case hx1022 => (intro w hSw; (try dsimp only at hSw); go_simp; try (with_reducible rfl))
        try simp only [Act.put, List.setIfInBounds_toArray, List.set_cons_zero, List.set_cons_succ, List.getElem_toArray, List.getElem_cons_zero, List.getElem_cons_succ]
        refine wpAnyH_take (i := 10) (v := ?vx1023) rfl (by kernel_rfl) (by kernel_rfl) (by kernel_rfl) (fun _ _ _ h => h) (Or.inl ⟨by rfl, ?hx1023⟩) (by assumption) ?rx1023
        case hx1023 => (intro w hSw; (try dsimp only at hSw); go_simp; try (with_reducible rfl))
        try simp only [Act.put, List.setIfInBounds_toArray, List.set_cons_zero, List.set_cons_succ, List.getElem_toArray, List.getElem_cons_zero, List.getElem_cons_succ]
        refine wpAnyH_take (i := 11) (v := ?vx1024) rfl (by kernel_rfl) (by kernel_rfl) (by kernel_rfl) (fun _ _ _ h => h) (Or.inl ⟨by rfl, ?hx1024⟩) (by assumption) ?rx1024
        case hx1024 => (intro w hSw; (try dsimp only at hSw); go_simp; try (with_reducible rfl))
        try simp only [Act.put, List.setIfInBounds_toArray, List.set_cons_zero, List.set_cons_succ, List.getElem_toArray, List.getElem_cons_zero, List.getElem_cons_succ]
        refine wpAnyH_done (by kernel_rfl) ?_ _
        refine NoPanic.normal ?_
        go_wp2
        exact ⟨⟨m + 1, by omega, by go_num, Ha.out.step Hq.out Hr.out (by simpa [ascB] using hasc), bl_drew hB⟩, by simp [intOf]; omega⟩
    · go_wp2
      go_ret
      exact ⟨⟨true, rfl, ⟨fun _ j q r hj hq hr => Ha.out j q r (by omega) hq hr, fun _ => rfl⟩⟩, hB⟩

set_option maxHeartbeats 1000000 in
theorem holdsDiffer (b off : Nat) (ws : List WantD) (w : World) (hR : RowsAt w b off ws) (l1 : b < w.heap.size) (hl : ws.length ≤ 10) :
    Calls Try.prog 35 #[.slice (some ⟨b, off, none⟩) ws.length ws.length] w fun e w' => (∃ q : Bool, e = .returned (.bool q) ∧ (q = true ↔ Diff ws ws.length)) ∧ Below w.heap.size w w' := by
  go_enter Try.func35, Try.ntmps35
  go_wp2
  go_loopw [9] (fun i wx => ∃ (k : Nat), k ≤ ws.length ∧ i = .int .i64 k ∧ Hid (Diff ws k) ∧ Below w.heap.size w wx) (fun i _ => ws.length - (intOf i).toNat)
  case atStart => exact ⟨0, Nat.zero_le _, rfl, fun j r h => by omega, Below.refl _ _⟩
  case round =>
    obtain ⟨k, hk, rfl, Ha, hB⟩ := hrel
    by_cases hlt : k < ws.length
    · obtain ⟨r, hr⟩ : ∃ r, ws[k]? = some r := ⟨ws[k], List.getElem?_eq_getElem hlt⟩
      have Hr : Hid _ := hr
      clear hr
      have i0 : (0 : Int) ≤ (k : Int) := by omega
      have i1 : (k : Int) ≤ (ws.length : Int) := by omega
      obtain ⟨c0, c1, c2, c3, c4, c5, c6⟩ := (hR.keep l1 hB).at Hr.out
      obtain ⟨wo, rfl⟩ : ∃ wo : World, wo = wr := ⟨_, rfl⟩
      go_wp2_with fail
      clear c0 c1 c2 c3 c4 c5 c6
      go_loopw [18] (fun j wx => ∃ (n : Nat), n ≤ k ∧ j = .int .i64 n ∧ Hid (NoneOf ws r n) ∧ Below (wo.alloc (.cells #[.string r.c, .int .i64 r.v, .string r.h, .int .i64 r.p, .int .i64 r.s, .int .i64 r.d, .int .i64 r.g] 24)).heap.size (wo.alloc (.cells #[.string r.c, .int .i64 r.v, .string r.h, .int .i64 r.p, .int .i64 r.s, .int .i64 r.d, .int .i64 r.g] 24)) wx) (fun j _ => k - (intOf j).toNat)
      case atStart => exact ⟨0, Nat.zero_le _, rfl, fun i q h => by omega, Below.refl _ _⟩
      case round =>
        obtain ⟨n, hn, rfl, Hn, hBn⟩ := hrel
        have bo : Below w.heap.size w wr := bl_trans (bl_trans hB (bl_alloc (Below.refl _ _) _)) hBn
        by_cases hnl : n < k
        · obtain ⟨t, ht⟩ : ∃ t, ws[n]? = some t := ⟨ws[n], List.getElem?_eq_getElem (by omega)⟩
          have Ht : Hid _ := ht
          clear ht
          have j0 : (0 : Int) ≤ (n : Int) := by omega
          have j1 : (n : Int) < (k : Int) := by omega
          obtain ⟨c0, c1, c2, c3, c4, c5, c6⟩ := (hR.keep l1 bo).at Ht.out
          have hkb := box_keep hBn
          have hzb := boxlt hBn
          cases he : r.h.toList.isEmpty
          · cases hcl : (t.h.toList == r.h.toList)
            · go_wp2
              exact ⟨⟨n + 1, by omega, by go_num, NoneOf.step Hn.out Ht.out (by simp [clash, he, hcl]), bl_trans hBn (bl_alloc (Below.refl _ _) _)⟩, by simp [intOf]; omega⟩
            · go_wp2
              go_ret
              exact ⟨⟨false, rfl, ⟨fun h => (by cases h), fun h => by have := h k r hlt Hr.out n t hnl Ht.out; simp [clash, he, hcl] at this⟩⟩, bl_alloc bo _⟩
          · go_wp2
            exact ⟨⟨n + 1, by omega, by go_num, NoneOf.step Hn.out Ht.out (by simp [clash, he]), bl_trans hBn (bl_alloc (Below.refl _ _) _)⟩, by simp [intOf]; omega⟩
        · have hne : n = k := by omega
          subst hne
          go_wp2
          exact ⟨⟨n + 1, by omega, by go_num, Ha.out.step Hr.out Hn.out, bo⟩, by simp [intOf]; omega⟩
    · go_wp2
      go_ret
      exact ⟨⟨true, rfl, ⟨fun _ j r hj hr => Ha.out j r (by omega) hr, fun _ => rfl⟩⟩, hB⟩

theorem build_all (w : World) : Sem.run Try.prog (Instr.buildSlice 69 4 #[(0, .func (.func 32) #[] #[]), (1, .func (.func 33) #[] #[]), (2, .func (.func 34) #[] #[]), (3, .func (.func 35) #[] #[])]) w = .ok (.slice (some ⟨w.heap.size, 0, none⟩) 4 4) (w.alloc (.cells #[.func (.func 32) #[] #[], .func (.func 33) #[] #[], .func (.func 34) #[] #[], .func (.func 35) #[] #[]] 34)) := by kernel_rfl

set_option maxHeartbeats 1000000 in
theorem implWantsOk (b off : Nat) (ws : List WantD) (w : World) (hR : RowsAt w b off ws) (l1 : b < w.heap.size) (hfit : ∀ r ∈ ws, r.fits) (hl : ws.length ≤ 1048576) :
    Calls Try.prog 12 #[.slice (some ⟨b, off, none⟩) ws.length ws.length] w fun e w' => (∃ q : Bool, e = .returned (.bool q) ∧ Says q ws) ∧ Below w.heap.size w w' := by
  have hba := build_all
  by_cases h10 : ws.length ≤ 10
  · go_enter Try.func12, Try.ntmps12
    go_wp2_with go_in
    clear hba
    refine wp_loop_rounds 5 ?_
    rw [rounds_succ]
    go_wp2_with fail
    refine (fewWants_any _ _ _ _).mono ?_
    rintro e w1 ⟨rfl, rfl⟩
    have d10 : decide (ws.length ≤ 10) = true := by simpa using h10
    go_wp2_with fail
    rw [rounds_succ]
    go_wp2_with fail
    have R0 := hR.keep l1 (bl_alloc (Below.refl _ _) (.cells #[.func (.func 32) #[] #[], .func (.func 33) #[] #[], .func (.func 34) #[] #[], .func (.func 35) #[] #[]] 34))
    have z0 : b < (w.alloc (.cells #[.func (.func 32) #[] #[], .func (.func 33) #[] #[], .func (.func 34) #[] #[], .func (.func 35) #[] #[]] 34)).heap.size := by simp; omega
    refine (eachWant b off _ ws _ R0 z0 hfit h10).mono ?_
    rintro e w2 ⟨⟨q2, rfl, h2⟩, b2⟩
    have k2 := box_keep b2
    cases q2
    · go_wp2
      go_ret
      exact ⟨⟨false, rfl, says_no (fun _ h => by have := h2.2 h.1; cases this)⟩, bl_trans (bl_alloc (Below.refl _ _) _) b2⟩
    have e2 : Hid _ := h2.1 rfl
    clear h2
    go_wp2_with fail
    rw [rounds_succ]
    go_wp2_with fail
    have R2 := R0.keep z0 b2
    have z2 : b < w2.heap.size := Nat.lt_of_lt_of_le z0 b2.size
    refine (ascendWants b off _ ws _ R2 z2 h10).mono ?_
    rintro e w3 ⟨⟨q3, rfl, h3⟩, b3⟩
    have b3' := bl_trans b2 b3
    clear k2
    have k3 := box_keep b3'
    cases q3
    · go_wp2
      go_ret
      exact ⟨⟨false, rfl, says_no (fun _ h => by have := h3.2 h.2.1; cases this)⟩, bl_trans (bl_alloc (Below.refl _ _) _) b3'⟩
    have e3 : Hid _ := h3.1 rfl
    clear h3
    go_wp2_with fail
    rw [rounds_succ]
    go_wp2_with fail
    have R3 := R2.keep z2 b3
    have z3 : b < w3.heap.size := Nat.lt_of_lt_of_le z2 b3.size
    refine (holdsDiffer b off ws _ R3 z3 h10).mono ?_
    rintro e w4 ⟨⟨q4, rfl, h4⟩, b4⟩
    have b4' := bl_trans b3' b4
    clear k3
    cases q4
    · go_wp2
      go_ret
      exact ⟨⟨false, rfl, says_no (fun _ h => by have := h4.2 h.2.2; cases this)⟩, bl_trans (bl_alloc (Below.refl _ _) _) b4'⟩
    have e4 : Hid _ := h4.1 rfl
    clear h4
    go_wp2_with fail
    rw [rounds_succ]
    go_wp2
    go_ret
    exact ⟨⟨true, rfl, says_yes ⟨e2.out, e3.out, e4.out⟩ (Nat.le_refl _) h10⟩, bl_trans (bl_alloc (Below.refl _ _) _) b4'⟩
  · go_enter Try.func12, Try.ntmps12
    go_wp2_with go_in
    clear hba
    refine wp_loop_rounds 1 ?_
    rw [rounds_succ]
    go_wp2_with fail
    refine (fewWants_any _ _ _ _).mono ?_
    rintro e w1 ⟨rfl, rfl⟩
    have d10 : decide (ws.length ≤ 10) = false := by simpa using h10
    go_wp2
    go_ret
    exact ⟨⟨false, rfl, says_no (fun h _ => h10 h)⟩, bl_alloc (Below.refl _ _) _⟩
end Go.Proofs.Ytbboidoiobehcaa.W
