/- A list of asks in a map by their holds. -/
import Derived.Test.YtmfcnckhgeggkabAsksS
import Derived.Maps.OwnSet
namespace Go.Proofs.Ytmfcnckhgeggkab.A
open Go.RowKit Go.Maps Go.WideMaps
set_option linter.unusedVariables false

theorem lawS : Keyed Try.prog 9 := string_keyed Try.underlying9
/-- An element of the map: that it is there is all that is asked. -/
def RUL (xs : List Value) : Option (DataW Unit × List MemPlace) :=
  match xs with
  | [.string _, .string _, .int .i64 _, .int .i64 _] => some (.lit (.bool true), [])
  | _ => none
def RU (v : Value) : Option (DataW Unit × List MemPlace) :=
  match v with
  | .agg xs => RUL xs.toList
  | _ => none
theorem RU_inv {v : Value} {z : DataW Unit × List MemPlace} (h : RU v = some z) : ∃ (a b : ByteArray) (c d : Int), v = .agg #[.string a, .string b, .int .i64 c, .int .i64 d] := by
  unfold RU at h
  split at h
  · rename_i xs
    obtain ⟨l⟩ := xs
    simp only at h
    unfold RUL at h
    split at h
    · exact ⟨_, _, _, _, rfl⟩
    · cases h
  · cases h
def keyL (x : ByteArray) : Lit := .string x.data.toList
def mapD (rs : List AskD) : DataW Unit := setOf (.lit (.bool true)) (rs.map (fun r => keyL r.h))
theorem mapD_step {rs : List AskD} {k : Nat} {r : AskD} (hr : rs[k]? = some r) : mapD (rs.take (k + 1)) = (mapD (rs.take k)).put (keyL r.h) (.lit (.bool true)) := by
  have hlt : k < rs.length := (List.getElem?_eq_some_iff.1 hr).1
  have he : rs[k] = r := (List.getElem?_eq_some_iff.1 hr).2
  rw [mapD, List.take_succ_eq_append_getElem hlt, List.map_append, List.map_singleton, he, setOf_snoc]
  rfl
theorem same_key (x y : ByteArray) : (keyL x).sameKey (keyL y) = (x.toList == y.toList) := by
  rw [ByteArray.toList_eq, ByteArray.toList_eq]
  by_cases h : x.data.toList = y.data.toList
  · have hk : (Lit.string y.data.toList).sameKey (Lit.string y.data.toList) = true := WideAt.sameKey_self (by exact trivial)
    rw [keyL, keyL, h, hk]; simp
  · have h1 : (keyL x).sameKey (keyL y) = false := by
      cases hs : (keyL x).sameKey (keyL y)
      · rfl
      · have := WideAt.sameKey_eq hs
        simp only [keyL, Lit.string.injEq] at this
        exact absurd this h
    rw [h1]; exact (beq_false_of_ne h).symm
theorem has_mapD (rs : List AskD) (x : ByteArray) : has (mapD rs) (keyL x) = true ↔ HasA rs x := by
  rw [mapD, has_setOf _ _ _ (by intro y hy; obtain ⟨r, -, rfl⟩ := List.mem_map.1 hy; trivial), List.any_map, List.any_eq_true]
  constructor
  · rintro ⟨r, hr, h⟩
    refine ⟨r, hr, ?_⟩
    rw [← same_key]; exact h
  · rintro ⟨r, hr, h⟩
    exact ⟨r, hr, by rw [← same_key] at h; exact h⟩
theorem owns_map_below {x y : World} {b n : Nat} {D : DataW Unit} (h : x.ownsMap Try.prog 9 RU b n D) (hb : Below x.heap.size x y) : y.ownsMap Try.prog 9 RU b n D :=
  h.kept (row := none) ⟨hb.os, hb.tape, hb.output, hb.size, fun k hk _ => hb.block k hk⟩ (by simp)

theorem map_step {w : World} (b n : Nat) (D : DataW Unit) (hown : w.ownsMap Try.prog 9 RU b n D) (hn : n < maxLen) (s : ByteArray) (val : Value) (hs : s.size ≤ maxLen) (hv : RU val = some (.lit (.bool true), [])) :
    ∃ w', Sem.run Try.prog (Instr.mapUpdate 110 (.map (some b)) (.string s) val) w = .ok () w' ∧ w'.ownsMap Try.prog 9 RU b (n + 1) (D.put (keyL s) (.lit (.bool true))) ∧ w.grownBy w' (some b) :=
  hown.update lawS (t := 110) (e := 93) Try.underlying110 hn (keyOf_string_mk Try.underlying9 hs) (val := val) (d := .lit (.bool true)) (ps := []) hv

theorem boxA {wr w' : World} {r : AskD} (hb : Below (wr.alloc (.cells #[.string r.h, .string r.c, .int .i64 r.f, .int .i64 r.t] 93)).heap.size (wr.alloc (.cells #[.string r.h, .string r.c, .int .i64 r.f, .int .i64 r.t] 93)) w') : w'.cell? ⟨wr.heap.size, 0, none⟩ = some (.string r.h) ∧ w'.cell? ⟨wr.heap.size, 1, none⟩ = some (.string r.c) ∧ w'.cell? ⟨wr.heap.size, 2, none⟩ = some (.int .i64 r.f) ∧ w'.cell? ⟨wr.heap.size, 3, none⟩ = some (.int .i64 r.t) := by
  have hk := box_keep hb
  exact ⟨by rw [hk 0]; simp [go_sem], by rw [hk 1]; simp [go_sem], by rw [hk 2]; simp [go_sem], by rw [hk 3]; simp [go_sem]⟩
theorem boxA_grown {wr w' w2 : World} {r : AskD} {B : Nat} (h : w'.cell? ⟨wr.heap.size, 0, none⟩ = some (.string r.h) ∧ w'.cell? ⟨wr.heap.size, 1, none⟩ = some (.string r.c) ∧ w'.cell? ⟨wr.heap.size, 2, none⟩ = some (.int .i64 r.f) ∧ w'.cell? ⟨wr.heap.size, 3, none⟩ = some (.int .i64 r.t)) (hg : w'.grownBy w2 (some B)) (hne : wr.heap.size ≠ B) : w2.cell? ⟨wr.heap.size, 0, none⟩ = some (.string r.h) ∧ w2.cell? ⟨wr.heap.size, 1, none⟩ = some (.string r.c) ∧ w2.cell? ⟨wr.heap.size, 2, none⟩ = some (.int .i64 r.f) ∧ w2.cell? ⟨wr.heap.size, 3, none⟩ = some (.int .i64 r.t) :=
  ⟨hg.cell h.1 (by simpa using hne), hg.cell h.2.1 (by simpa using hne), hg.cell h.2.2.1 (by simpa using hne), hg.cell h.2.2.2 (by simpa using hne)⟩
theorem make_map (n : Nat) (w : World) : Sem.run Try.prog (Instr.makeMap 110 (some (.int .i64 (n : Int)))) w = .ok (.map (some w.heap.size)) (w.alloc (.map #[] 0)) := by
  kernel_rfl

set_option maxRecDepth 4000 in
set_option maxHeartbeats 2000000 in
theorem byName (b off cap : Nat) (rs : List AskD) (w : World) (hR : RowsAt w b off rs) (l1 : b < w.heap.size) (hfit : ∀ r ∈ rs, r.fits) (hl : rs.length ≤ 1048576) :
    Calls Try.prog 95 #[.slice (some ⟨b, off, none⟩) rs.length cap, .func (.func 96) #[] #[]] w fun e w' => e = .returned (.map (some w.heap.size)) ∧ w'.ownsMap Try.prog 9 RU w.heap.size rs.length (mapD rs) ∧ Below w.heap.size w w' := by
  have hmm := make_map rs.length
  go_enter Try.func95, Try.ntmps95
  go_wp2
  clear hmm
  go_loopw [13] (fun i wx => ∃ (k : Nat), k ≤ rs.length ∧ i = .int .i64 k ∧ Hid (wx.ownsMap Try.prog 9 RU w.heap.size k (mapD (rs.take k))) ∧ Below w.heap.size w wx) (fun i _ => rs.length - (intOf i).toNat)
  case atStart => exact ⟨0, Nat.zero_le _, rfl, World.ownsMap_made _ _ _ _, bl_alloc (Below.refl _ _) _⟩
  case round =>
    obtain ⟨k, hk, rfl, Ho, hB⟩ := hrel
    by_cases hlt : k < rs.length
    · obtain ⟨r, hr⟩ : ∃ r, rs[k]? = some r := ⟨rs[k], List.getElem?_eq_getElem hlt⟩
      have Hr : Hid _ := hr
      obtain ⟨hf1, hf2⟩ := hfit r (List.mem_of_getElem? hr)
      obtain ⟨c0, c1, c2, c3⟩ := (hR.keep l1 hB).at hr
      clear hr
      have hne : wr.heap.size ≠ w.heap.size := by have := Ho.out.lt; omega
      go_wp2_with fail
      go_region_held3 (fun w' => w'.cell? ⟨wr.heap.size, 0, none⟩ = some (.string r.h) ∧ w'.cell? ⟨wr.heap.size, 1, none⟩ = some (.string r.c) ∧ w'.cell? ⟨wr.heap.size, 2, none⟩ = some (.int .i64 r.f) ∧ w'.cell? ⟨wr.heap.size, 3, none⟩ = some (.int .i64 r.t))
        (first | exact boxA (bl_drew (Below.refl _ _)) | exact boxA (bl_trans (bl_drew (Below.refl _ _)) hx) | exact boxA_grown (boxA (bl_trans (bl_drew (Below.refl _ _)) hx)) hg2 hne)
        (first | (go_at_call 96; refine (name_any r _).mono ?_; rintro e w' ⟨rfl, hx⟩) | (have hms := map_step w.heap.size k _ (owns_map_below (owns_map_below Ho.out (bl_drew (bl_alloc (Below.refl _ _) _))) hx) (by unfold maxLen; omega) r.h (.agg #[.string r.h, .string r.c, .int .i64 r.f, .int .i64 r.t]) hf1 rfl; obtain ⟨w2, hrun, ho2, hg2⟩ := hms; go_simp))
      have y1 := bl_trans (bl_trans hB (bl_alloc (Below.refl _ wr) _)) (bl_trans (bl_drew (Below.refl _ _)) hx)
      have Y2 : Hid (Below w.heap.size w w2) := Below.grown y1 hg2 y1.size (fun j hj => by cases hj; exact Nat.le_refl _)
      have O2 : Hid (w2.ownsMap Try.prog 9 RU w.heap.size (k + 1) (mapD (rs.take (k + 1)))) := by
        show World.ownsMap _ _ _ _ _ _ _
        rw [mapD_step Hr.out]; exact ho2
      clear y1 hx hg2 ho2 hrun
      go_wp2
      exact ⟨⟨k + 1, by omega, by go_num, O2.out, Y2.out⟩, by simp [intOf]; omega⟩
    · go_wp2
      go_ret
      have e : k = rs.length := by omega
      subst e
      rw [List.take_of_length_le (Nat.le_refl _)] at Ho
      exact ⟨rfl, Ho.out, hB⟩

theorem zeroA (w : World) : (zeroValue 93).run Try.prog w = .ok (.agg #[.string ⟨#[]⟩, .string ⟨#[]⟩, .int .i64 0, .int .i64 0]) w := by kernel_rfl
theorem look_step {w : World} (b n : Nat) (D : DataW Unit) (hown : w.ownsMap Try.prog 9 RU b n D) (s : ByteArray) (hs : s.size ≤ maxLen) :
    ∃ (x y : ByteArray) (z t : Int), Sem.run Try.prog (Instr.lookup 110 (.map (some b)) (.string s) true) w = .ok (.tuple #[.agg #[.string x, .string y, .int .i64 z, .int .i64 t], .bool (has D (keyL s))]) w := by
  obtain ⟨v, ps, hrun, hv⟩ := hown.look_ok lawS (t := 110) (e := 93) Try.underlying110 (zeroA w) (zd := .lit (.bool true)) (zp := []) rfl (keyOf_string_mk Try.underlying9 hs)
  obtain ⟨x, y, z, t, rfl⟩ := RU_inv hv
  exact ⟨x, y, z, t, hrun⟩

set_option maxRecDepth 4000 in
set_option maxHeartbeats 1000000 in
theorem closGiven (r : AskD) (bk b n : Nat) (D : DataW Unit) (w : World) (hc : w.cell? ⟨bk, 0, none⟩ = some (.map (some b))) (lk : bk < w.heap.size) (hown : w.ownsMap Try.prog 9 RU b n D) (hf : r.fits) :
    Calls Try.prog 98 #[.agg #[.string r.h, .string r.c, .int .i64 r.f, .int .i64 r.t], .pointer (some ⟨bk, 0, none⟩)] w fun e w' => e = .returned (.bool (!has D (keyL r.h))) ∧ Below w.heap.size w w' := by
  obtain ⟨x, y, z, t, hrun⟩ := look_step b n D (hown.alloc (.cells #[.string r.h, .string r.c, .int .i64 r.f, .int .i64 r.t] 93)) r.h hf.1
  have Ho : Hid _ := hown
  clear hown
  go_enter Try.func98, Try.ntmps98
  go_wp2
  go_ret
  exact ⟨rfl, by repeat (first | exact Below.refl _ _ | refine bl_alloc ?_ _)⟩
end Go.Proofs.Ytmfcnckhgeggkab.A
