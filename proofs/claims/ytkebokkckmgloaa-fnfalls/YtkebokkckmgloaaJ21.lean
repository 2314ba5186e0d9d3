import Derived.Test.YtkebokkckmgloaaJ13
import Derived.Test.YtkebokkckmgloaaJ19
import Derived.Test.YtkebokkckmgloaaJ20
import Derived.Maps.OwnSet
import Derived.Test.YtkebokkckmgloaaJ16
/- Asks that are ok: the program's side. -/
namespace Go.Proofs.Ytkebokkckmgloaa.A
open Go.RowKit
set_option linter.unusedVariables false

set_option maxHeartbeats 1000000 in
theorem askOk_any (r : AskD) (clock : Int) (w : World) (hf1 : r.h.size ≤ maxLen) (hf2 : r.c.size ≤ maxLen) :
    Calls Try.prog 174 #[.agg #[.string r.h, .string r.c, .int .i64 r.f, .int .i64 r.t], .int .i64 clock] w fun e w' => e = .returned (.bool (askB clock r)) ∧ Below w.heap.size w w' := by
  cases q1 : holdB r.h
  · go_enter Try.func174, Try.ntmps174
    go_wp2_with (first | (go_at_call 182; refine (implHold_any r.h _ hf1).mono ?_; rintro e w' ⟨rfl, rfl⟩) | (go_at_call 129; refine (implName_any r.c _ hf2).mono ?_; rintro e w' ⟨rfl, rfl⟩) | (go_at_call 130; refine (within_any _ _ _ _).mono ?_; rintro e w' ⟨rfl, rfl⟩))
    go_ret
    exact ⟨ret_b (by simp [askB, *]), bl_alloc (Below.refl _ _) _⟩
  cases q2 : nameB r.c
  · go_enter Try.func174, Try.ntmps174
    go_wp2_with (first | (go_at_call 182; refine (implHold_any r.h _ hf1).mono ?_; rintro e w' ⟨rfl, rfl⟩) | (go_at_call 129; refine (implName_any r.c _ hf2).mono ?_; rintro e w' ⟨rfl, rfl⟩) | (go_at_call 130; refine (within_any _ _ _ _).mono ?_; rintro e w' ⟨rfl, rfl⟩))
    go_ret
    exact ⟨ret_b (by simp [askB, *]), bl_alloc (Below.refl _ _) _⟩
  cases q4 : inB r.f 0 r.t
  · go_enter Try.func174, Try.ntmps174
    go_wp2_with (first | (go_at_call 182; refine (implHold_any r.h _ hf1).mono ?_; rintro e w' ⟨rfl, rfl⟩) | (go_at_call 129; refine (implName_any r.c _ hf2).mono ?_; rintro e w' ⟨rfl, rfl⟩) | (go_at_call 130; refine (within_any _ _ _ _).mono ?_; rintro e w' ⟨rfl, rfl⟩))
    go_ret
    exact ⟨ret_b (by simp [askB, *]), bl_alloc (Below.refl _ _) _⟩
  cases q3 : inB r.t 0 clock
  · go_enter Try.func174, Try.ntmps174
    go_wp2_with (first | (go_at_call 182; refine (implHold_any r.h _ hf1).mono ?_; rintro e w' ⟨rfl, rfl⟩) | (go_at_call 129; refine (implName_any r.c _ hf2).mono ?_; rintro e w' ⟨rfl, rfl⟩) | (go_at_call 130; refine (within_any _ _ _ _).mono ?_; rintro e w' ⟨rfl, rfl⟩))
    go_ret
    exact ⟨ret_b (by simp [askB, *]), bl_alloc (Below.refl _ _) _⟩
  · go_enter Try.func174, Try.ntmps174
    go_wp2_with (first | (go_at_call 182; refine (implHold_any r.h _ hf1).mono ?_; rintro e w' ⟨rfl, rfl⟩) | (go_at_call 129; refine (implName_any r.c _ hf2).mono ?_; rintro e w' ⟨rfl, rfl⟩) | (go_at_call 130; refine (within_any _ _ _ _).mono ?_; rintro e w' ⟨rfl, rfl⟩))
    go_ret
    exact ⟨ret_b (by simp [askB, *]), bl_alloc (Below.refl _ _) _⟩
theorem closAsk (r : AskD) (clock : Int) (bk : Nat) (w : World) (hc : w.cell? ⟨bk, 0, none⟩ = some (.int .i64 clock)) (lk : bk < w.heap.size) (hf : r.fits) :
    Calls Try.prog 173 #[.agg #[.string r.h, .string r.c, .int .i64 r.f, .int .i64 r.t], .pointer (some ⟨bk, 0, none⟩)] w fun e w' => e = .returned (.bool (askB clock r)) ∧ Below w.heap.size w w' := by
  go_enter Try.func173, Try.ntmps173
  go_wp2_with (go_at_call 174; refine (askOk_any r clock _ hf.1 hf.2).mono ?_; rintro e w' ⟨rfl, hx⟩)
  go_ret
  exact ⟨rfl, bl_trans (bl_alloc (Below.refl _ _) _) hx⟩

set_option maxRecDepth 4000 in
set_option maxHeartbeats 1000000 in
theorem implAsksOk (b off cap : Nat) (rs : List AskD) (clock : Int) (w : World) (hR : RowsAt w b off rs) (l1 : b < w.heap.size) (hfit : ∀ r ∈ rs, r.fits) (hl : rs.length ≤ 1048576) :
    Calls Try.prog 131 #[.slice (some ⟨b, off, none⟩) rs.length cap, .int .i64 clock] w fun e w' => (∃ q : Bool, e = .returned (.bool q) ∧ SaysA q clock rs) ∧ Below w.heap.size w w' := by
  by_cases h40 : rs.length ≤ 40
  · have hi40 : (rs.length : Int) ≤ 40 := by omega
    go_enter Try.func131, Try.ntmps131
    go_wp2_with fail
    have hb0 : Below w.heap.size w (w.alloc (.cells #[.int .i64 clock] 3)) := bl_alloc (Below.refl _ _) _
    refine (ascends b off cap rs _ (hR.keep l1 hb0) (by simp; omega) hl).mono ?_
    rintro e w1 ⟨⟨q1, rfl, h1⟩, b1⟩
    have B1 := bl_trans hb0 b1
    have H0 : Hid _ := h1
    clear h1
    cases q1
    · clear hb0 b1
      go_wp2
      go_ret
      exact ⟨⟨false, rfl, ⟨fun h => (by cases h), fun h => by have := H0.out.2 h.2.1; cases this⟩⟩, B1⟩
    · have H1 : Hid _ := H0.out.1 rfl
      have hck : w1.cell? ⟨w.heap.size, 0, none⟩ = some (.int .i64 clock) := by rw [box_keep b1 0]; simp [go_sem]
      have lck : w.heap.size < w1.heap.size := by have := b1.size; simp at this; omega
      have Hck : Hid _ := hck
      clear hck hb0 b1
      go_wp2_with fail
      refine (allOk w.heap.size (askB clock) b off cap rs w1 (hR.keep l1 B1) (Nat.lt_of_lt_of_le l1 B1.size) hl (fun r hr x hx => closAsk r clock w.heap.size x ((hx.cell (p := ⟨w.heap.size, 0, none⟩) lck).trans Hck.out) (Nat.lt_of_lt_of_le lck hx.size) (hfit r hr))).mono ?_
      rintro e w2 ⟨⟨q2, rfl, h2⟩, b2⟩
      have B2 := bl_trans B1 b2
      have H2 : Hid _ := h2
      clear b2 h2
      go_wp2
      go_ret
      exact ⟨⟨q2, rfl, ⟨fun h => ⟨h40, H1.out, H2.out.1 h⟩, fun h => H2.out.2 h.2.2⟩⟩, B2⟩
  · have hi40 : (40 : Int) < (rs.length : Int) := by omega
    have H40 : Hid _ := h40
    clear h40
    go_enter Try.func131, Try.ntmps131
    go_wp2
    go_ret
    first
    | exact ⟨Or.inl ⟨rfl, ⟨fun h => (by cases h), fun h => absurd h.1 H40.out⟩⟩, bl_alloc (Below.refl _ _) _⟩
    | exact ⟨⟨false, rfl, ⟨fun h => (by cases h), fun h => absurd h.1 H40.out⟩⟩, bl_alloc (Below.refl _ _) _⟩
end Go.Proofs.Ytkebokkckmgloaa.A
/- MateValid's checks: the program's side. -/
namespace Go.Proofs.Ytkebokkckmgloaa
open Go.RowKit
set_option linter.unusedVariables false

def SaysP (q : Bool) (m : MateD) : Prop := q = true ↔ partsB m = true
theorem down_or {m : MateD} (h : m.up = true ∨ DownSay m) (hu : m.up = false) : DownSay m := by
  rcases h with h' | h'
  · rw [hu] at h'; cases h'
  · exact h'
theorem implAlive_b (r : RunD) (w : World) : Calls Try.prog 23 #[.agg #[.string r.c, .int .i64 r.v, .string r.h, .int .i64 r.p, .int .i64 r.s, .int .i64 r.d, .int .i64 r.g, .int .i64 r.a, .int .i64 r.b, .int .i64 r.i, .int .i64 r.u]] w fun e w' => e = .returned (.bool (aliveB r.a)) ∧ Below w.heap.size w w' := by
  go_enter Try.func23, Try.ntmps23
  go_wp2_with (first | (go_at_call 76; refine (alive_any r.a _).mono ?_; rintro e w' ⟨rfl, rfl⟩) | (go_at_call 80; refine (runOf_any r.c r.h r.v r.p r.s r.d r.g r.a r.b r.i r.u _).mono ?_; rintro e w' ⟨rfl, rfl⟩))
  go_ret
  exact ⟨rfl, by repeat (first | exact Below.refl _ _ | refine bl_alloc ?_ _)⟩
theorem holds_b (r : RunD) (w : World) : Calls Try.prog 125 #[.agg #[.string r.c, .int .i64 r.v, .string r.h, .int .i64 r.p, .int .i64 r.s, .int .i64 r.d, .int .i64 r.g, .int .i64 r.a, .int .i64 r.b, .int .i64 r.i, .int .i64 r.u]] w fun e w' => e = .returned (.bool (!r.h.toList.isEmpty)) ∧ Below w.heap.size w w' := by
  cases he : r.h.toList.isEmpty
  · go_enter Try.func125, Try.ntmps125
    go_wp2
    go_ret
    exact ⟨rfl, by repeat (first | exact Below.refl _ _ | refine bl_alloc ?_ _)⟩
  · go_enter Try.func125, Try.ntmps125
    go_wp2
    go_ret
    exact ⟨rfl, by repeat (first | exact Below.refl _ _ | refine bl_alloc ?_ _)⟩
theorem closDown (r : RunD) (w : World) : Calls Try.prog 136 #[.agg #[.string r.c, .int .i64 r.v, .string r.h, .int .i64 r.p, .int .i64 r.s, .int .i64 r.d, .int .i64 r.g, .int .i64 r.a, .int .i64 r.b, .int .i64 r.i, .int .i64 r.u]] w fun e w' => e = .returned (.bool (heldB r)) ∧ Below w.heap.size w w' := by
  cases ha : aliveB r.a
  · have Hh : Hid (heldB r = !r.h.toList.isEmpty) := by show heldB r = _; simp [heldB, ha]
    go_enter Try.func136, Try.ntmps136
    go_wp2_with fail
    refine (implAlive_b r _).mono ?_
    rintro e w1 ⟨rfl, c1⟩
    have k1 := box_keep c1
    have C1 : Hid _ := c1
    clear c1
    go_wp2_with fail
    refine (holds_b r _).mono ?_
    rintro e w2 ⟨rfl, c2⟩
    have C2 : Hid _ := bl_trans C1.out c2
    clear c2
    go_wp2
    go_ret
    exact ⟨by rw [Hh.out]; rfl, bl_trans (bl_alloc (Below.refl _ _) _) C2.out⟩
  · have Hh : Hid (heldB r = true) := by show heldB r = _; simp [heldB, ha]
    go_enter Try.func136, Try.ntmps136
    go_wp2_with fail
    refine (implAlive_b r _).mono ?_
    rintro e w1 ⟨rfl, c1⟩
    have C1 : Hid _ := c1
    clear c1
    go_wp2
    go_ret
    exact ⟨by rw [Hh.out]; rfl, bl_trans (bl_alloc (Below.refl _ _) _) C1.out⟩

end Go.Proofs.Ytkebokkckmgloaa
/- A list of asks in a map by their holds. -/
namespace Go.Proofs.Ytkebokkckmgloaa.A
open Go.RowKit Go.Maps Go.WideMaps
set_option linter.unusedVariables false

theorem lawS : Keyed Try.prog 9 := string_keyed Try.underlying9
/-- An element of the map: that it is there is all that is asked. -/
def RUL (xs : List Value) : Option (DataW Unit × List MemPlace) :=
  match xs with
  | [.string _, .string _, .int .i64 _, .int .i64 _] => some (.lit (.bool true), [])
  | _ => none
def RU (v : Value) : Option (DataW Unit × List MemPlace) :=
  match v with
  | .agg xs => RUL xs.toList
  | _ => none
theorem RU_inv {v : Value} {z : DataW Unit × List MemPlace} (h : RU v = some z) : ∃ (a b : ByteArray) (c d : Int), v = .agg #[.string a, .string b, .int .i64 c, .int .i64 d] := by
  unfold RU at h
  split at h
  · rename_i xs
    obtain ⟨l⟩ := xs
    simp only at h
    unfold RUL at h
    split at h
    · exact ⟨_, _, _, _, rfl⟩
    · cases h
  · cases h
def keyL (x : ByteArray) : Lit := .string x.data.toList
def mapD (rs : List AskD) : DataW Unit := setOf (.lit (.bool true)) (rs.map (fun r => keyL r.h))
theorem mapD_step {rs : List AskD} {k : Nat} {r : AskD} (hr : rs[k]? = some r) : mapD (rs.take (k + 1)) = (mapD (rs.take k)).put (keyL r.h) (.lit (.bool true)) := by
  have hlt : k < rs.length := (List.getElem?_eq_some_iff.1 hr).1
  have he : rs[k] = r := (List.getElem?_eq_some_iff.1 hr).2
  rw [mapD, List.take_succ_eq_append_getElem hlt, List.map_append, List.map_singleton, he, setOf_snoc]
  rfl
theorem same_key (x y : ByteArray) : (keyL x).sameKey (keyL y) = (x.toList == y.toList) := by
  rw [ByteArray.toList_eq, ByteArray.toList_eq]
  by_cases h : x.data.toList = y.data.toList
  · have hk : (Lit.string y.data.toList).sameKey (Lit.string y.data.toList) = true := WideAt.sameKey_self (by exact trivial)
    rw [keyL, keyL, h, hk]; simp
  · have h1 : (keyL x).sameKey (keyL y) = false := by
      cases hs : (keyL x).sameKey (keyL y)
      · rfl
      · have := WideAt.sameKey_eq hs
        simp only [keyL, Lit.string.injEq] at this
        exact absurd this h
    rw [h1]; exact (beq_false_of_ne h).symm
theorem has_mapD (rs : List AskD) (x : ByteArray) : has (mapD rs) (keyL x) = true ↔ HasA rs x := by
  rw [mapD, has_setOf _ _ _ (by intro y hy; obtain ⟨r, -, rfl⟩ := List.mem_map.1 hy; trivial), List.any_map, List.any_eq_true]
  constructor
  · rintro ⟨r, hr, h⟩
    refine ⟨r, hr, ?_⟩
    rw [← same_key]; exact h
  · rintro ⟨r, hr, h⟩
    exact ⟨r, hr, by rw [← same_key] at h; exact h⟩
theorem owns_map_below {x y : World} {b n : Nat} {D : DataW Unit} (h : x.ownsMap Try.prog 9 RU b n D) (hb : Below x.heap.size x y) : y.ownsMap Try.prog 9 RU b n D :=
  h.kept (row := none) ⟨hb.os, hb.tape, hb.output, hb.size, fun k hk _ => hb.block k hk⟩ (by simp)

theorem map_step {w : World} (b n : Nat) (D : DataW Unit) (hown : w.ownsMap Try.prog 9 RU b n D) (hn : n < maxLen) (s : ByteArray) (val : Value) (hs : s.size ≤ maxLen) (hv : RU val = some (.lit (.bool true), [])) :
    ∃ w', Sem.run Try.prog (Instr.mapUpdate 152 (.map (some b)) (.string s) val) w = .ok () w' ∧ w'.ownsMap Try.prog 9 RU b (n + 1) (D.put (keyL s) (.lit (.bool true))) ∧ w.grownBy w' (some b) :=
  hown.update lawS (t := 152) (e := 99) Try.underlying152 hn (keyOf_string_mk Try.underlying9 hs) (val := val) (d := .lit (.bool true)) (ps := []) hv

theorem boxA {wr w' : World} {r : AskD} (hb : Below (wr.alloc (.cells #[.string r.h, .string r.c, .int .i64 r.f, .int .i64 r.t] 99)).heap.size (wr.alloc (.cells #[.string r.h, .string r.c, .int .i64 r.f, .int .i64 r.t] 99)) w') : w'.cell? ⟨wr.heap.size, 0, none⟩ = some (.string r.h) ∧ w'.cell? ⟨wr.heap.size, 1, none⟩ = some (.string r.c) ∧ w'.cell? ⟨wr.heap.size, 2, none⟩ = some (.int .i64 r.f) ∧ w'.cell? ⟨wr.heap.size, 3, none⟩ = some (.int .i64 r.t) := by
  have hk := box_keep hb
  exact ⟨by rw [hk 0]; simp [go_sem], by rw [hk 1]; simp [go_sem], by rw [hk 2]; simp [go_sem], by rw [hk 3]; simp [go_sem]⟩
theorem boxA_grown {wr w' w2 : World} {r : AskD} {B : Nat} (h : w'.cell? ⟨wr.heap.size, 0, none⟩ = some (.string r.h) ∧ w'.cell? ⟨wr.heap.size, 1, none⟩ = some (.string r.c) ∧ w'.cell? ⟨wr.heap.size, 2, none⟩ = some (.int .i64 r.f) ∧ w'.cell? ⟨wr.heap.size, 3, none⟩ = some (.int .i64 r.t)) (hg : w'.grownBy w2 (some B)) (hne : wr.heap.size ≠ B) : w2.cell? ⟨wr.heap.size, 0, none⟩ = some (.string r.h) ∧ w2.cell? ⟨wr.heap.size, 1, none⟩ = some (.string r.c) ∧ w2.cell? ⟨wr.heap.size, 2, none⟩ = some (.int .i64 r.f) ∧ w2.cell? ⟨wr.heap.size, 3, none⟩ = some (.int .i64 r.t) :=
  ⟨hg.cell h.1 (by simpa using hne), hg.cell h.2.1 (by simpa using hne), hg.cell h.2.2.1 (by simpa using hne), hg.cell h.2.2.2 (by simpa using hne)⟩
theorem make_map (n : Nat) (w : World) : Sem.run Try.prog (Instr.makeMap 152 (some (.int .i64 (n : Int)))) w = .ok (.map (some w.heap.size)) (w.alloc (.map #[] 0)) := by
  kernel_rfl

set_option maxRecDepth 4000 in
set_option maxHeartbeats 2000000 in
theorem byName (b off cap : Nat) (rs : List AskD) (w : World) (hR : RowsAt w b off rs) (l1 : b < w.heap.size) (hfit : ∀ r ∈ rs, r.fits) (hl : rs.length ≤ 1048576) :
    Calls Try.prog 132 #[.slice (some ⟨b, off, none⟩) rs.length cap, .func (.func 133) #[] #[]] w fun e w' => e = .returned (.map (some w.heap.size)) ∧ w'.ownsMap Try.prog 9 RU w.heap.size rs.length (mapD rs) ∧ Below w.heap.size w w' := by
  have hmm := make_map rs.length
  go_enter Try.func132, Try.ntmps132
  go_wp2
  clear hmm
  go_loopw [13] (fun i wx => ∃ (k : Nat), k ≤ rs.length ∧ i = .int .i64 k ∧ Hid (wx.ownsMap Try.prog 9 RU w.heap.size k (mapD (rs.take k))) ∧ Below w.heap.size w wx) (fun i _ => rs.length - (intOf i).toNat)
  case atStart => exact ⟨0, Nat.zero_le _, rfl, World.ownsMap_made _ _ _ _, bl_alloc (Below.refl _ _) _⟩
  case round =>
    obtain ⟨k, hk, rfl, Ho, hB⟩ := hrel
    by_cases hlt : k < rs.length
    · obtain ⟨r, hr⟩ : ∃ r, rs[k]? = some r := ⟨rs[k], List.getElem?_eq_getElem hlt⟩
      have Hr : Hid _ := hr
      obtain ⟨hf1, hf2⟩ := hfit r (List.mem_of_getElem? hr)
      obtain ⟨c0, c1, c2, c3⟩ := (hR.keep l1 hB).at hr
      clear hr
      have hne : wr.heap.size ≠ w.heap.size := by have := Ho.out.lt; omega
      go_wp2_with fail
      go_region_held3 (fun w' => w'.cell? ⟨wr.heap.size, 0, none⟩ = some (.string r.h) ∧ w'.cell? ⟨wr.heap.size, 1, none⟩ = some (.string r.c) ∧ w'.cell? ⟨wr.heap.size, 2, none⟩ = some (.int .i64 r.f) ∧ w'.cell? ⟨wr.heap.size, 3, none⟩ = some (.int .i64 r.t))
        (first | exact boxA (bl_drew (Below.refl _ _)) | exact boxA (bl_trans (bl_drew (Below.refl _ _)) hx) | exact boxA_grown (boxA (bl_trans (bl_drew (Below.refl _ _)) hx)) hg2 hne)
        (first | (go_at_call 133; refine (name_any r _).mono ?_; rintro e w' ⟨rfl, hx⟩) | (have hms := map_step w.heap.size k _ (owns_map_below (owns_map_below Ho.out (bl_drew (bl_alloc (Below.refl _ _) _))) hx) (by unfold maxLen; omega) r.h (.agg #[.string r.h, .string r.c, .int .i64 r.f, .int .i64 r.t]) hf1 rfl; obtain ⟨w2, hrun, ho2, hg2⟩ := hms; go_simp))
      have y1 := bl_trans (bl_trans hB (bl_alloc (Below.refl _ wr) _)) (bl_trans (bl_drew (Below.refl _ _)) hx)
      have Y2 : Hid (Below w.heap.size w w2) := Below.grown y1 hg2 y1.size (fun j hj => by cases hj; exact Nat.le_refl _)
      have O2 : Hid (w2.ownsMap Try.prog 9 RU w.heap.size (k + 1) (mapD (rs.take (k + 1)))) := by
        show World.ownsMap _ _ _ _ _ _ _
        rw [mapD_step Hr.out]; exact ho2
      clear y1 hx hg2 ho2 hrun
      go_wp2
      exact ⟨⟨k + 1, by omega, by go_num, O2.out, Y2.out⟩, by simp [intOf]; omega⟩
    · go_wp2
      go_ret
      have e : k = rs.length := by omega
      subst e
      rw [List.take_of_length_le (Nat.le_refl _)] at Ho
      exact ⟨rfl, Ho.out, hB⟩

theorem zeroA (w : World) : (zeroValue 99).run Try.prog w = .ok (.agg #[.string ⟨#[]⟩, .string ⟨#[]⟩, .int .i64 0, .int .i64 0]) w := by kernel_rfl
theorem look_step {w : World} (b n : Nat) (D : DataW Unit) (hown : w.ownsMap Try.prog 9 RU b n D) (s : ByteArray) (hs : s.size ≤ maxLen) :
    ∃ (x y : ByteArray) (z t : Int), Sem.run Try.prog (Instr.lookup 152 (.map (some b)) (.string s) true) w = .ok (.tuple #[.agg #[.string x, .string y, .int .i64 z, .int .i64 t], .bool (has D (keyL s))]) w := by
  obtain ⟨v, ps, hrun, hv⟩ := hown.look_ok lawS (t := 152) (e := 99) Try.underlying152 (zeroA w) (zd := .lit (.bool true)) (zp := []) rfl (keyOf_string_mk Try.underlying9 hs)
  obtain ⟨x, y, z, t, rfl⟩ := RU_inv hv
  exact ⟨x, y, z, t, hrun⟩

set_option maxRecDepth 4000 in
set_option maxHeartbeats 1000000 in
theorem closGiven (r : AskD) (bk b n : Nat) (D : DataW Unit) (w : World) (hc : w.cell? ⟨bk, 0, none⟩ = some (.map (some b))) (lk : bk < w.heap.size) (hown : w.ownsMap Try.prog 9 RU b n D) (hf : r.fits) :
    Calls Try.prog 135 #[.agg #[.string r.h, .string r.c, .int .i64 r.f, .int .i64 r.t], .pointer (some ⟨bk, 0, none⟩)] w fun e w' => e = .returned (.bool (!has D (keyL r.h))) ∧ Below w.heap.size w w' := by
  obtain ⟨x, y, z, t, hrun⟩ := look_step b n D (hown.alloc (.cells #[.string r.h, .string r.c, .int .i64 r.f, .int .i64 r.t] 99)) r.h hf.1
  have Ho : Hid _ := hown
  clear hown
  go_enter Try.func135, Try.ntmps135
  go_wp2
  go_ret
  exact ⟨rfl, by repeat (first | exact Below.refl _ _ | refine bl_alloc ?_ _)⟩
end Go.Proofs.Ytkebokkckmgloaa.A
/- MateValid: the program's side. -/
namespace Go.Proofs.Ytkebokkckmgloaa
open Go.RowKit
set_option linter.unusedVariables false

theorem noboth_iff (qs gs : List A.AskD) : (∀ r ∈ gs, (!Maps.has (A.mapD qs) (A.keyL r.h)) = true) ↔ ∀ r ∈ qs, ¬ A.HasA gs r.h := by
  constructor
  · rintro h r hr ⟨g, hg, he⟩
    have h1 := h g hg
    have h2 : Maps.has (A.mapD qs) (A.keyL g.h) = true := (A.has_mapD qs g.h).2 ⟨r, hr, by rw [beq_iff_eq] at he ⊢; exact he.symm⟩
    rw [h2] at h1; cases h1
  · intro h g hg
    cases hh : Maps.has (A.mapD qs) (A.keyL g.h)
    · rfl
    · obtain ⟨r, hr, he⟩ := (A.has_mapD qs g.h).1 hh
      exact absurd ⟨g, hg, by rw [beq_iff_eq] at he ⊢; exact he.symm⟩ (h r hr)
theorem build_valid (w : World) : Sem.run Try.prog (Instr.buildSlice 101 6 #[(0, .func (.func 70) #[] #[]), (1, .func (.func 71) #[] #[]), (2, .func (.func 72) #[] #[]), (3, .func (.func 73) #[] #[]), (4, .func (.func 74) #[] #[]), (5, .func (.func 75) #[] #[])]) w = .ok (.slice (some ⟨w.heap.size, 0, none⟩) 6 6) (w.alloc (.cells #[.func (.func 70) #[] #[], .func (.func 71) #[] #[], .func (.func 72) #[] #[], .func (.func 73) #[] #[], .func (.func 74) #[] #[], .func (.func 75) #[] #[]] 33)) := by kernel_rfl
end Go.Proofs.Ytkebokkckmgloaa
/- The empty mate, and a struct that is stored whole. -/
namespace Go.Proofs.Ytkebokkckmgloaa
open Go.RowKit
set_option linter.unusedVariables false

def zeroD : MateD := ⟨{ data := #[] }, false, 0, false, 0, [], [], [], []⟩
theorem slm_zero (w : World) (B : Nat) : SlM w zeroD (.slice none 0 0) (.slice none 0 0) (.slice none 0 0) (.slice none 0 0) B :=
  ⟨Or.inl ⟨rfl, rfl⟩, Or.inl ⟨rfl, rfl⟩, Or.inl ⟨rfl, rfl⟩, Or.inl ⟨rfl, rfl⟩, Or.inl rfl, Or.inl rfl, Or.inl rfl, Or.inl rfl, Or.inl rfl, Or.inl rfl⟩
theorem Sc.all {w x : World} {O : Array Value} (h : Sc w O x) (hO : O.size = 9) (l : List Value) (hl : l.length = 9) : Sc w l.toArray (x.setCells w.heap.size 0 l) := by
  have he : Ex w.heap.size x (x.setCells w.heap.size 0 l) := (Ex.refl _ _).cells _ _
  have hf := h.f
  have hth : x.there w.heap.size 0 l.length := fun j hj => by
    have h1 := h.b j
    have h2 : j < O.size := by omega
    rw [Array.getElem?_eq_getElem h2] at h1
    exact ⟨by rw [Nat.zero_add, h1]; rfl, by rw [Nat.zero_add]; exact h.c j⟩
  refine ⟨fun k => ?_, fun k => ?_, there_ex h.d (by omega) he (by omega), Ex.mono h.e he (Nat.le_refl _), Nat.lt_of_lt_of_le hf he.size⟩
  · by_cases e : k < l.length
    · have h1 := World.rangeAt_setCells_same x w.heap.size 0 l hth k l[k] (List.getElem?_eq_getElem e)
      rw [Nat.zero_add] at h1
      rw [h1]; simp [e]
    · rw [World.cell?_setCells_out _ _ _ _ _ (fun _ _ => Or.inr (by show 0 + l.length ≤ k; omega)), h.b k, Array.getElem?_eq_none (by omega), Array.getElem?_eq_none (by simp; omega)]
  · rw [World.frozen?_setCells]; exact h.c k
theorem Sc.box {w x : World} {O : Array Value} (h : Sc w O x) (hO : O.size = 9) : x.there w.heap.size 0 9 := fun j hj => by
  have h1 := h.b j
  have h2 : j < O.size := by omega
  rw [Array.getElem?_eq_getElem h2] at h1
  exact ⟨by rw [Nat.zero_add, h1]; rfl, by rw [Nat.zero_add]; exact h.c j⟩
theorem zeros_one : ∀ u ∈ ([.string { data := #[] }, .bool false, .int .i64 0, .bool false, .int .i64 0, .slice none 0 0, .slice none 0 0, .slice none 0 0, .slice none 0 0] : List Value), u.oneCell' = true := by
  intro u hu
  simp only [List.mem_cons, List.not_mem_nil, or_false] at hu
  rcases hu with rfl | rfl | rfl | rfl | rfl | rfl | rfl | rfl | rfl <;> rfl
theorem SlM.ex {w w' : World} {m : MateD} {s1 s2 s3 s4 : Value} {B k : Nat} (h : SlM w m s1 s2 s3 s4 B) (he : Ex k w w') (hk : k < B) : SlM w' m s1 s2 s3 s4 B :=
  ⟨h.a1.grown (W.ex_grown he) (ob_ne (N := k) (fun g hg => Nat.lt_of_lt_of_le hk (h.a1.lt g hg).1) (Nat.le_refl _)), h.a2.grown (ex_grown he) (ob_ne (N := k) (fun g hg => Nat.lt_of_lt_of_le hk (h.a2.lt g hg).1) (Nat.le_refl _)), h.a3.grown (A.ex_grown he) (ob_ne (N := k) (fun g hg => Nat.lt_of_lt_of_le hk (h.a3.lt g hg).1) (Nat.le_refl _)), h.a4.grown (A.ex_grown he) (ob_ne (N := k) (fun g hg => Nat.lt_of_lt_of_le hk (h.a4.lt g hg).1) (Nat.le_refl _)), h.d12, h.d13, h.d14, h.d23, h.d24, h.d34⟩
theorem SlM.low {w : World} {m : MateD} {s1 s2 s3 s4 : Value} {B B' : Nat} (h : SlM w m s1 s2 s3 s4 B) (hB : B' ≤ B) : SlM w m s1 s2 s3 s4 B' :=
  ⟨h.a1.low hB, h.a2.low hB, h.a3.low hB, h.a4.low hB, h.d12, h.d13, h.d14, h.d23, h.d24, h.d34⟩
theorem Sc.put {w x : World} {O : Array Value} (h : Sc w O x) (l : List Value) : Below w.heap.size w (x.setCells (w.heap.size + 1) 0 l) :=
  Ex.mono h.e ((Ex.refl (w.heap.size + 1) x).cells l 0) (Nat.le_succ _)
theorem saysV_false {m : MateD} (h : SaysV false m) : ¬ Valid m := fun hv => by have := h.2 hv; cases this
end Go.Proofs.Ytkebokkckmgloaa
