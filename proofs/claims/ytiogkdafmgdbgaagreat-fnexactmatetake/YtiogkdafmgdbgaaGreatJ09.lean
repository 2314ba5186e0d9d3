import Derived.Test.YtiogkdafmgdbgaaGreatJ01
import Derived.Maps.OwnSet
import Derived.Sort.KeysCollected
import Derived.Test.YtiogkdafmgdbgaaGreatJ08
import Derived.Test.YtiogkdafmgdbgaaGreatJ06
import Derived.Test.YtiogkdafmgdbgaaGreatJ07
import Derived.Test.YtiogkdafmgdbgaaGreatJ03
import Derived.Deep.RegionHeld3
import Derived.Laws.Pointers
import Derived.StillTactics
/- Names in order; a list as what a map holds. -/
namespace Go.Proofs.YtiogkdafmgdbgaaGreat.Ord
open Go.Maps Go.WideMaps
set_option linter.unusedVariables false
set_option linter.unusedSectionVars false

theorem ba_ext {x y : ByteArray} (h : x.data.toList = y.data.toList) : x = y := by
  obtain ⟨⟨a⟩⟩ := x
  obtain ⟨⟨b⟩⟩ := y
  simp at h
  rw [h]
theorem less_before : ∀ (x y : List UInt8), Op.bytesLess x y = bytesBefore x y
  | [], [] => rfl
  | [], _ :: _ => rfl
  | _ :: _, [] => rfl
  | a :: x, b :: y => by rw [Op.bytesLess, bytesBefore, less_before x y]
theorem lt_of_less : ∀ (x y : List UInt8), Op.bytesLess x y = decide (x < y)
  | [], [] => by simp [Op.bytesLess]
  | _ :: _, [] => by simp [Op.bytesLess]
  | [], _ :: _ => by simp [Op.bytesLess]
  | a :: x, b :: y => by
    rw [Op.bytesLess, lt_of_less x y]
    simp only [List.cons_lt_cons_iff]
    by_cases h1 : a < b <;> by_cases h2 : a = b <;> by_cases h3 : x < y <;> simp [h1, h2, h3]
theorem before_asymm {x y : List UInt8} (h : bytesBefore x y = true) : bytesBefore y x = false := by
  cases h' : bytesBefore y x
  · rfl
  · have := WideShapes.bytes_trans x y x h h'
    rw [WideAt.bytes_irrefl] at this; cases this
theorem before_ne {x y : List UInt8} (h : bytesBefore x y = true) : x ≠ y := fun e => by
  subst e; rw [WideAt.bytes_irrefl] at h; cases h

section
variable {α : Type} (key : α → List UInt8)
/-- Ascending by their names. -/
def Srt (l : List α) : Prop := l.Pairwise (fun q r => bytesBefore (key q) (key r) = true)
/-- What a map holds that a list is put into. -/
def dec (l : List α) : DataW α := .map (l.map fun r => (Lit.string (key r), .held r))
def insL (r : α) : List α → List α
  | [] => [r]
  | y :: l => if bytesBefore (key r) (key y) then r :: y :: l else y :: insL r l
def ins (r : α) (l : List α) : List α := insL key r (l.filter (fun y => !(key y == key r)))
def out (k : List UInt8) (l : List α) : List α := l.filter (fun y => !(key y == k))
theorem insert_dec (r : α) : ∀ l : List α, DataW.insert (Lit.string (key r), .held r) (l.map fun r => (Lit.string (key r), DataW.held r)) = (insL key r l).map fun r => (Lit.string (key r), .held r)
  | [] => rfl
  | y :: l => by
    show (if bytesBefore (key r) (key y) then _ else _) = _
    rw [insL]
    split
    · rfl
    · rw [List.map_cons]; congr 1; exact insert_dec r l
theorem filter_dec (k : List UInt8) (l : List α) : (l.map fun r => (Lit.string (key r), (DataW.held r : DataW α))).filter (fun p => !p.1.sameKey (Lit.string k)) = (out key k l).map fun r => (Lit.string (key r), .held r) := by
  unfold out
  rw [List.filter_map]
  rfl
theorem dec_put (r : α) (l : List α) : (dec key l).put (Lit.string (key r)) (.held r) = dec key (ins key r l) := by
  show DataW.map (DataW.insert _ _) = _
  rw [filter_dec, insert_dec]
  rfl
theorem dec_del (k : List UInt8) (l : List α) : (dec key l).del (Lit.string k) = dec key (out key k l) := by
  show DataW.map _ = _
  rw [filter_dec]
  rfl
theorem dec_has (k : List UInt8) (l : List α) : has (dec key l) (Lit.string k) = l.any (fun y => key y == k) := by
  show (l.map _).any _ = _
  rw [List.any_map]
  rfl
theorem dec_size (l : List α) : size (dec key l) = l.length := by
  show (l.map _).length = _
  simp
theorem dec_at {l : List α} {r : α} (hs : Srt key l) (hr : r ∈ l) (z : DataW α) : (dec key l).atKey (Lit.string (key r)) z = .held r := by
  refine WideAt.atKey_mem z trivial ?_ (List.mem_map.2 ⟨r, hr, rfl⟩)
  rw [List.pairwise_map]
  exact hs.imp (fun h e => before_ne h (Lit.string.inj e))
theorem dec_none {l : List α} {k : List UInt8} (h : l.any (fun y => key y == k) = false) (z : DataW α) : (dec key l).atKey (Lit.string k) z = z :=
  atKey_of_not_has (by rw [dec_has]; exact h) z
theorem ins_last {l : List α} {r : α} (h : ∀ y ∈ l, bytesBefore (key y) (key r) = true) : ins key r l = l ++ [r] := by
  have e : l.filter (fun y => !(key y == key r)) = l := List.filter_eq_self.2 (fun y hy => by simp [before_ne (h y hy)])
  unfold ins
  rw [e]
  clear e
  induction l with
  | nil => rfl
  | cons y l ih =>
    rw [insL, if_neg (by rw [before_asymm (h y (List.mem_cons_self ..))]; simp), ih (fun z hz => h z (List.mem_cons_of_mem _ hz)), List.cons_append]
theorem keys_dec (l : List α) : strKeys (dec key l) = l.map key := by
  show (l.map _).map _ = _
  rw [List.map_map]
  rfl
theorem before_le {x y : List UInt8} (h : bytesBefore x y = true) : x ≤ y := by
  have h1 : Op.bytesLess x y = true := by rw [less_before]; exact h
  rw [lt_of_less] at h1
  exact List.le_of_lt (of_decide_eq_true h1)
theorem sorted_keys {l : List α} (hs : Srt key l) {ss : List (List UInt8)} (hp : ss.Perm (strKeys (dec key l))) : ss.mergeSort (fun x y => decide (x ≤ y)) = l.map key := by
  have h1 : ss.mergeSort leB = (l.map key).mergeSort leB := by rw [← keys_dec key l]; exact mergeSort_of_perm hp
  rw [show ss.mergeSort (fun x y => decide (x ≤ y)) = ss.mergeSort leB from rfl, h1]
  refine List.mergeSort_of_pairwise ?_
  rw [List.pairwise_map]
  exact hs.imp (fun h => by simpa [leB] using before_le h)
theorem take_last {l : List α} {k : Nat} {r : α} (hs : Srt key l) (hr : l[k]? = some r) : ins key r (l.take k) = l.take (k + 1) := by
  have hlt : k < l.length := (List.getElem?_eq_some_iff.1 hr).1
  have he : l[k] = r := by rw [List.getElem?_eq_getElem hlt] at hr; exact Option.some.inj hr
  rw [List.take_succ_eq_append_getElem hlt, he]
  refine ins_last key (fun y hy => ?_)
  obtain ⟨i, hi⟩ := List.getElem?_of_mem hy
  rw [List.getElem?_take] at hi
  split at hi
  · rename_i hik
    obtain ⟨hil, rfl⟩ := List.getElem?_eq_some_iff.1 hi
    have := List.pairwise_iff_getElem.1 hs i k hil hlt hik
    rw [he] at this
    exact this
  · cases hi
theorem srt_of (l : List α) (h : ∀ j q r, l[j]? = some q → l[j + 1]? = some r → bytesBefore (key q) (key r) = true) : Srt key l := by
  induction l with
  | nil => exact List.Pairwise.nil
  | cons x l ih =>
    have ih' := ih (fun j q r hq hr => h (j + 1) q r (by simpa using hq) (by simpa using hr))
    refine List.Pairwise.cons ?_ ih'
    cases l with
    | nil => intro y hy; cases hy
    | cons y l =>
      have hxy := h 0 x y rfl rfl
      intro z hz
      rcases List.mem_cons.1 hz with rfl | hz
      · exact hxy
      · exact WideShapes.bytes_trans _ _ _ hxy (List.rel_of_pairwise_cons ih' hz)
end
end Go.Proofs.YtiogkdafmgdbgaaGreat.Ord
/- Lists in maps by their names: wants. -/
namespace Go.Proofs.YtiogkdafmgdbgaaGreat.W
open Go.RowKit Go.Maps Go.WideMaps
set_option linter.unusedVariables false

theorem lawV : Keyed Tryz.prog 9 := string_keyed Tryz.underlying9
def RVL (xs : List Value) : Option (DataW WantD × List MemPlace) :=
  match xs with
  | [.string c', .int .i64 v', .string h', .int .i64 p', .int .i64 s', .int .i64 d', .int .i64 g'] => some (.held ⟨c', h', v', p', s', d', g'⟩, [])
  | _ => none
/-- How an element of the map is read. -/
def RV (v : Value) : Option (DataW WantD × List MemPlace) :=
  match v with
  | .agg xs => RVL xs.toList
  | _ => none
theorem RV_inv {v : Value} {r : WantD} {ps : List MemPlace} (h : RV v = some (.held r, ps)) : v = .agg #[.string r.c, .int .i64 r.v, .string r.h, .int .i64 r.p, .int .i64 r.s, .int .i64 r.d, .int .i64 r.g] := by
  unfold RV at h
  split at h
  · rename_i xs
    obtain ⟨l⟩ := xs
    simp only at h
    unfold RVL at h
    split at h
    · simp only [Option.some.injEq, Prod.mk.injEq, DataW.held.injEq] at h
      obtain ⟨rfl, -⟩ := h
      rfl
    · cases h
  · cases h
def keyV (r : WantD) : List UInt8 := r.c.data.toList
def dec (rs : List WantD) : DataW WantD := Ord.dec keyV rs
def Srt (rs : List WantD) : Prop := Ord.Srt keyV rs
theorem srt_asc {rs : List WantD} (h : AscN rs rs.length) : Srt rs :=
  Ord.srt_of keyV rs (fun j q r hq hr => by
    have h1 := h j q r (by have := (List.getElem?_eq_some_iff.1 hr).1; omega) hq hr
    rw [Ord.less_before, ByteArray.toList_eq, ByteArray.toList_eq] at h1
    exact h1)
theorem mapv_below {x y : World} {b n : Nat} {D : DataW WantD} (h : x.ownsMap Tryz.prog 9 RV b n D) (hb : Below x.heap.size x y) : y.ownsMap Tryz.prog 9 RV b n D :=
  h.kept (row := none) ⟨hb.os, hb.tape, hb.output, hb.size, fun k hk _ => hb.block k hk⟩ (by simp)
theorem mapv_step {w : World} (b n : Nat) (rs : List WantD) (r : WantD) (hown : w.ownsMap Tryz.prog 9 RV b n (dec rs)) (hn : n < maxLen) (hs : r.c.size ≤ maxLen) :
    ∃ w', Sem.run Tryz.prog (Instr.mapUpdate 94 (.map (some b)) (.string r.c) (.agg #[.string r.c, .int .i64 r.v, .string r.h, .int .i64 r.p, .int .i64 r.s, .int .i64 r.d, .int .i64 r.g])) w = .ok () w' ∧ w'.ownsMap Tryz.prog 9 RV b (n + 1) (dec (Ord.ins keyV r rs)) ∧ w.grownBy w' (some b) := by
  have h := hown.update lawV (t := 94) (e := 57) Tryz.underlying94 hn (keyOf_string_mk Tryz.underlying9 hs) (val := .agg #[.string r.c, .int .i64 r.v, .string r.h, .int .i64 r.p, .int .i64 r.s, .int .i64 r.d, .int .i64 r.g]) (d := .held r) (ps := []) rfl
  have e : (dec rs).put (Lit.string r.c.data.toList) (.held r) = dec (Ord.ins keyV r rs) := Ord.dec_put keyV r rs
  rw [e] at h
  exact h
theorem boxV {wr w' : World} {r : WantD} (hb : Below (wr.alloc (.cells #[.string r.c, .int .i64 r.v, .string r.h, .int .i64 r.p, .int .i64 r.s, .int .i64 r.d, .int .i64 r.g] 57)).heap.size (wr.alloc (.cells #[.string r.c, .int .i64 r.v, .string r.h, .int .i64 r.p, .int .i64 r.s, .int .i64 r.d, .int .i64 r.g] 57)) w') : w'.cell? ⟨wr.heap.size, 0, none⟩ = some (.string r.c) ∧ w'.cell? ⟨wr.heap.size, 1, none⟩ = some (.int .i64 r.v) ∧ w'.cell? ⟨wr.heap.size, 2, none⟩ = some (.string r.h) ∧ w'.cell? ⟨wr.heap.size, 3, none⟩ = some (.int .i64 r.p) ∧ w'.cell? ⟨wr.heap.size, 4, none⟩ = some (.int .i64 r.s) ∧ w'.cell? ⟨wr.heap.size, 5, none⟩ = some (.int .i64 r.d) ∧ w'.cell? ⟨wr.heap.size, 6, none⟩ = some (.int .i64 r.g) := by
  have hk := box_keep hb
  exact ⟨by rw [hk 0]; simp [go_sem], by rw [hk 1]; simp [go_sem], by rw [hk 2]; simp [go_sem], by rw [hk 3]; simp [go_sem], by rw [hk 4]; simp [go_sem], by rw [hk 5]; simp [go_sem], by rw [hk 6]; simp [go_sem]⟩
theorem boxV_grown {wr w' w2 : World} {r : WantD} {B : Nat} (h : w'.cell? ⟨wr.heap.size, 0, none⟩ = some (.string r.c) ∧ w'.cell? ⟨wr.heap.size, 1, none⟩ = some (.int .i64 r.v) ∧ w'.cell? ⟨wr.heap.size, 2, none⟩ = some (.string r.h) ∧ w'.cell? ⟨wr.heap.size, 3, none⟩ = some (.int .i64 r.p) ∧ w'.cell? ⟨wr.heap.size, 4, none⟩ = some (.int .i64 r.s) ∧ w'.cell? ⟨wr.heap.size, 5, none⟩ = some (.int .i64 r.d) ∧ w'.cell? ⟨wr.heap.size, 6, none⟩ = some (.int .i64 r.g)) (hg : w'.grownBy w2 (some B)) (hne : wr.heap.size ≠ B) : w2.cell? ⟨wr.heap.size, 0, none⟩ = some (.string r.c) ∧ w2.cell? ⟨wr.heap.size, 1, none⟩ = some (.int .i64 r.v) ∧ w2.cell? ⟨wr.heap.size, 2, none⟩ = some (.string r.h) ∧ w2.cell? ⟨wr.heap.size, 3, none⟩ = some (.int .i64 r.p) ∧ w2.cell? ⟨wr.heap.size, 4, none⟩ = some (.int .i64 r.s) ∧ w2.cell? ⟨wr.heap.size, 5, none⟩ = some (.int .i64 r.d) ∧ w2.cell? ⟨wr.heap.size, 6, none⟩ = some (.int .i64 r.g) :=
  ⟨hg.cell h.1 (by simpa using hne), hg.cell h.2.1 (by simpa using hne), hg.cell h.2.2.1 (by simpa using hne), hg.cell h.2.2.2.1 (by simpa using hne), hg.cell h.2.2.2.2.1 (by simpa using hne), hg.cell h.2.2.2.2.2.1 (by simpa using hne), hg.cell h.2.2.2.2.2.2 (by simpa using hne)⟩
theorem make_mapV (n : Nat) (w : World) : Sem.run Tryz.prog (Instr.makeMap 94 (some (.int .i64 (n : Int)))) w = .ok (.map (some w.heap.size)) (w.alloc (.map #[] 0)) := by
  kernel_rfl

set_option maxRecDepth 4000 in
set_option maxHeartbeats 2000000 in
theorem byNameV (b off cap : Nat) (rs : List WantD) (w : World) (hR : RowsAt w b off rs) (l1 : b < w.heap.size) (hfit : ∀ r ∈ rs, r.c.size ≤ maxLen) (hl : rs.length ≤ 1048576) (hs : Srt rs) :
    Calls Tryz.prog 64 #[.slice (some ⟨b, off, none⟩) rs.length cap, .func (.func 65) #[] #[]] w fun e w' => e = .returned (.map (some w.heap.size)) ∧ w'.ownsMap Tryz.prog 9 RV w.heap.size rs.length (dec rs) ∧ Below w.heap.size w w' := by
  have hmm := make_mapV rs.length
  have HS : Hid (Srt rs) := hs
  clear hs
  go_enter Tryz.func64, Tryz.ntmps64
  go_wp2
  clear hmm
  go_loopw [13] (fun i wx => ∃ (k : Nat), k ≤ rs.length ∧ i = .int .i64 k ∧ Hid (wx.ownsMap Tryz.prog 9 RV w.heap.size k (dec (rs.take k))) ∧ Below w.heap.size w wx) (fun i _ => rs.length - (intOf i).toNat)
  case atStart => exact ⟨0, Nat.zero_le _, rfl, World.ownsMap_made _ _ _ _, bl_alloc (Below.refl _ _) _⟩
  case round =>
    obtain ⟨k, hk, rfl, Ho, hB⟩ := hrel
    by_cases hlt : k < rs.length
    · obtain ⟨r, hr⟩ : ∃ r, rs[k]? = some r := ⟨rs[k], List.getElem?_eq_getElem hlt⟩
      have Hr : Hid _ := hr
      have hf1 := hfit r (List.mem_of_getElem? hr)
      obtain ⟨c0, c1, c2, c3, c4, c5, c6⟩ := (hR.keep l1 hB).at hr
      clear hr
      have hne : wr.heap.size ≠ w.heap.size := by have := Ho.out.lt; omega
      go_wp2_with fail
      go_region_held3 (fun w' => w'.cell? ⟨wr.heap.size, 0, none⟩ = some (.string r.c) ∧ w'.cell? ⟨wr.heap.size, 1, none⟩ = some (.int .i64 r.v) ∧ w'.cell? ⟨wr.heap.size, 2, none⟩ = some (.string r.h) ∧ w'.cell? ⟨wr.heap.size, 3, none⟩ = some (.int .i64 r.p) ∧ w'.cell? ⟨wr.heap.size, 4, none⟩ = some (.int .i64 r.s) ∧ w'.cell? ⟨wr.heap.size, 5, none⟩ = some (.int .i64 r.d) ∧ w'.cell? ⟨wr.heap.size, 6, none⟩ = some (.int .i64 r.g))
        (first | exact boxV (bl_drew (Below.refl _ _)) | exact boxV (bl_trans (bl_drew (Below.refl _ _)) hx) | exact boxV_grown (boxV (bl_trans (bl_drew (Below.refl _ _)) hx)) hg2 hne)
        (first | (go_at_call 65; refine (name_any r _).mono ?_; rintro e w' ⟨rfl, hx⟩) | (have hms := mapv_step w.heap.size k (rs.take k) r (mapv_below (mapv_below Ho.out (bl_drew (bl_alloc (Below.refl _ _) _))) hx) (by unfold maxLen; omega) hf1; obtain ⟨w2, hrun, ho2, hg2⟩ := hms; go_simp))
      have y1 := bl_trans (bl_trans hB (bl_alloc (Below.refl _ wr) _)) (bl_trans (bl_drew (Below.refl _ _)) hx)
      have Y2 : Hid (Below w.heap.size w w2) := Below.grown y1 hg2 y1.size (fun j hj => by cases hj; exact Nat.le_refl _)
      have O2 : Hid (w2.ownsMap Tryz.prog 9 RV w.heap.size (k + 1) (dec (rs.take (k + 1)))) := by
        show World.ownsMap _ _ _ _ _ _ _
        rw [← Ord.take_last keyV HS.out Hr.out]; exact ho2
      clear y1 hx hg2 ho2 hrun
      go_wp2
      exact ⟨⟨k + 1, by omega, by go_num, O2.out, Y2.out⟩, by simp [intOf]; omega⟩
    · go_wp2
      go_ret
      have e : k = rs.length := by omega
      subst e
      rw [List.take_of_length_le (Nat.le_refl _)] at Ho
      exact ⟨rfl, Ho.out, hB⟩
theorem zeroV (w : World) : (zeroValue 57).run Tryz.prog w = .ok (.agg #[.string ⟨#[]⟩, .int .i64 0, .string ⟨#[]⟩, .int .i64 0, .int .i64 0, .int .i64 0, .int .i64 0]) w := by kernel_rfl
/-- 'x, ok := m[k]'. -/
theorem lookV {w : World} (b n : Nat) (rs : List WantD) (hown : w.ownsMap Tryz.prog 9 RV b n (dec rs)) (hs : Srt rs) (s : ByteArray) (hz : s.size ≤ maxLen) :
    (∃ r ∈ rs, r.c = s ∧ Sem.run Tryz.prog (Instr.lookup 94 (.map (some b)) (.string s) true) w = .ok (.tuple #[.agg #[.string r.c, .int .i64 r.v, .string r.h, .int .i64 r.p, .int .i64 r.s, .int .i64 r.d, .int .i64 r.g], .bool true]) w) ∨ ((∀ r ∈ rs, r.c ≠ s) ∧ Sem.run Tryz.prog (Instr.lookup 94 (.map (some b)) (.string s) true) w = .ok (.tuple #[.agg #[.string ⟨#[]⟩, .int .i64 0, .string ⟨#[]⟩, .int .i64 0, .int .i64 0, .int .i64 0, .int .i64 0], .bool false]) w) := by
  obtain ⟨v, ps, hrun, hv⟩ := hown.look_ok lawV (t := 94) (e := 57) Tryz.underlying94 (zeroV w) (zd := .held ⟨⟨#[]⟩, ⟨#[]⟩, 0, 0, 0, 0, 0⟩) (zp := []) rfl (keyOf_string_mk Tryz.underlying9 hz)
  have hh : has (dec rs) (Lit.string s.data.toList) = rs.any (fun y => keyV y == s.data.toList) := Ord.dec_has keyV _ rs
  rw [hh] at hrun
  cases ha : rs.any (fun y => keyV y == s.data.toList)
  · right
    refine ⟨fun r hr e => ?_, ?_⟩
    · have := List.any_eq_false.1 ha r hr
      rw [← e] at this
      simp [keyV] at this
    · rw [show (dec rs).atKey (Lit.string s.data.toList) (.held ⟨⟨#[]⟩, ⟨#[]⟩, 0, 0, 0, 0, 0⟩) = .held ⟨⟨#[]⟩, ⟨#[]⟩, 0, 0, 0, 0, 0⟩ from Ord.dec_none keyV ha _] at hv
      rw [RV_inv hv, ha] at hrun
      exact hrun
  · left
    obtain ⟨r, hr, he⟩ := List.any_eq_true.1 ha
    have e1 : r.c.data.toList = s.data.toList := by simpa [keyV] using he
    have e2 : r.c = s := Ord.ba_ext e1
    refine ⟨r, hr, e2, ?_⟩
    rw [show Lit.string s.data.toList = Lit.string (keyV r) from by rw [← e1]; rfl, show (dec rs).atKey (Lit.string (keyV r)) (.held ⟨⟨#[]⟩, ⟨#[]⟩, 0, 0, 0, 0, 0⟩) = .held r from Ord.dec_at keyV hs hr _] at hv
    rw [RV_inv hv, ha] at hrun
    exact hrun
end Go.Proofs.YtiogkdafmgdbgaaGreat.W
/- Rows of texts. -/
namespace Go.Proofs.YtiogkdafmgdbgaaGreat
open Go.RowKit
set_option linter.unusedVariables false

/-- The texts xs lie where the address says. -/
def StrAt (w : World) (a : Option Addr) (xs : List ByteArray) : Prop := xs = [] ∨ ∃ g, a = some ⟨g, 0, none⟩ ∧ g < w.heap.size ∧ ∀ k x, xs[k]? = some x → w.cell? ⟨g, k, none⟩ = some (.string x)
theorem StrAt.keep {w w' : World} {a : Option Addr} {xs : List ByteArray} (h : StrAt w a xs) (hb : Below w.heap.size w w') : StrAt w' a xs := by
  rcases h with h | ⟨g, h1, h2, h3⟩
  · exact Or.inl h
  · exact Or.inr ⟨g, h1, Nat.lt_of_lt_of_le h2 hb.size, fun k x hk => (hb.cell (p := ⟨g, k, none⟩) h2).trans (h3 k x hk)⟩
theorem str_shape {w : World} {base : Nat} {e : TypeId} {v : Value} {n : Nat} {xs : List Value} (h : w.ownsRow base e 1 v n xs) : ∃ a c, v = .slice a n c := by
  rcases h.2 with ⟨h1, h2⟩ | ⟨g, cap, cur, h1, -⟩
  · subst h2; exact ⟨none, 0, h1⟩
  · exact ⟨_, _, h1⟩
theorem str_at {w : World} {base : Nat} {e : TypeId} {a : Option Addr} {c : Nat} {xs : List ByteArray} (h : w.ownsRow base e 1 (.slice a xs.length c) xs.length (xs.map (fun x => .string x))) : StrAt w a xs := by
  obtain ⟨hl, ⟨h0, hn⟩ | ⟨g, cap, cur, h0, hb, hg, hnc, hcm, hcs, htk⟩⟩ := h
  · exact Or.inl (List.length_eq_zero_iff.1 hn)
  · cases h0
    refine Or.inr ⟨g, rfl, (Array.getElem?_eq_some_iff.1 hg).1, fun k x hk => ?_⟩
    have hf : (xs.map (fun x => Value.string x))[k]? = some (.string x) := by rw [List.getElem?_map, hk]; rfl
    rw [← htk, List.getElem?_take] at hf
    split at hf
    · rw [cell_of_row w g _ cur _ (0, 0) hg]
      simpa using hf
    · cases hf
end Go.Proofs.YtiogkdafmgdbgaaGreat
/- What stands in a map, in order: wants. -/
namespace Go.Proofs.YtiogkdafmgdbgaaGreat.W
open Go.RowKit Go.Maps Go.WideMaps
set_option linter.unusedVariables false

/-- What maps.Keys answers. -/
def KeysSay : Prop := ∀ (mb : Option Nat) (Wo : World), Calls Tryz.prog 96 #[.map mb] Wo fun e w' => e = .returned (.func (.func 113) #[] #[.pointer (some ⟨Wo.heap.size, 0, none⟩)]) ∧ w' = Wo.alloc (.cells #[.map mb] 94)
/-- What slices.Sorted answers of it. -/
def SortedSay : Prop := ∀ (b nn : Nat) (rs : List WantD) (w : World), w.ownsMap Tryz.prog 9 RV b nn (dec rs) → rs.length ≤ 1048576 →
  Calls Tryz.prog 95 #[.func (.func 113) #[] #[.pointer (some ⟨w.heap.size, 0, none⟩)]] (w.alloc (.cells #[.map (some b)] 94)) fun e w' => ∃ (v : Value) (ss : List (List UInt8)), e = .returned v ∧ ss.Perm (strKeys (dec rs)) ∧
    w'.ownsRow (w.alloc (.cells #[.map (some b)] 94)).heap.size 9 1 v ss.length ((ss.mergeSort (fun x y => decide (x ≤ y))).map encStr) ∧ Below (w.alloc (.cells #[.map (some b)] 94)).heap.size (w.alloc (.cells #[.map (some b)] 94)) w'
/-- 'm[k]', k there. -/
theorem atV {w : World} (b n : Nat) (rs : List WantD) (hown : w.ownsMap Tryz.prog 9 RV b n (dec rs)) (hs : Srt rs) (r : WantD) (hr : r ∈ rs) (hz : r.c.size ≤ maxLen) :
    Sem.run Tryz.prog (Instr.lookup 94 (.map (some b)) (.string r.c) false) w = .ok (.agg #[.string r.c, .int .i64 r.v, .string r.h, .int .i64 r.p, .int .i64 r.s, .int .i64 r.d, .int .i64 r.g]) w := by
  obtain ⟨v, ps, hrun, hv⟩ := hown.lookup lawV (t := 94) (e := 57) Tryz.underlying94 (zeroV w) (zd := .held ⟨⟨#[]⟩, ⟨#[]⟩, 0, 0, 0, 0, 0⟩) (zp := []) rfl (keyOf_string_mk Tryz.underlying9 hz)
  rw [show Lit.string r.c.data.toList = Lit.string (keyV r) from rfl, show (dec rs).atKey (Lit.string (keyV r)) (.held ⟨⟨#[]⟩, ⟨#[]⟩, 0, 0, 0, 0, 0⟩) = .held r from Ord.dec_at keyV hs hr _] at hv
  rw [RV_inv hv] at hrun
  exact hrun

theorem enc_key (r : WantD) : encStr (keyV r) = Value.string r.c := by
  show Value.string ⟨r.c.data.toList.toArray⟩ = _
  rw [Array.toArray_toList]
theorem sl_low {w : World} {v : Value} {l : List WantD} {B B' : Nat} (h : Sl w v l B) (hB : B' ≤ B) : Sl w v l B' := by
  rcases h with h | ⟨g, cap, h0, h1, h2, h3, h4⟩
  · exact Or.inl h
  · exact Or.inr ⟨g, cap, h0, Nat.le_trans hB h1, h2, h3, h4⟩
theorem flat_snoc' {rs : List WantD} {k : Nat} {r : WantD} (hr : rs[k]? = some r) : flatR (rs.take (k + 1)) = flatR (rs.take k) ++ r.cells := by
  have hlt : k < rs.length := (List.getElem?_eq_some_iff.1 hr).1
  have he : rs[k] = r := by rw [List.getElem?_eq_getElem hlt] at hr; exact Option.some.inj hr
  rw [List.take_succ_eq_append_getElem hlt, he]
  simp [flatR]

set_option maxRecDepth 4000 in
set_option maxHeartbeats 2000000 in
theorem inOrderV (hK : KeysSay) (hS : SortedSay) (b nn : Nat) (rs : List WantD) (w : World) (hown : w.ownsMap Tryz.prog 9 RV b nn (dec rs)) (hs : Srt rs) (hfit : ∀ r ∈ rs, r.c.size ≤ maxLen) (hl : rs.length ≤ 1048576) :
    Calls Tryz.prog 72 #[.map (some b)] w fun e w' => (∃ v, e = .returned v ∧ Sl w' v rs w.heap.size) ∧ Below w.heap.size w w' := by
  have HO : Hid (w.ownsMap Tryz.prog 9 RV b nn (dec rs)) := hown
  have HS : Hid (Srt rs) := hs
  have cK : Hid KeysSay := hK
  have cS : Hid SortedSay := hS
  have HF : Hid _ := hfit
  clear hown hs hK hS hfit
  obtain ⟨i0, hi, hz0, hz1, hz2⟩ := info_parts infoR
  go_enter Tryz.func72, Tryz.ntmps72
  go_wp2_with fail
  refine (cK.out _ _).mono ?_
  rintro e w' ⟨rfl, rfl⟩
  go_wp2_with fail
  refine (cS.out b nn rs _ HO.out hl).mono ?_
  rintro e w1 ⟨v, ss, rfl, hp, hrow, hb⟩
  have hlen : ss.length = rs.length := by rw [hp.length_eq, show strKeys (dec rs) = rs.map keyV from Ord.keys_dec keyV rs, List.length_map]
  rw [Ord.sorted_keys keyV HS.out hp, hlen] at hrow
  have B1 : Hid (Below w.heap.size w w1) := bl_trans (bl_alloc (Below.refl _ _) _) hb
  have O1 : Hid (w1.ownsMap Tryz.prog 9 RV b nn (dec rs)) := mapv_below HO.out B1.out
  obtain ⟨a, c, rfl⟩ := str_shape hrow
  have Hrow : Hid (StrAt w1 a (rs.map (fun r => r.c))) := str_at (by rw [List.length_map, List.map_map]; rw [List.map_map, show (encStr ∘ keyV) = ((fun x => Value.string x) ∘ fun r : WantD => r.c) from funext enc_key] at hrow; exact hrow)
  clear hrow hp hb hlen
  go_wp2_with fail
  go_loopw [3, 10] (fun v i wx => ∃ (k : Nat), k ≤ rs.length ∧ i = .int .i64 k ∧ wx.ownsRow w1.heap.size 57 7 v k (flatR (rs.take k)) ∧ Hid (Below w1.heap.size w1 wx)) (fun _ i _ => rs.length - (intOf i).toNat)
  case atStart => exact ⟨0, Nat.zero_le _, rfl, World.ownsRow_nil _ _ _ _, Below.refl _ _⟩
  case round =>
    obtain ⟨k, hk, rfl, hown, HB⟩ := hrel
    by_cases hlt : k < rs.length
    · obtain ⟨r, hr⟩ : ∃ r, rs[k]? = some r := ⟨rs[k], List.getElem?_eq_getElem hlt⟩
      have Hr : Hid _ := hr
      obtain ⟨g, rfl, hg, hc⟩ := (Hrow.out.keep HB.out).resolve_left (fun h => by rw [List.map_eq_nil_iff] at h; rw [h] at hlt; simp at hlt)
      have c0 := hc k r.c (by rw [List.getElem?_map, hr]; rfl)
      have hlk := atV b nn rs (mapv_below O1.out HB.out) HS.out r (List.mem_of_getElem? hr) (HF.out r (List.mem_of_getElem? hr))
      obtain ⟨xs, hxs⟩ : ∃ xs, xs = flatR (rs.take k) := ⟨_, rfl⟩
      rw [← hxs] at hown
      have Ho : Hid (wr.ownsRow w1.heap.size 57 7 u3 k xs) := hown
      have Hx : Hid _ := hxs
      have hzw : w1.heap.size ≤ wr.heap.size := HB.out.size
      have i1 : (k : Int) < (rs.length : Int) := by omega
      clear hr hown hxs hc
      go_wp2_with (at_builtin; refine wpList_append_own _ rfl _ _ 31 rfl w1.heap.size 57 i0 _ 7 72 Tryz.underlying31 hi hz0 hz1 hz2 rfl (by decide) _ k _ rfl (by exact owns_below Ho.out (by repeat (first | exact Below.refl _ _ | refine bl_alloc ?_ _))) ⟨_, 0, none⟩ 1 1 r.cells rfl rfl (new_cells _ _ (by simp) _ _ _ rfl) (cellsR_one _) (by unfold maxLen; omega) (by omega) (by simp; omega) ?_; intro v' w2 ho2 hg2 hn2)
      refine ⟨⟨k + 1, by omega, by go_num, ?_, Below.grown (by repeat (first | exact HB.out | refine bl_alloc ?_ _)) hg2 (by simp; omega) (owns_ge Ho.out)⟩, by simp [intOf]; omega⟩
      rw [flat_snoc' Hr.out, ← Hx.out]
      exact ho2
    · go_wp2
      go_ret
      have hk' : k = rs.length := by omega
      subst hk'
      rw [List.take_of_length_le (Nat.le_refl _)] at hown
      exact ⟨⟨_, rfl, sl_low (Sl.of_owns hown) B1.out.size⟩, bl_trans B1.out HB.out⟩
end Go.Proofs.YtiogkdafmgdbgaaGreat.W
/- all and ascends, at runs. -/
namespace Go.Proofs.YtiogkdafmgdbgaaGreat
open Go.RowKit
set_option linter.unusedVariables false

set_option maxRecDepth 4000 in
set_option maxHeartbeats 1000000 in
theorem allOk (bk : Nat) (P : RunD → Bool) (b off cap : Nat) (rs : List RunD) (w : World) (hR : RowsAt w b off rs) (l1 : b < w.heap.size) (hl : rs.length ≤ 1048576)
    (hF : ∀ r ∈ rs, ∀ x, Below w.heap.size w x → Calls Tryz.prog 101 #[.agg #[.string r.c, .int .i64 r.v, .string r.h, .int .i64 r.p, .int .i64 r.s, .int .i64 r.d, .int .i64 r.g, .int .i64 r.a, .int .i64 r.b, .int .i64 r.i, .int .i64 r.u], .pointer (some ⟨bk, 0, none⟩)] x fun e x' => e = .returned (.bool (P r)) ∧ Below x.heap.size x x') :
    Calls Tryz.prog 86 #[.slice (some ⟨b, off, none⟩) rs.length cap, .func (.func 101) #[] #[.pointer (some ⟨bk, 0, none⟩)]] w fun e w' => (∃ q : Bool, e = .returned (.bool q) ∧ (q = true ↔ ∀ r ∈ rs, P r = true)) ∧ Below w.heap.size w w' := by
  have HF : Hid _ := hF
  clear hF
  go_enter Tryz.func86, Tryz.ntmps86
  go_wp2
  go_loopw [9] (fun i wx => ∃ (k : Nat), k ≤ rs.length ∧ i = .int .i64 k ∧ Hid (∀ j r, j < k → rs[j]? = some r → P r = true) ∧ Below w.heap.size w wx) (fun i _ => rs.length - (intOf i).toNat)
  case atStart => exact ⟨0, Nat.zero_le _, rfl, fun j r h => by omega, Below.refl _ _⟩
  case round =>
    obtain ⟨k, hk, rfl, Ha, hB⟩ := hrel
    by_cases hlt : k < rs.length
    · obtain ⟨r, hr⟩ : ∃ r, rs[k]? = some r := ⟨rs[k], List.getElem?_eq_getElem hlt⟩
      have Hr : Hid _ := hr
      clear hr
      obtain ⟨c0, c1, c2, c3, c4, c5, c6, c7, c8, c9, c10⟩ := (hR.keep l1 hB).at Hr.out
      go_wp2_with fail
      refine (HF.out r (List.mem_of_getElem? Hr.out) _ (bl_alloc hB _)).mono ?_
      rintro e w1 ⟨rfl, hb⟩
      have hB1 := bl_trans (bl_alloc hB _) hb
      have Hb1 : Hid _ := hB1
      clear hB hb hB1
      cases hP : P r
      · go_wp2
        go_ret
        exact ⟨⟨false, rfl, ⟨fun h => (by cases h), fun h => by have := h r (List.mem_of_getElem? Hr.out); rw [hP] at this; cases this⟩⟩, Hb1.out⟩
      · go_wp2
        exact ⟨⟨k + 1, by omega, by go_num, (fun j q hj hq => by
          by_cases e : j = k
          · subst e; have hh := Hr.out; rw [hh] at hq; cases hq; exact hP
          · exact Ha.out j q (by omega) hq), Hb1.out⟩, by simp [intOf]; omega⟩
    · go_wp2
      go_ret
      exact ⟨⟨true, rfl, ⟨fun _ r hr => by
        obtain ⟨j, hj⟩ := List.getElem?_of_mem hr
        have hjl : j < rs.length := (List.getElem?_eq_some_iff.1 hj).1
        exact Ha.out j r (by omega) hj, fun _ => rfl⟩⟩, hB⟩

set_option maxRecDepth 4000 in
set_option maxHeartbeats 1000000 in
theorem allDown (P : RunD → Bool) (b off cap : Nat) (rs : List RunD) (w : World) (hR : RowsAt w b off rs) (l1 : b < w.heap.size) (hl : rs.length ≤ 1048576)
    (hF : ∀ r ∈ rs, ∀ x, Below w.heap.size w x → Calls Tryz.prog 87 #[.agg #[.string r.c, .int .i64 r.v, .string r.h, .int .i64 r.p, .int .i64 r.s, .int .i64 r.d, .int .i64 r.g, .int .i64 r.a, .int .i64 r.b, .int .i64 r.i, .int .i64 r.u]] x fun e x' => e = .returned (.bool (P r)) ∧ Below x.heap.size x x') :
    Calls Tryz.prog 86 #[.slice (some ⟨b, off, none⟩) rs.length cap, .func (.func 87) #[] #[]] w fun e w' => (∃ q : Bool, e = .returned (.bool q) ∧ (q = true ↔ ∀ r ∈ rs, P r = true)) ∧ Below w.heap.size w w' := by
  have HF : Hid _ := hF
  clear hF
  go_enter Tryz.func86, Tryz.ntmps86
  go_wp2
  go_loopw [9] (fun i wx => ∃ (k : Nat), k ≤ rs.length ∧ i = .int .i64 k ∧ Hid (∀ j r, j < k → rs[j]? = some r → P r = true) ∧ Below w.heap.size w wx) (fun i _ => rs.length - (intOf i).toNat)
  case atStart => exact ⟨0, Nat.zero_le _, rfl, fun j r h => by omega, Below.refl _ _⟩
  case round =>
    obtain ⟨k, hk, rfl, Ha, hB⟩ := hrel
    by_cases hlt : k < rs.length
    · obtain ⟨r, hr⟩ : ∃ r, rs[k]? = some r := ⟨rs[k], List.getElem?_eq_getElem hlt⟩
      have Hr : Hid _ := hr
      clear hr
      obtain ⟨c0, c1, c2, c3, c4, c5, c6, c7, c8, c9, c10⟩ := (hR.keep l1 hB).at Hr.out
      go_wp2_with fail
      refine (HF.out r (List.mem_of_getElem? Hr.out) _ (bl_alloc hB _)).mono ?_
      rintro e w1 ⟨rfl, hb⟩
      have hB1 := bl_trans (bl_alloc hB _) hb
      have Hb1 : Hid _ := hB1
      clear hB hb hB1
      cases hP : P r
      · go_wp2
        go_ret
        exact ⟨⟨false, rfl, ⟨fun h => (by cases h), fun h => by have := h r (List.mem_of_getElem? Hr.out); rw [hP] at this; cases this⟩⟩, Hb1.out⟩
      · go_wp2
        exact ⟨⟨k + 1, by omega, by go_num, (fun j q hj hq => by
          by_cases e : j = k
          · subst e; have hh := Hr.out; rw [hh] at hq; cases hq; exact hP
          · exact Ha.out j q (by omega) hq), Hb1.out⟩, by simp [intOf]; omega⟩
    · go_wp2
      go_ret
      exact ⟨⟨true, rfl, ⟨fun _ r hr => by
        obtain ⟨j, hj⟩ := List.getElem?_of_mem hr
        have hjl : j < rs.length := (List.getElem?_eq_some_iff.1 hj).1
        exact Ha.out j r (by omega) hj, fun _ => rfl⟩⟩, hB⟩

theorem name_any (r : RunD) (w : World) :
    Calls Tryz.prog 67 #[.agg #[.string r.c, .int .i64 r.v, .string r.h, .int .i64 r.p, .int .i64 r.s, .int .i64 r.d, .int .i64 r.g, .int .i64 r.a, .int .i64 r.b, .int .i64 r.i, .int .i64 r.u]] w fun e w' => e = .returned (.string r.c) ∧ Below w.heap.size w w' := by
  go_enter Tryz.func67, Tryz.ntmps67
  go_wp2
  go_ret
  exact ⟨rfl, by repeat (first | exact Below.refl _ _ | refine bl_alloc ?_ _)⟩
/-- Ascending by their names, the first n. -/
def AscN (rs : List RunD) (n : Nat) : Prop := ∀ j q r, j + 1 < n → rs[j]? = some q → rs[j + 1]? = some r → Op.bytesLess q.c.toList r.c.toList = true
theorem AscN.step {rs : List RunD} {k : Nat} {q r : RunD} (h : AscN rs (k + 1)) (hq : rs[k]? = some q) (hr : rs[k + 1]? = some r) (hs : Op.bytesLess q.c.toList r.c.toList = true) : AscN rs (k + 1 + 1) := by
  intro j q' r' hj hq' hr'
  by_cases e : j = k
  · subst e; rw [hq] at hq'; rw [hr] at hr'; cases hq'; cases hr'; exact hs
  · exact h j q' r' (by omega) hq' hr'
theorem keepAsc {x w' : World} {b off m : Nat} {rs : List RunD} {r q : RunD} (hk : rs[m + 1]? = some r) (hq : rs[m]? = some q) (h1 : RowsAt x b off rs) (l1 : b < x.heap.size) (hb : Below x.heap.size x w') :
    Below x.heap.size x w' ∧ (w'.cell? ⟨b, off + (m + 1) * 11, none⟩ = some (.string r.c) ∧ w'.cell? ⟨b, off + (m + 1) * 11 + 1, none⟩ = some (.int .i64 r.v) ∧ w'.cell? ⟨b, off + (m + 1) * 11 + 2, none⟩ = some (.string r.h) ∧ w'.cell? ⟨b, off + (m + 1) * 11 + 3, none⟩ = some (.int .i64 r.p) ∧ w'.cell? ⟨b, off + (m + 1) * 11 + 4, none⟩ = some (.int .i64 r.s) ∧ w'.cell? ⟨b, off + (m + 1) * 11 + 5, none⟩ = some (.int .i64 r.d) ∧ w'.cell? ⟨b, off + (m + 1) * 11 + 6, none⟩ = some (.int .i64 r.g) ∧ w'.cell? ⟨b, off + (m + 1) * 11 + 7, none⟩ = some (.int .i64 r.a) ∧ w'.cell? ⟨b, off + (m + 1) * 11 + 8, none⟩ = some (.int .i64 r.b) ∧ w'.cell? ⟨b, off + (m + 1) * 11 + 9, none⟩ = some (.int .i64 r.i) ∧ w'.cell? ⟨b, off + (m + 1) * 11 + 10, none⟩ = some (.int .i64 r.u)) ∧ (w'.cell? ⟨b, off + m * 11, none⟩ = some (.string q.c) ∧ w'.cell? ⟨b, off + m * 11 + 1, none⟩ = some (.int .i64 q.v) ∧ w'.cell? ⟨b, off + m * 11 + 2, none⟩ = some (.string q.h) ∧ w'.cell? ⟨b, off + m * 11 + 3, none⟩ = some (.int .i64 q.p) ∧ w'.cell? ⟨b, off + m * 11 + 4, none⟩ = some (.int .i64 q.s) ∧ w'.cell? ⟨b, off + m * 11 + 5, none⟩ = some (.int .i64 q.d) ∧ w'.cell? ⟨b, off + m * 11 + 6, none⟩ = some (.int .i64 q.g) ∧ w'.cell? ⟨b, off + m * 11 + 7, none⟩ = some (.int .i64 q.a) ∧ w'.cell? ⟨b, off + m * 11 + 8, none⟩ = some (.int .i64 q.b) ∧ w'.cell? ⟨b, off + m * 11 + 9, none⟩ = some (.int .i64 q.i) ∧ w'.cell? ⟨b, off + m * 11 + 10, none⟩ = some (.int .i64 q.u)) := ⟨hb, (h1.keep l1 hb).at hk, (h1.keep l1 hb).at hq⟩

set_option maxRecDepth 4000 in
set_option maxHeartbeats 2000000 in
theorem ascends (b off cap : Nat) (rs : List RunD) (w : World) (hR : RowsAt w b off rs) (l1 : b < w.heap.size) (hl : rs.length ≤ 1048576) :
    Calls Tryz.prog 100 #[.slice (some ⟨b, off, none⟩) rs.length cap, .func (.func 67) #[] #[]] w fun e w' => (∃ q : Bool, e = .returned (.bool q) ∧ (q = true ↔ AscN rs rs.length)) ∧ Below w.heap.size w w' := by
  go_enter Tryz.func100, Tryz.ntmps100
  go_wp2
  go_loopw [5] (fun i wx => ∃ (m : Nat), m ≤ rs.length ∧ i = .int .i64 ((m : Int) + 1) ∧ Hid (AscN rs (m + 1)) ∧ Below w.heap.size w wx) (fun i _ => rs.length + 1 - (intOf i).toNat)
  case atStart => exact ⟨0, Nat.zero_le _, rfl, (fun j q r hj _ _ => by omega), Below.refl _ _⟩
  case round =>
    obtain ⟨m, hk, rfl, Ha, hB⟩ := hrel
    by_cases hlt : m + 1 < rs.length
    · obtain ⟨r, hr⟩ : ∃ r, rs[m + 1]? = some r := ⟨rs[m + 1], List.getElem?_eq_getElem hlt⟩
      obtain ⟨q, hq⟩ : ∃ q, rs[m]? = some q := ⟨rs[m], List.getElem?_eq_getElem (by omega)⟩
      have Hr : Hid _ := hr
      have Hq : Hid _ := hq
      clear hr hq
      have g1 := hR.keep l1 hB
      have z1 : b < wr.heap.size := Nat.lt_of_lt_of_le l1 hB.size
      have i0 : (0 : Int) ≤ (m : Int) := by omega
      have i1 : (m : Int) + 1 < (rs.length : Int) := by omega
      have i2 : (m : Int) < (rs.length : Int) := by omega
      have i3 : (0 : Int) ≤ (m : Int) + 1 := by omega
      have iw : IntKind.i64.wrap (m : Int) = (m : Int) := by rw [IntKind.wrap_i64]; omega
      cases hasc : Op.bytesLess q.c.toList r.c.toList
      · go_wp2_with fail
        go_region_held3 (fun w' => Below wr.heap.size wr w' ∧ (w'.cell? ⟨b, off + (m + 1) * 11, none⟩ = some (.string r.c) ∧ w'.cell? ⟨b, off + (m + 1) * 11 + 1, none⟩ = some (.int .i64 r.v) ∧ w'.cell? ⟨b, off + (m + 1) * 11 + 2, none⟩ = some (.string r.h) ∧ w'.cell? ⟨b, off + (m + 1) * 11 + 3, none⟩ = some (.int .i64 r.p) ∧ w'.cell? ⟨b, off + (m + 1) * 11 + 4, none⟩ = some (.int .i64 r.s) ∧ w'.cell? ⟨b, off + (m + 1) * 11 + 5, none⟩ = some (.int .i64 r.d) ∧ w'.cell? ⟨b, off + (m + 1) * 11 + 6, none⟩ = some (.int .i64 r.g) ∧ w'.cell? ⟨b, off + (m + 1) * 11 + 7, none⟩ = some (.int .i64 r.a) ∧ w'.cell? ⟨b, off + (m + 1) * 11 + 8, none⟩ = some (.int .i64 r.b) ∧ w'.cell? ⟨b, off + (m + 1) * 11 + 9, none⟩ = some (.int .i64 r.i) ∧ w'.cell? ⟨b, off + (m + 1) * 11 + 10, none⟩ = some (.int .i64 r.u)) ∧ (w'.cell? ⟨b, off + m * 11, none⟩ = some (.string q.c) ∧ w'.cell? ⟨b, off + m * 11 + 1, none⟩ = some (.int .i64 q.v) ∧ w'.cell? ⟨b, off + m * 11 + 2, none⟩ = some (.string q.h) ∧ w'.cell? ⟨b, off + m * 11 + 3, none⟩ = some (.int .i64 q.p) ∧ w'.cell? ⟨b, off + m * 11 + 4, none⟩ = some (.int .i64 q.s) ∧ w'.cell? ⟨b, off + m * 11 + 5, none⟩ = some (.int .i64 q.d) ∧ w'.cell? ⟨b, off + m * 11 + 6, none⟩ = some (.int .i64 q.g) ∧ w'.cell? ⟨b, off + m * 11 + 7, none⟩ = some (.int .i64 q.a) ∧ w'.cell? ⟨b, off + m * 11 + 8, none⟩ = some (.int .i64 q.b) ∧ w'.cell? ⟨b, off + m * 11 + 9, none⟩ = some (.int .i64 q.i) ∧ w'.cell? ⟨b, off + m * 11 + 10, none⟩ = some (.int .i64 q.u)))
          (first | exact keepAsc Hr.out Hq.out g1 z1 (bl_drew (Below.refl _ _)) | exact keepAsc Hr.out Hq.out g1 z1 (bl_trans (bl_drew (Below.refl _ _)) hx) | exact keepAsc Hr.out Hq.out g1 z1 (bl_trans (bl_trans (bl_drew (Below.refl _ _)) hx) hy))
          (first | (go_at_call 67; refine (name_any q _).mono ?_; rintro e w' ⟨rfl, hx⟩) | (go_at_call 67; refine (name_any r _).mono ?_; rintro e w'' ⟨rfl, hy⟩))
        have y1 := bl_trans (bl_trans (bl_drew (Below.refl _ wr)) hx) hy
        have Hb1 : Hid _ := bl_trans hB y1
        clear hx hy y1 hB g1
        go_wp2
        go_ret
        exact ⟨⟨false, rfl, ⟨fun h => (by cases h), fun h => by have := h m q r (by omega) Hq.out Hr.out; rw [hasc] at this; cases this⟩⟩, Hb1.out⟩
      · go_wp2_with fail
        go_region_held3 (fun w' => Below wr.heap.size wr w' ∧ (w'.cell? ⟨b, off + (m + 1) * 11, none⟩ = some (.string r.c) ∧ w'.cell? ⟨b, off + (m + 1) * 11 + 1, none⟩ = some (.int .i64 r.v) ∧ w'.cell? ⟨b, off + (m + 1) * 11 + 2, none⟩ = some (.string r.h) ∧ w'.cell? ⟨b, off + (m + 1) * 11 + 3, none⟩ = some (.int .i64 r.p) ∧ w'.cell? ⟨b, off + (m + 1) * 11 + 4, none⟩ = some (.int .i64 r.s) ∧ w'.cell? ⟨b, off + (m + 1) * 11 + 5, none⟩ = some (.int .i64 r.d) ∧ w'.cell? ⟨b, off + (m + 1) * 11 + 6, none⟩ = some (.int .i64 r.g) ∧ w'.cell? ⟨b, off + (m + 1) * 11 + 7, none⟩ = some (.int .i64 r.a) ∧ w'.cell? ⟨b, off + (m + 1) * 11 + 8, none⟩ = some (.int .i64 r.b) ∧ w'.cell? ⟨b, off + (m + 1) * 11 + 9, none⟩ = some (.int .i64 r.i) ∧ w'.cell? ⟨b, off + (m + 1) * 11 + 10, none⟩ = some (.int .i64 r.u)) ∧ (w'.cell? ⟨b, off + m * 11, none⟩ = some (.string q.c) ∧ w'.cell? ⟨b, off + m * 11 + 1, none⟩ = some (.int .i64 q.v) ∧ w'.cell? ⟨b, off + m * 11 + 2, none⟩ = some (.string q.h) ∧ w'.cell? ⟨b, off + m * 11 + 3, none⟩ = some (.int .i64 q.p) ∧ w'.cell? ⟨b, off + m * 11 + 4, none⟩ = some (.int .i64 q.s) ∧ w'.cell? ⟨b, off + m * 11 + 5, none⟩ = some (.int .i64 q.d) ∧ w'.cell? ⟨b, off + m * 11 + 6, none⟩ = some (.int .i64 q.g) ∧ w'.cell? ⟨b, off + m * 11 + 7, none⟩ = some (.int .i64 q.a) ∧ w'.cell? ⟨b, off + m * 11 + 8, none⟩ = some (.int .i64 q.b) ∧ w'.cell? ⟨b, off + m * 11 + 9, none⟩ = some (.int .i64 q.i) ∧ w'.cell? ⟨b, off + m * 11 + 10, none⟩ = some (.int .i64 q.u)))
          (first | exact keepAsc Hr.out Hq.out g1 z1 (bl_drew (Below.refl _ _)) | exact keepAsc Hr.out Hq.out g1 z1 (bl_trans (bl_drew (Below.refl _ _)) hx) | exact keepAsc Hr.out Hq.out g1 z1 (bl_trans (bl_trans (bl_drew (Below.refl _ _)) hx) hy))
          (first | (go_at_call 67; refine (name_any q _).mono ?_; rintro e w' ⟨rfl, hx⟩) | (go_at_call 67; refine (name_any r _).mono ?_; rintro e w'' ⟨rfl, hy⟩))
        have y1 := bl_trans (bl_trans (bl_drew (Below.refl _ wr)) hx) hy
        have Hb1 : Hid _ := bl_trans hB y1
        clear hx hy y1 hB g1
        go_wp2
        exact ⟨⟨m + 1, by omega, by go_num, Ha.out.step Hq.out Hr.out hasc, Hb1.out⟩, by simp [intOf]; omega⟩
    · go_wp2
      go_ret
      exact ⟨⟨true, rfl, ⟨fun _ j q r hj hq hr => Ha.out j q r (by omega) hq hr, fun _ => rfl⟩⟩, hB⟩
end Go.Proofs.YtiogkdafmgdbgaaGreat
/- Lists in maps by their names: runs. -/
namespace Go.Proofs.YtiogkdafmgdbgaaGreat
open Go.RowKit Go.Maps Go.WideMaps
set_option linter.unusedVariables false

theorem lawV : Keyed Tryz.prog 9 := string_keyed Tryz.underlying9
def RVL (xs : List Value) : Option (DataW RunD × List MemPlace) :=
  match xs with
  | [.string c', .int .i64 v', .string h', .int .i64 p', .int .i64 s', .int .i64 d', .int .i64 g', .int .i64 a', .int .i64 b', .int .i64 i', .int .i64 u'] => some (.held ⟨c', h', v', p', s', d', g', a', b', i', u'⟩, [])
  | _ => none
/-- How an element of the map is read. -/
def RV (v : Value) : Option (DataW RunD × List MemPlace) :=
  match v with
  | .agg xs => RVL xs.toList
  | _ => none
theorem RV_inv {v : Value} {r : RunD} {ps : List MemPlace} (h : RV v = some (.held r, ps)) : v = .agg #[.string r.c, .int .i64 r.v, .string r.h, .int .i64 r.p, .int .i64 r.s, .int .i64 r.d, .int .i64 r.g, .int .i64 r.a, .int .i64 r.b, .int .i64 r.i, .int .i64 r.u] := by
  unfold RV at h
  split at h
  · rename_i xs
    obtain ⟨l⟩ := xs
    simp only at h
    unfold RVL at h
    split at h
    · simp only [Option.some.injEq, Prod.mk.injEq, DataW.held.injEq] at h
      obtain ⟨rfl, -⟩ := h
      rfl
    · cases h
  · cases h
def keyV (r : RunD) : List UInt8 := r.c.data.toList
def dec (rs : List RunD) : DataW RunD := Ord.dec keyV rs
def Srt (rs : List RunD) : Prop := Ord.Srt keyV rs
theorem srt_asc {rs : List RunD} (h : AscN rs rs.length) : Srt rs :=
  Ord.srt_of keyV rs (fun j q r hq hr => by
    have h1 := h j q r (by have := (List.getElem?_eq_some_iff.1 hr).1; omega) hq hr
    rw [Ord.less_before, ByteArray.toList_eq, ByteArray.toList_eq] at h1
    exact h1)
theorem mapv_below {x y : World} {b n : Nat} {D : DataW RunD} (h : x.ownsMap Tryz.prog 9 RV b n D) (hb : Below x.heap.size x y) : y.ownsMap Tryz.prog 9 RV b n D :=
  h.kept (row := none) ⟨hb.os, hb.tape, hb.output, hb.size, fun k hk _ => hb.block k hk⟩ (by simp)
theorem mapv_step {w : World} (b n : Nat) (rs : List RunD) (r : RunD) (hown : w.ownsMap Tryz.prog 9 RV b n (dec rs)) (hn : n < maxLen) (hs : r.c.size ≤ maxLen) :
    ∃ w', Sem.run Tryz.prog (Instr.mapUpdate 97 (.map (some b)) (.string r.c) (.agg #[.string r.c, .int .i64 r.v, .string r.h, .int .i64 r.p, .int .i64 r.s, .int .i64 r.d, .int .i64 r.g, .int .i64 r.a, .int .i64 r.b, .int .i64 r.i, .int .i64 r.u])) w = .ok () w' ∧ w'.ownsMap Tryz.prog 9 RV b (n + 1) (dec (Ord.ins keyV r rs)) ∧ w.grownBy w' (some b) := by
  have h := hown.update lawV (t := 97) (e := 59) Tryz.underlying97 hn (keyOf_string_mk Tryz.underlying9 hs) (val := .agg #[.string r.c, .int .i64 r.v, .string r.h, .int .i64 r.p, .int .i64 r.s, .int .i64 r.d, .int .i64 r.g, .int .i64 r.a, .int .i64 r.b, .int .i64 r.i, .int .i64 r.u]) (d := .held r) (ps := []) rfl
  have e : (dec rs).put (Lit.string r.c.data.toList) (.held r) = dec (Ord.ins keyV r rs) := Ord.dec_put keyV r rs
  rw [e] at h
  exact h
theorem boxV {wr w' : World} {r : RunD} (hb : Below (wr.alloc (.cells #[.string r.c, .int .i64 r.v, .string r.h, .int .i64 r.p, .int .i64 r.s, .int .i64 r.d, .int .i64 r.g, .int .i64 r.a, .int .i64 r.b, .int .i64 r.i, .int .i64 r.u] 59)).heap.size (wr.alloc (.cells #[.string r.c, .int .i64 r.v, .string r.h, .int .i64 r.p, .int .i64 r.s, .int .i64 r.d, .int .i64 r.g, .int .i64 r.a, .int .i64 r.b, .int .i64 r.i, .int .i64 r.u] 59)) w') : w'.cell? ⟨wr.heap.size, 0, none⟩ = some (.string r.c) ∧ w'.cell? ⟨wr.heap.size, 1, none⟩ = some (.int .i64 r.v) ∧ w'.cell? ⟨wr.heap.size, 2, none⟩ = some (.string r.h) ∧ w'.cell? ⟨wr.heap.size, 3, none⟩ = some (.int .i64 r.p) ∧ w'.cell? ⟨wr.heap.size, 4, none⟩ = some (.int .i64 r.s) ∧ w'.cell? ⟨wr.heap.size, 5, none⟩ = some (.int .i64 r.d) ∧ w'.cell? ⟨wr.heap.size, 6, none⟩ = some (.int .i64 r.g) ∧ w'.cell? ⟨wr.heap.size, 7, none⟩ = some (.int .i64 r.a) ∧ w'.cell? ⟨wr.heap.size, 8, none⟩ = some (.int .i64 r.b) ∧ w'.cell? ⟨wr.heap.size, 9, none⟩ = some (.int .i64 r.i) ∧ w'.cell? ⟨wr.heap.size, 10, none⟩ = some (.int .i64 r.u) := by
  have hk := box_keep hb
  exact ⟨by rw [hk 0]; simp [go_sem], by rw [hk 1]; simp [go_sem], by rw [hk 2]; simp [go_sem], by rw [hk 3]; simp [go_sem], by rw [hk 4]; simp [go_sem], by rw [hk 5]; simp [go_sem], by rw [hk 6]; simp [go_sem], by rw [hk 7]; simp [go_sem], by rw [hk 8]; simp [go_sem], by rw [hk 9]; simp [go_sem], by rw [hk 10]; simp [go_sem]⟩
theorem boxV_grown {wr w' w2 : World} {r : RunD} {B : Nat} (h : w'.cell? ⟨wr.heap.size, 0, none⟩ = some (.string r.c) ∧ w'.cell? ⟨wr.heap.size, 1, none⟩ = some (.int .i64 r.v) ∧ w'.cell? ⟨wr.heap.size, 2, none⟩ = some (.string r.h) ∧ w'.cell? ⟨wr.heap.size, 3, none⟩ = some (.int .i64 r.p) ∧ w'.cell? ⟨wr.heap.size, 4, none⟩ = some (.int .i64 r.s) ∧ w'.cell? ⟨wr.heap.size, 5, none⟩ = some (.int .i64 r.d) ∧ w'.cell? ⟨wr.heap.size, 6, none⟩ = some (.int .i64 r.g) ∧ w'.cell? ⟨wr.heap.size, 7, none⟩ = some (.int .i64 r.a) ∧ w'.cell? ⟨wr.heap.size, 8, none⟩ = some (.int .i64 r.b) ∧ w'.cell? ⟨wr.heap.size, 9, none⟩ = some (.int .i64 r.i) ∧ w'.cell? ⟨wr.heap.size, 10, none⟩ = some (.int .i64 r.u)) (hg : w'.grownBy w2 (some B)) (hne : wr.heap.size ≠ B) : w2.cell? ⟨wr.heap.size, 0, none⟩ = some (.string r.c) ∧ w2.cell? ⟨wr.heap.size, 1, none⟩ = some (.int .i64 r.v) ∧ w2.cell? ⟨wr.heap.size, 2, none⟩ = some (.string r.h) ∧ w2.cell? ⟨wr.heap.size, 3, none⟩ = some (.int .i64 r.p) ∧ w2.cell? ⟨wr.heap.size, 4, none⟩ = some (.int .i64 r.s) ∧ w2.cell? ⟨wr.heap.size, 5, none⟩ = some (.int .i64 r.d) ∧ w2.cell? ⟨wr.heap.size, 6, none⟩ = some (.int .i64 r.g) ∧ w2.cell? ⟨wr.heap.size, 7, none⟩ = some (.int .i64 r.a) ∧ w2.cell? ⟨wr.heap.size, 8, none⟩ = some (.int .i64 r.b) ∧ w2.cell? ⟨wr.heap.size, 9, none⟩ = some (.int .i64 r.i) ∧ w2.cell? ⟨wr.heap.size, 10, none⟩ = some (.int .i64 r.u) :=
  ⟨hg.cell h.1 (by simpa using hne), hg.cell h.2.1 (by simpa using hne), hg.cell h.2.2.1 (by simpa using hne), hg.cell h.2.2.2.1 (by simpa using hne), hg.cell h.2.2.2.2.1 (by simpa using hne), hg.cell h.2.2.2.2.2.1 (by simpa using hne), hg.cell h.2.2.2.2.2.2.1 (by simpa using hne), hg.cell h.2.2.2.2.2.2.2.1 (by simpa using hne), hg.cell h.2.2.2.2.2.2.2.2.1 (by simpa using hne), hg.cell h.2.2.2.2.2.2.2.2.2.1 (by simpa using hne), hg.cell h.2.2.2.2.2.2.2.2.2.2 (by simpa using hne)⟩
theorem make_mapV (n : Nat) (w : World) : Sem.run Tryz.prog (Instr.makeMap 97 (some (.int .i64 (n : Int)))) w = .ok (.map (some w.heap.size)) (w.alloc (.map #[] 0)) := by
  kernel_rfl

set_option maxRecDepth 4000 in
set_option maxHeartbeats 2000000 in
theorem byNameV (b off cap : Nat) (rs : List RunD) (w : World) (hR : RowsAt w b off rs) (l1 : b < w.heap.size) (hfit : ∀ r ∈ rs, r.c.size ≤ maxLen) (hl : rs.length ≤ 1048576) (hs : Srt rs) :
    Calls Tryz.prog 66 #[.slice (some ⟨b, off, none⟩) rs.length cap, .func (.func 67) #[] #[]] w fun e w' => e = .returned (.map (some w.heap.size)) ∧ w'.ownsMap Tryz.prog 9 RV w.heap.size rs.length (dec rs) ∧ Below w.heap.size w w' := by
  have hmm := make_mapV rs.length
  have HS : Hid (Srt rs) := hs
  clear hs
  go_enter Tryz.func66, Tryz.ntmps66
  go_wp2
  clear hmm
  go_loopw [13] (fun i wx => ∃ (k : Nat), k ≤ rs.length ∧ i = .int .i64 k ∧ Hid (wx.ownsMap Tryz.prog 9 RV w.heap.size k (dec (rs.take k))) ∧ Below w.heap.size w wx) (fun i _ => rs.length - (intOf i).toNat)
  case atStart => exact ⟨0, Nat.zero_le _, rfl, World.ownsMap_made _ _ _ _, bl_alloc (Below.refl _ _) _⟩
  case round =>
    obtain ⟨k, hk, rfl, Ho, hB⟩ := hrel
    by_cases hlt : k < rs.length
    · obtain ⟨r, hr⟩ : ∃ r, rs[k]? = some r := ⟨rs[k], List.getElem?_eq_getElem hlt⟩
      have Hr : Hid _ := hr
      have hf1 := hfit r (List.mem_of_getElem? hr)
      obtain ⟨c0, c1, c2, c3, c4, c5, c6, c7, c8, c9, c10⟩ := (hR.keep l1 hB).at hr
      clear hr
      have hne : wr.heap.size ≠ w.heap.size := by have := Ho.out.lt; omega
      go_wp2_with fail
      go_region_held3 (fun w' => w'.cell? ⟨wr.heap.size, 0, none⟩ = some (.string r.c) ∧ w'.cell? ⟨wr.heap.size, 1, none⟩ = some (.int .i64 r.v) ∧ w'.cell? ⟨wr.heap.size, 2, none⟩ = some (.string r.h) ∧ w'.cell? ⟨wr.heap.size, 3, none⟩ = some (.int .i64 r.p) ∧ w'.cell? ⟨wr.heap.size, 4, none⟩ = some (.int .i64 r.s) ∧ w'.cell? ⟨wr.heap.size, 5, none⟩ = some (.int .i64 r.d) ∧ w'.cell? ⟨wr.heap.size, 6, none⟩ = some (.int .i64 r.g) ∧ w'.cell? ⟨wr.heap.size, 7, none⟩ = some (.int .i64 r.a) ∧ w'.cell? ⟨wr.heap.size, 8, none⟩ = some (.int .i64 r.b) ∧ w'.cell? ⟨wr.heap.size, 9, none⟩ = some (.int .i64 r.i) ∧ w'.cell? ⟨wr.heap.size, 10, none⟩ = some (.int .i64 r.u))
        (first | exact boxV (bl_drew (Below.refl _ _)) | exact boxV (bl_trans (bl_drew (Below.refl _ _)) hx) | exact boxV_grown (boxV (bl_trans (bl_drew (Below.refl _ _)) hx)) hg2 hne)
        (first | (go_at_call 67; refine (name_any r _).mono ?_; rintro e w' ⟨rfl, hx⟩) | (have hms := mapv_step w.heap.size k (rs.take k) r (mapv_below (mapv_below Ho.out (bl_drew (bl_alloc (Below.refl _ _) _))) hx) (by unfold maxLen; omega) hf1; obtain ⟨w2, hrun, ho2, hg2⟩ := hms; go_simp))
      have y1 := bl_trans (bl_trans hB (bl_alloc (Below.refl _ wr) _)) (bl_trans (bl_drew (Below.refl _ _)) hx)
      have Y2 : Hid (Below w.heap.size w w2) := Below.grown y1 hg2 y1.size (fun j hj => by cases hj; exact Nat.le_refl _)
      have O2 : Hid (w2.ownsMap Tryz.prog 9 RV w.heap.size (k + 1) (dec (rs.take (k + 1)))) := by
        show World.ownsMap _ _ _ _ _ _ _
        rw [← Ord.take_last keyV HS.out Hr.out]; exact ho2
      clear y1 hx hg2 ho2 hrun
      go_wp2
      exact ⟨⟨k + 1, by omega, by go_num, O2.out, Y2.out⟩, by simp [intOf]; omega⟩
    · go_wp2
      go_ret
      have e : k = rs.length := by omega
      subst e
      rw [List.take_of_length_le (Nat.le_refl _)] at Ho
      exact ⟨rfl, Ho.out, hB⟩
theorem zeroV (w : World) : (zeroValue 59).run Tryz.prog w = .ok (.agg #[.string ⟨#[]⟩, .int .i64 0, .string ⟨#[]⟩, .int .i64 0, .int .i64 0, .int .i64 0, .int .i64 0, .int .i64 0, .int .i64 0, .int .i64 0, .int .i64 0]) w := by kernel_rfl
/-- 'x, ok := m[k]'. -/
theorem lookV {w : World} (b n : Nat) (rs : List RunD) (hown : w.ownsMap Tryz.prog 9 RV b n (dec rs)) (hs : Srt rs) (s : ByteArray) (hz : s.size ≤ maxLen) :
    (∃ r ∈ rs, r.c = s ∧ Sem.run Tryz.prog (Instr.lookup 97 (.map (some b)) (.string s) true) w = .ok (.tuple #[.agg #[.string r.c, .int .i64 r.v, .string r.h, .int .i64 r.p, .int .i64 r.s, .int .i64 r.d, .int .i64 r.g, .int .i64 r.a, .int .i64 r.b, .int .i64 r.i, .int .i64 r.u], .bool true]) w) ∨ ((∀ r ∈ rs, r.c ≠ s) ∧ Sem.run Tryz.prog (Instr.lookup 97 (.map (some b)) (.string s) true) w = .ok (.tuple #[.agg #[.string ⟨#[]⟩, .int .i64 0, .string ⟨#[]⟩, .int .i64 0, .int .i64 0, .int .i64 0, .int .i64 0, .int .i64 0, .int .i64 0, .int .i64 0, .int .i64 0], .bool false]) w) := by
  obtain ⟨v, ps, hrun, hv⟩ := hown.look_ok lawV (t := 97) (e := 59) Tryz.underlying97 (zeroV w) (zd := .held ⟨⟨#[]⟩, ⟨#[]⟩, 0, 0, 0, 0, 0, 0, 0, 0, 0⟩) (zp := []) rfl (keyOf_string_mk Tryz.underlying9 hz)
  have hh : has (dec rs) (Lit.string s.data.toList) = rs.any (fun y => keyV y == s.data.toList) := Ord.dec_has keyV _ rs
  rw [hh] at hrun
  cases ha : rs.any (fun y => keyV y == s.data.toList)
  · right
    refine ⟨fun r hr e => ?_, ?_⟩
    · have := List.any_eq_false.1 ha r hr
      rw [← e] at this
      simp [keyV] at this
    · rw [show (dec rs).atKey (Lit.string s.data.toList) (.held ⟨⟨#[]⟩, ⟨#[]⟩, 0, 0, 0, 0, 0, 0, 0, 0, 0⟩) = .held ⟨⟨#[]⟩, ⟨#[]⟩, 0, 0, 0, 0, 0, 0, 0, 0, 0⟩ from Ord.dec_none keyV ha _] at hv
      rw [RV_inv hv, ha] at hrun
      exact hrun
  · left
    obtain ⟨r, hr, he⟩ := List.any_eq_true.1 ha
    have e1 : r.c.data.toList = s.data.toList := by simpa [keyV] using he
    have e2 : r.c = s := Ord.ba_ext e1
    refine ⟨r, hr, e2, ?_⟩
    rw [show Lit.string s.data.toList = Lit.string (keyV r) from by rw [← e1]; rfl, show (dec rs).atKey (Lit.string (keyV r)) (.held ⟨⟨#[]⟩, ⟨#[]⟩, 0, 0, 0, 0, 0, 0, 0, 0, 0⟩) = .held r from Ord.dec_at keyV hs hr _] at hv
    rw [RV_inv hv, ha] at hrun
    exact hrun
end Go.Proofs.YtiogkdafmgdbgaaGreat
/- What stands in a map, in order: runs. -/
namespace Go.Proofs.YtiogkdafmgdbgaaGreat
open Go.RowKit Go.Maps Go.WideMaps
set_option linter.unusedVariables false

/-- What maps.Keys answers. -/
def KeysSay : Prop := ∀ (mb : Option Nat) (Wo : World), Calls Tryz.prog 97 #[.map mb] Wo fun e w' => e = .returned (.func (.func 114) #[] #[.pointer (some ⟨Wo.heap.size, 0, none⟩)]) ∧ w' = Wo.alloc (.cells #[.map mb] 97)
/-- What slices.Sorted answers of it. -/
def SortedSay : Prop := ∀ (b nn : Nat) (rs : List RunD) (w : World), w.ownsMap Tryz.prog 9 RV b nn (dec rs) → rs.length ≤ 1048576 →
  Calls Tryz.prog 95 #[.func (.func 114) #[] #[.pointer (some ⟨w.heap.size, 0, none⟩)]] (w.alloc (.cells #[.map (some b)] 97)) fun e w' => ∃ (v : Value) (ss : List (List UInt8)), e = .returned v ∧ ss.Perm (strKeys (dec rs)) ∧
    w'.ownsRow (w.alloc (.cells #[.map (some b)] 97)).heap.size 9 1 v ss.length ((ss.mergeSort (fun x y => decide (x ≤ y))).map encStr) ∧ Below (w.alloc (.cells #[.map (some b)] 97)).heap.size (w.alloc (.cells #[.map (some b)] 97)) w'
/-- 'm[k]', k there. -/
theorem atV {w : World} (b n : Nat) (rs : List RunD) (hown : w.ownsMap Tryz.prog 9 RV b n (dec rs)) (hs : Srt rs) (r : RunD) (hr : r ∈ rs) (hz : r.c.size ≤ maxLen) :
    Sem.run Tryz.prog (Instr.lookup 97 (.map (some b)) (.string r.c) false) w = .ok (.agg #[.string r.c, .int .i64 r.v, .string r.h, .int .i64 r.p, .int .i64 r.s, .int .i64 r.d, .int .i64 r.g, .int .i64 r.a, .int .i64 r.b, .int .i64 r.i, .int .i64 r.u]) w := by
  obtain ⟨v, ps, hrun, hv⟩ := hown.lookup lawV (t := 97) (e := 59) Tryz.underlying97 (zeroV w) (zd := .held ⟨⟨#[]⟩, ⟨#[]⟩, 0, 0, 0, 0, 0, 0, 0, 0, 0⟩) (zp := []) rfl (keyOf_string_mk Tryz.underlying9 hz)
  rw [show Lit.string r.c.data.toList = Lit.string (keyV r) from rfl, show (dec rs).atKey (Lit.string (keyV r)) (.held ⟨⟨#[]⟩, ⟨#[]⟩, 0, 0, 0, 0, 0, 0, 0, 0, 0⟩) = .held r from Ord.dec_at keyV hs hr _] at hv
  rw [RV_inv hv] at hrun
  exact hrun

theorem enc_key (r : RunD) : encStr (keyV r) = Value.string r.c := by
  show Value.string ⟨r.c.data.toList.toArray⟩ = _
  rw [Array.toArray_toList]
theorem sl_low {w : World} {v : Value} {l : List RunD} {B B' : Nat} (h : Sl w v l B) (hB : B' ≤ B) : Sl w v l B' := by
  rcases h with h | ⟨g, cap, h0, h1, h2, h3, h4⟩
  · exact Or.inl h
  · exact Or.inr ⟨g, cap, h0, Nat.le_trans hB h1, h2, h3, h4⟩
theorem flat_snoc' {rs : List RunD} {k : Nat} {r : RunD} (hr : rs[k]? = some r) : flatR (rs.take (k + 1)) = flatR (rs.take k) ++ r.cells := by
  have hlt : k < rs.length := (List.getElem?_eq_some_iff.1 hr).1
  have he : rs[k] = r := by rw [List.getElem?_eq_getElem hlt] at hr; exact Option.some.inj hr
  rw [List.take_succ_eq_append_getElem hlt, he]
  simp [flatR]

set_option maxRecDepth 4000 in
set_option maxHeartbeats 2000000 in
theorem inOrderV (hK : KeysSay) (hS : SortedSay) (b nn : Nat) (rs : List RunD) (w : World) (hown : w.ownsMap Tryz.prog 9 RV b nn (dec rs)) (hs : Srt rs) (hfit : ∀ r ∈ rs, r.c.size ≤ maxLen) (hl : rs.length ≤ 1048576) :
    Calls Tryz.prog 73 #[.map (some b)] w fun e w' => (∃ v, e = .returned v ∧ Sl w' v rs w.heap.size) ∧ Below w.heap.size w w' := by
  have HO : Hid (w.ownsMap Tryz.prog 9 RV b nn (dec rs)) := hown
  have HS : Hid (Srt rs) := hs
  have cK : Hid KeysSay := hK
  have cS : Hid SortedSay := hS
  have HF : Hid _ := hfit
  clear hown hs hK hS hfit
  obtain ⟨i0, hi, hz0, hz1, hz2⟩ := info_parts infoR
  go_enter Tryz.func73, Tryz.ntmps73
  go_wp2_with fail
  refine (cK.out _ _).mono ?_
  rintro e w' ⟨rfl, rfl⟩
  go_wp2_with fail
  refine (cS.out b nn rs _ HO.out hl).mono ?_
  rintro e w1 ⟨v, ss, rfl, hp, hrow, hb⟩
  have hlen : ss.length = rs.length := by rw [hp.length_eq, show strKeys (dec rs) = rs.map keyV from Ord.keys_dec keyV rs, List.length_map]
  rw [Ord.sorted_keys keyV HS.out hp, hlen] at hrow
  have B1 : Hid (Below w.heap.size w w1) := bl_trans (bl_alloc (Below.refl _ _) _) hb
  have O1 : Hid (w1.ownsMap Tryz.prog 9 RV b nn (dec rs)) := mapv_below HO.out B1.out
  obtain ⟨a, c, rfl⟩ := str_shape hrow
  have Hrow : Hid (StrAt w1 a (rs.map (fun r => r.c))) := str_at (by rw [List.length_map, List.map_map]; rw [List.map_map, show (encStr ∘ keyV) = ((fun x => Value.string x) ∘ fun r : RunD => r.c) from funext enc_key] at hrow; exact hrow)
  clear hrow hp hb hlen
  go_wp2_with fail
  go_loopw [3, 10] (fun v i wx => ∃ (k : Nat), k ≤ rs.length ∧ i = .int .i64 k ∧ wx.ownsRow w1.heap.size 59 11 v k (flatR (rs.take k)) ∧ Hid (Below w1.heap.size w1 wx)) (fun _ i _ => rs.length - (intOf i).toNat)
  case atStart => exact ⟨0, Nat.zero_le _, rfl, World.ownsRow_nil _ _ _ _, Below.refl _ _⟩
  case round =>
    obtain ⟨k, hk, rfl, hown, HB⟩ := hrel
    by_cases hlt : k < rs.length
    · obtain ⟨r, hr⟩ : ∃ r, rs[k]? = some r := ⟨rs[k], List.getElem?_eq_getElem hlt⟩
      have Hr : Hid _ := hr
      obtain ⟨g, rfl, hg, hc⟩ := (Hrow.out.keep HB.out).resolve_left (fun h => by rw [List.map_eq_nil_iff] at h; rw [h] at hlt; simp at hlt)
      have c0 := hc k r.c (by rw [List.getElem?_map, hr]; rfl)
      have hlk := atV b nn rs (mapv_below O1.out HB.out) HS.out r (List.mem_of_getElem? hr) (HF.out r (List.mem_of_getElem? hr))
      obtain ⟨xs, hxs⟩ : ∃ xs, xs = flatR (rs.take k) := ⟨_, rfl⟩
      rw [← hxs] at hown
      have Ho : Hid (wr.ownsRow w1.heap.size 59 11 u3 k xs) := hown
      have Hx : Hid _ := hxs
      have hzw : w1.heap.size ≤ wr.heap.size := HB.out.size
      have i1 : (k : Int) < (rs.length : Int) := by omega
      clear hr hown hxs hc
      go_wp2_with (at_builtin; refine wpList_append_own _ rfl _ _ 32 rfl w1.heap.size 59 i0 _ 11 104 Tryz.underlying32 hi hz0 hz1 hz2 rfl (by decide) _ k _ rfl (by exact owns_below Ho.out (by repeat (first | exact Below.refl _ _ | refine bl_alloc ?_ _))) ⟨_, 0, none⟩ 1 1 r.cells rfl rfl (new_cells _ _ (by simp) _ _ _ rfl) (cellsR_one _) (by unfold maxLen; omega) (by omega) (by simp; omega) ?_; intro v' w2 ho2 hg2 hn2)
      refine ⟨⟨k + 1, by omega, by go_num, ?_, Below.grown (by repeat (first | exact HB.out | refine bl_alloc ?_ _)) hg2 (by simp; omega) (owns_ge Ho.out)⟩, by simp [intOf]; omega⟩
      rw [flat_snoc' Hr.out, ← Hx.out]
      exact ho2
    · go_wp2
      go_ret
      have hk' : k = rs.length := by omega
      subst hk'
      rw [List.take_of_length_le (Nat.le_refl _)] at hown
      exact ⟨⟨_, rfl, sl_low (Sl.of_owns hown) B1.out.size⟩, bl_trans B1.out HB.out⟩
end Go.Proofs.YtiogkdafmgdbgaaGreat
